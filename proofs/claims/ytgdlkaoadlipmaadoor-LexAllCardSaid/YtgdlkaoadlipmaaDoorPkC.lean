/- Texts put together: Below Buf BufMake Cells RowsOwn ResRow RegionT. -/
import Derived.WalkKit
import Derived.Below
import Derived.Deep.Draws
import Derived.Test.YtgdlkaoadlipmaaDoorChecked
import Derived.WalkSpells
import Derived.Outline
import Derived.Lib.Hide
import Derived.Lib.FrozenHead2
import Derived.Laws.OwnMore
import Derived.OwnWalk
import Derived.Laws.Tables
import Derived.Laws.CopyRow
import Derived.Deep.WholeRow
import Derived.Deep.MidRow
import Derived.Great.BuildSlice
import Derived.Laws.Rows
import Derived.Deep.RegionHeld

/- What lies below a mark is as it was: small steps. -/
namespace Go.Proofs.YtgdlkaoadlipmaaDoor
open Go.RowKit
theorem Below.drewMany {B : Nat} {w w1 : World} (h : Below B w w1) (n : Nat) : Below B w (w1.drewN n) := ⟨h.os, h.tape, h.output, h.size, h.block⟩
theorem Below.newly' (w : World) (o : Obj) : Below w.heap.size w (w.alloc o) := (Below.refl _ _).alloc (Nat.le_refl _) o
theorem Below.more {w w1 : World} (h : Below w.heap.size w w1) (o : Obj) : Below w.heap.size w (w1.alloc o) := h.alloc h.size o
theorem drawn_below (w : World) : Below w.heap.size w w.drew := Below.drewMany (Below.refl _ w) 1
end Go.Proofs.YtgdlkaoadlipmaaDoor

/- Lists of bytes that a call owns: what they hold, how they grow, and what text they are. -/
namespace Go.Proofs.YtgdlkaoadlipmaaDoor
open Go.RowKit

/-- The cells of these bytes. -/
def bv (l : List UInt8) : List Value := l.map fun c => .int .u8 (c.toNat : Int)
theorem bv_len (l : List UInt8) : (bv l).length = l.length := by simp [bv]
theorem bv_app (l r : List UInt8) : bv (l ++ r) = bv l ++ bv r := by simp [bv]
theorem bv_get {l : List UInt8} {j : Nat} {u : Value} (h : (bv l)[j]? = some u) : ∃ c, l[j]? = some c ∧ u = .int .u8 (c.toNat : Int) := by
  unfold bv at h
  rw [List.getElem?_map, Option.map_eq_some_iff] at h
  obtain ⟨c, h1, h2⟩ := h
  exact ⟨c, h1, h2.symm⟩
theorem bv_one {l : List UInt8} : ∀ u ∈ bv l, u.oneCell' = true := by
  intro u hu
  unfold bv at hu
  rw [List.mem_map] at hu
  obtain ⟨c, _, rfl⟩ := hu
  rfl

/-- v is a list of just these bytes, in a block from B on. -/
def Buf (B : Nat) (v : Value) (l : List UInt8) (w : World) : Prop := w.ownsRowF B 5 1 v l.length (bv l) ∧ B ≤ w.heap.size

section
variable {B : Nat} {v : Value} {l : List UInt8} {w w1 : World}
theorem Buf.nil (h : B ≤ w.heap.size) : Buf B (.slice none 0 0) [] w := ⟨World.ownsRowF_nil _ _ _ _, h⟩
theorem Buf.lit (hB : B ≤ w.heap.size) (cs : Array Value) (l : List UInt8) (hc : cs.toList = bv l) (hl4 : l.length ≤ 4096) :
    Buf B (.slice (some ⟨w.heap.size, 0, none⟩) l.length l.length) l (w.alloc (.cells cs 5)) := by
  have hl : l.length ≤ maxLen := by unfold maxLen; omega
  have hs : cs.size = l.length * 1 := by rw [← Array.length_toList, hc, bv_len]; omega
  refine ⟨?_, by simp; omega⟩
  have := World.ownsRowF_of (World.ownsRow_lit (base := B) (e := 5) (size := 1) w cs l.length hB hl hs)
  rwa [hc] at this
theorem Below.newly (w : World) (o : Obj) : Below w.heap.size w (w.alloc o) := (Below.refl _ _).alloc (Nat.le_refl _) o
/-- One call behind the other. -/
theorem Below.after {w w1 w2 : World} (h1 : Below w.heap.size w w1) (h2 : Below w1.heap.size w1 w2) : Below w.heap.size w w2 := h1.trans (h2.mono h1.size)
theorem Buf.drewN (h : Buf B v l w) (n : Nat) : Buf B v l (w.drewN n) := h
theorem Buf.alloc (h : Buf B v l w) (o : Obj) : Buf B v l (w.alloc o) := ⟨h.1.alloc o, by have := h.2; simp; omega⟩
theorem Buf.drew (h : Buf B v l w) : Buf B v l w.drew := h
theorem Buf.low {B' : Nat} (h : Buf B v l w) (hB : B' ≤ B) : Buf B' v l w := by
  obtain ⟨⟨h1, h2⟩, h3⟩ := h
  refine ⟨⟨h1, ?_⟩, by omega⟩
  rcases h2 with h2 | ⟨g, cap, cur, fz, a1, a2, a3⟩
  · exact .inl h2
  · exact .inr ⟨g, cap, cur, fz, a1, by omega, a3⟩
theorem Buf.later (h : Buf B v l w) (hb : Below w.heap.size w w1) : Buf B v l w1 := by
  obtain ⟨⟨h1, h2⟩, h3⟩ := h
  refine ⟨⟨h1, ?_⟩, Nat.le_trans h3 hb.size⟩
  rcases h2 with h2 | ⟨g, cap, cur, fz, a1, a2, a3, a4⟩
  · exact .inl h2
  · have hg : g < w.heap.size := by
      rcases Nat.lt_or_ge g w.heap.size with hlt | hge
      · exact hlt
      · rw [Array.getElem?_eq_none hge] at a3; cases a3
    exact .inr ⟨g, cap, cur, fz, a1, a2, (hb.block g hg).trans a3, a4⟩
/-- What a list yields that is appended: an address, and the bytes behind it. -/
theorem Buf.src (h : Buf B v l w) (hn : l ≠ []) : ∃ ad c, v = .slice (some ad) l.length c ∧ ∀ j u, (bv l)[j]? = some u → w.cell? (ad.add j) = some u := by
  obtain ⟨hr, _⟩ := h
  have hr' := hr
  obtain ⟨h1, h2⟩ := hr
  rcases h2 with ⟨_, h2⟩ | ⟨g, cap, cur, fz, a1, a2, a3, a4⟩
  · exact absurd (List.eq_nil_of_length_eq_zero h2) hn
  · subst a1
    exact ⟨⟨g, 0, none⟩, cap, rfl, hr'.cells rfl⟩
/-- The text of a list of bytes. -/
theorem Buf.str (h : Buf B v l w) : (convert 45 9 v).run Tryd.prog w = .ok (.string ⟨l.toArray⟩) w := by
  by_cases hn : l = []
  · subst hn
    obtain ⟨⟨h1, h2⟩, _⟩ := h
    rcases h2 with ⟨rfl, _⟩ | ⟨g, cap, cur, fz, rfl, a2, a3, a4⟩
    · rw [run_convert_bytes_string w 45 9 5 none 0 0 Tryd.underlying45 Tryd.underlying5 Tryd.underlying9]
      rfl
    · exact run_convert_bytes_back (P := Tryd.prog) w 45 9 5 ⟨g, 0, none⟩ cap [] Tryd.underlying45 Tryd.underlying5 Tryd.underlying9 (fun j hj => by simp at hj)
  · obtain ⟨ad, c, rfl, hc⟩ := h.src hn
    refine run_convert_bytes_back (P := Tryd.prog) w 45 9 5 ad c l Tryd.underlying45 Tryd.underlying5 Tryd.underlying9 (fun j hj => hc j _ ?_)
    simp [bv, hj]
theorem Buf.len (h : Buf B v l w) : ∃ a c, v = .slice a l.length c := by
  obtain ⟨⟨_, h2⟩, _⟩ := h
  rcases h2 with ⟨rfl, h2⟩ | ⟨g, cap, cur, fz, rfl, _⟩
  · exact ⟨none, 0, by rw [h2]⟩
  · exact ⟨_, _, rfl⟩
end

theorem u8_info : (Tryd.prog.info? 5).map (fun i => (i.zero, i.size, i.bytes)) = some (some (.int .u8 0), 1, 1) := by kernel_rfl

/-- 'append(out, x, y ..)', 'append(out, xs...)' of bytes that lie behind an address: the operation. -/
theorem buf_wp {o : Oper} {a : Act} {K : Act → World → Prop} {Q : Exit → Act → World → Prop} {w : World} (s x : Operand)
    (ho : o.op = .call { callee := .builtin .append, args := #[s, x], argTypes := #[45, 45] })
    {B : Nat} {v : Value} {l : List UInt8} (hs : a.eval s = v) (hb : Buf B v l w) (r : List UInt8) (ad : Addr) (c : Nat) (hx : a.eval x = .slice (some ad) r.length c)
    (hc : ∀ j u, (bv r)[j]? = some u → w.cell? (ad.add j) = some u) (hlen : l.length + r.length ≤ 140737488355328)
    (h : ∀ v' w', Buf B v' (l ++ r) w' → Below B w w' → K (a.put o.dst v') w') : o.wp Tryd.prog a w K Q := by
  obtain ⟨i, hi, hz, h1, h2⟩ := info_parts u8_info
  obtain ⟨v', w', hr, g1, g2, _⟩ := run_append_ownF (P := Tryd.prog) w B 45 o.type 5 i (.int .u8 0) 1 1 Tryd.underlying45 hi hz h1 h2 rfl (by decide) v l.length (bv l) hb.1 ad r.length c (bv r) (by rw [bv_len]; omega) hc bv_one
    (by unfold maxLen; omega) (by omega) hb.2
  unfold Oper.wp execOp
  simp only [ho, resolve, invoke, builtin, Sem.run_bind, Sem.run_pure, Result.andThen_ok, List.map_toArray, List.map_cons, List.map_nil, hs, hx, hr]
  refine h v' w' ⟨by rw [List.length_append, bv_app]; exact g1, Nat.le_trans hb.2 g2.size⟩ ?_
  exact (Below.refl _ _).grown g2 hb.2 (fun k hk => (hb.1.lt k hk).1)
/-- .. in a list of operations. -/
theorem buf_append {ops : Array Oper} {rest : List Oper} {o : Oper} {a : Act} {Q : Exit → Act → World → Prop} {w : World} (hgd : o.guard = none) (s x : Operand)
    (ho : o.op = .call { callee := .builtin .append, args := #[s, x], argTypes := #[45, 45] })
    {B : Nat} {v : Value} {l : List UInt8} (hs : a.eval s = v) (hb : Buf B v l w) (r : List UInt8) (ad : Addr) (c : Nat) (hx : a.eval x = .slice (some ad) r.length c)
    (hc : ∀ j u, (bv r)[j]? = some u → w.cell? (ad.add j) = some u) (hlen : l.length + r.length ≤ 140737488355328)
    (h : ∀ v' w', Buf B v' (l ++ r) w' → Below B w w' → wpList Tryd.prog ops Q rest (a.put o.dst v') w') : wpList Tryd.prog ops Q (o :: rest) a w :=
  wpList_plain hgd fun _ hK => buf_wp s x ho hs hb r ad c hx hc hlen fun v' w' h1 h2 => hK _ _ (h v' w' h1 h2)
/-- .. in a region that draws its order. -/
theorem buf_step {ops : Array Oper} {o : Oper} {a : Act} {K : Act → World → Prop} {Q : Exit → Act → World → Prop} {E : Prop} {w : World} (hgd : o.guard = none) (s x : Operand)
    (ho : o.op = .call { callee := .builtin .append, args := #[s, x], argTypes := #[45, 45] })
    {B : Nat} {v : Value} {l : List UInt8} (hs : a.eval s = v) (hb : Buf B v l w) (r : List UInt8) (ad : Addr) (c : Nat) (hx : a.eval x = .slice (some ad) r.length c)
    (hc : ∀ j u, (bv r)[j]? = some u → w.cell? (ad.add j) = some u) (hlen : l.length + r.length ≤ 140737488355328)
    (h : ∀ v' w', Buf B v' (l ++ r) w' → Below B w w' → K (a.put o.dst v') w') : if Region.wanted o (yielded ops a.tmps) = true then Oper.wp Tryd.prog o a w K Q else E := by
  have hw : Region.wanted o (yielded ops a.tmps) = true := by simp [Region.wanted, hgd]
  rw [if_pos hw]
  exact buf_wp s x ho hs hb r ad c hx hc hlen h
/-- The cells of bytes that a statement has just laid. -/
theorem new_cells (w : World) (r : List UInt8) (cs : Array Value) (hcs : cs = (bv r).toArray) : ∀ j u, (bv r)[j]? = some u → (w.alloc (.cells cs 5)).cell? ((⟨w.heap.size, 0, none⟩ : Addr).add j) = some u := by
  subst hcs
  intro j u hu
  have e : (⟨w.heap.size, 0, none⟩ : Addr).add j = ⟨w.heap.size, j, none⟩ := by
    simp [Addr.add]
    intro hj; exact hj.symm
  rw [e]
  simpa using hu
/-- .. of bytes that the statement itself has just laid. -/
theorem buf_append_new {ops : Array Oper} {rest : List Oper} {o : Oper} {a : Act} {Q : Exit → Act → World → Prop} {w : World} (hgd : o.guard = none) (s x : Operand)
    (ho : o.op = .call { callee := .builtin .append, args := #[s, x], argTypes := #[45, 45] })
    {B : Nat} {v : Value} {l : List UInt8} (hs : a.eval s = v) (hb : Buf B v l w) (r : List UInt8) (cs : Array Value) (hcs : cs = (bv r).toArray) (n c : Nat) (hn : n = r.length) (hx : a.eval x = .slice (some ⟨w.heap.size, 0, none⟩) n c)
    (hlen : l.length + r.length ≤ 140737488355328)
    (h : ∀ v' w', Buf B v' (l ++ r) w' → Below B w w' → wpList Tryd.prog ops Q rest (a.put o.dst v') w') : wpList Tryd.prog ops Q (o :: rest) a (w.alloc (.cells cs 5)) := by
  subst hn
  exact buf_append hgd s x ho hs (hb.alloc _) r ⟨w.heap.size, 0, none⟩ c hx (new_cells w r cs hcs) hlen fun v' w' h1 h2 => h v' w' h1 (((Below.refl _ _).alloc hb.2 _).trans h2)
end Go.Proofs.YtgdlkaoadlipmaaDoor

/- A list of bytes that a call makes with a capacity. -/
namespace Go.Proofs.YtgdlkaoadlipmaaDoor
open Go.RowKit

/-- 'make([]byte, 0, n)': a list of its own, empty. -/
theorem buf_make {ops : Array Oper} {rest : List Oper} {o : Oper} {a : Act} {Q : Exit → Act → World → Prop} {w : World} (hgd : o.guard = none) (l c : Operand) (hop : o.op = .makeSlice 45 l c)
    {B : Nat} (kl kc : IntKind) (C : Int) (n : Nat) (hl : a.eval l = .int kl 0) (hc : a.eval c = .int kc C) (hC : C = (n : Int)) (hn : n ≤ 10000000) (hB : B ≤ w.heap.size)
    (h : ∀ v w', Buf B v [] w' → Below w.heap.size w w' → wpList Tryd.prog ops Q rest (a.put o.dst v) w') : wpList Tryd.prog ops Q (o :: rest) a w := by
  obtain ⟨i, hi, hz, h1, h2⟩ := info_parts u8_info
  refine wpList_make_own w hgd l c 45 hop B 5 i (.int .u8 0) 1 Tryd.underlying45 hi hz h1 kl kc C n hl hc hC (by rw [h2]; omega) (by unfold maxLen; omega) hB fun w' r1 r2 => ?_
  have hb : Below w.heap.size w w' := (Below.refl _ _).grown r2 (Nat.le_refl _) (fun k hk => by cases hk)
  exact h _ _ ⟨World.ownsRowF_of r1, Nat.le_trans hB hb.size⟩ hb
end Go.Proofs.YtgdlkaoadlipmaaDoor

/- Variables of a call's own that have many cells: what is stored into them and read out of them, in worlds of which little is known. -/
namespace Go.Proofs.YtgdlkaoadlipmaaDoor
open Go.RowKit
set_option maxRecDepth 1000000

/-- Just block X is another one. -/
structure Only (X : Nat) (w w' : World) : Prop where
  by_ : w.grownBy w' (some X)
  size : w'.heap.size = w.heap.size
theorem Only.refl (X : Nat) (w : World) : Only X w w := ⟨⟨rfl, rfl, rfl, Nat.le_refl _, fun _ _ _ => rfl⟩, rfl⟩
theorem Only.below {X B : Nat} {w w' : World} (h : Only X w w') (hB : B ≤ X) : Below B w w' :=
  ⟨h.by_.os, h.by_.tape, h.by_.output, h.by_.size, fun k hk => by
    by_cases hlt : k < w.heap.size
    · exact h.by_.block k hlt (by simp; omega)
    · have hz := h.size
      rw [Array.getElem?_eq_none (by omega), Array.getElem?_eq_none (by omega)]⟩
theorem Only.trans {X : Nat} {a b c : World} (h : Only X a b) (k : Only X b c) : Only X a c :=
  ⟨⟨k.by_.os.trans h.by_.os, k.by_.tape.trans h.by_.tape, k.by_.output.trans h.by_.output, Nat.le_trans h.by_.size k.by_.size, fun i hi hne => (k.by_.block i (Nat.lt_of_lt_of_le hi h.by_.size) hne).trans (h.by_.block i hi hne)⟩, k.size.trans h.size⟩
theorem Only.other {X Y : Nat} {w w' : World} {o : Obj} (h : Only X w w') (hy : w.heap[Y]? = some o) (hne : Y ≠ X) : w'.heap[Y]? = some o :=
  (h.by_.block Y (Array.getElem?_eq_some_iff.1 hy).1 (by simpa using fun e => hne e)).trans hy
theorem only_setRow (w : World) (X : Nat) (c : Array Value) : Only X w (w.setRow X c) := by
  refine ⟨⟨rfl, rfl, rfl, by simp [World.setRow], fun j hj hne => ?_⟩, by simp [World.setRow]⟩
  simp only [World.setRow]
  rw [Array.getElem?_modify]
  split
  · subst_vars; simp at hne
  · rfl

/-- What a variable of many cells holds is read: some of them. -/
theorem cell_in {W : World} {X : Nat} {c : Array Value} {T : TypeId} {fr : Nat × Nat} (h : W.heap[X]? = some (.cells c T fr)) {j : Nat} {v : Value} (hv : c[j]? = some v) : W.cell? ⟨X, j, none⟩ = some v := by
  rw [cell_of_row W X j c T fr h, hv]

/-- A struct or an array goes whole into a variable. -/
theorem st_agg {ops : Array Oper} {rest : List Oper} {o : Oper} {a : Act} {w : World} {Q : Exit → Act → World → Prop} (hgd : o.guard = none) (ty : TypeId) (x y : Operand) (ho : o.op = .store ty x y)
    (X : Nat) (c' : Array Value) (hx : a.eval x = .pointer (some ⟨X, 0, none⟩)) (hy : a.eval y = .agg c') (T : TypeId) (c : Array Value) (hB : w.heap[X]? = some (.cells c T (0, 0)))
    (hi : (Tryd.prog.info? ty).map (·.size) = some c'.size) (hs : c.size = c'.size) (h1 : c'.all (·.oneCell') = true)
    (h : ∀ w', w'.heap[X]? = some (.cells c' T (0, 0)) → Only X w w' → wpList Tryd.prog ops Q rest (a.put o.dst undef) w') : wpList Tryd.prog ops Q (o :: rest) a w :=
  wpList_plain hgd fun _ hK => wp_store_row ty x y ho X _ hx hy T _ hB hi hs h1 (hK _ _ (h _ (setRow_heap w X _ _ _ _ hB) (only_setRow _ _ _)))

/-- .. where an operation is carried out by itself (in a region that draws its order). -/
theorem st_agg_wp {o : Oper} {a : Act} {w : World} {K : Act → World → Prop} {Q : Exit → Act → World → Prop} (ty : TypeId) (x y : Operand) (ho : o.op = .store ty x y)
    (X : Nat) (c' : Array Value) (hx : a.eval x = .pointer (some ⟨X, 0, none⟩)) (hy : a.eval y = .agg c') (T : TypeId) (c : Array Value) (hB : w.heap[X]? = some (.cells c T (0, 0)))
    (hi : (Tryd.prog.info? ty).map (·.size) = some c'.size) (hs : c.size = c'.size) (h1 : c'.all (·.oneCell') = true)
    (h : ∀ w', w'.heap[X]? = some (.cells c' T (0, 0)) → Only X w w' → K (a.put o.dst undef) w') : o.wp Tryd.prog a w K Q :=
  wp_store_row ty x y ho X _ hx hy T _ hB hi hs h1 (h _ (setRow_heap w X _ _ _ _ hB) (only_setRow _ _ _))

theorem run_storeVar_cell (w : World) (g k : Nat) (T ty : TypeId) (cur : Array Value) (v : Value) (hg : w.heap[g]? = some (.cells cur T (0, 0))) (hk : k < cur.size) (hi : (Tryd.prog.info? ty).map (·.size) = some 1)
    (h1 : v.oneCell' = true) : (storeVar ty ⟨g, k, none⟩ v).run Tryd.prog w = .ok () (w.setRow g (cur.setIfInBounds k v)) := by
  have := run_storeCells_at (P := Tryd.prog) g k T [v] 0 cur w hg (by simp; omega) (fun x hx => by simp at hx; subst hx; exact h1)
  have hc : v.cells = #[v] := by cases v <;> first | rfl | cases h1
  have e : (cur.toList.take (k + 0) ++ [v] ++ cur.toList.drop (k + 0 + [v].length)).toArray = cur.setIfInBounds k v := by
    apply Array.ext_getElem?
    intro i
    simp only [Nat.add_zero, List.length_cons, List.length_nil, List.getElem?_toArray, Array.getElem?_setIfInBounds]
    rw [List.append_assoc, List.getElem?_append]
    simp only [List.length_take, Array.length_toList]
    by_cases h : i < k
    · rw [if_pos (by omega), List.getElem?_take_of_lt h, if_neg (by omega)]
      simp
    · rw [if_neg (by omega)]
      by_cases h' : i = k
      · subst h'
        rw [if_pos rfl, if_pos hk, show i - min i cur.size = 0 by omega]
        simp
      · rw [if_neg (by omega), show i - min k cur.size = (i - k - 1) + 1 by omega]
        simp only [List.singleton_append, List.getElem?_cons_succ, List.getElem?_drop]
        rw [show k + (0 + 1) + (i - k - 1) = i by omega]
        simp
  rw [e] at this
  cases hq : Tryd.prog.info? ty with
  | none => simp [hq] at hi
  | some i =>
    have hs : i.size = 1 := by simpa [hq] using hi
    simp [storeVar, sizeOf, typeInfo, hq, hc, hs, this]
/-- One cell goes into a variable of many. -/
theorem st_cell {ops : Array Oper} {rest : List Oper} {o : Oper} {a : Act} {w : World} {Q : Exit → Act → World → Prop} (hgd : o.guard = none) (ty : TypeId) (x y : Operand) (ho : o.op = .store ty x y)
    (X k : Nat) (v : Value) (hx : a.eval x = .pointer (some ⟨X, k, none⟩)) (hy : a.eval y = v) (h1 : v.oneCell' = true) (T : TypeId) (c : Array Value) (hB : w.heap[X]? = some (.cells c T (0, 0)))
    (hi : (Tryd.prog.info? ty).map (·.size) = some 1) (hk : k < c.size)
    (h : ∀ w', w'.heap[X]? = some (.cells (c.setIfInBounds k v) T (0, 0)) → Only X w w' → wpList Tryd.prog ops Q rest (a.put o.dst undef) w') : wpList Tryd.prog ops Q (o :: rest) a w :=
  wpList_plain hgd fun _ hK => by
    unfold Oper.wp execOp
    simp only [ho, hx, hy, Instr.storeAt, Instr.sureAddr, Sem.run_bind, Sem.run_pure, Result.andThen_ok, run_storeVar_cell w X k T ty c v hB hk hi h1]
    exact hK _ _ (h _ (setRow_heap w X _ _ _ _ hB) (only_setRow _ _ _))
/-- A struct or an array is read whole out of a variable, where a guard is met (or there is none). -/
theorem ld_if {ops : Array Oper} {rest : List Oper} {o : Oper} {a : Act} {w : World} {Q : Exit → Act → World → Prop} (hwd : Region.wanted o (yielded ops a.tmps) = true) (ty : TypeId) (x : Operand) (ho : o.op = .load ty x)
    (X : Nat) (hx : a.eval x = .pointer (some ⟨X, 0, none⟩)) (T : TypeId) (c : Array Value) (fr : Nat × Nat) (d : TypeDesc) (hB : w.heap[X]? = some (.cells c T fr))
    (hu : Tryd.prog.underlying ty = some d) (hd : d.isRow = true) (hi : (Tryd.prog.info? ty).map (·.size) = some c.size)
    (h : wpList Tryd.prog ops Q rest (a.put o.dst (.agg c)) w) : wpList Tryd.prog ops Q (o :: rest) a w :=
  wpList_step fun _ hK => by
    rw [if_pos hwd]
    exact wp_load_row ty x ho X hx T c fr d hB hu (by cases d <;> simp_all [TypeDesc.isRow]) hi (hK _ _ h)
end Go.Proofs.YtgdlkaoadlipmaaDoor

/- Lists of structs, arrays or lists that a call owns. -/
namespace Go.Proofs.YtgdlkaoadlipmaaDoor
open Go.RowKit
set_option maxRecDepth 1000000

/-- v is a list of just these structs or arrays of s cells each, in a block from B on. -/
def RowsOwn (B : Nat) (e : TypeId) (s : Nat) (v : Value) (cs : List (Array Value)) (w : World) : Prop :=
  w.ownsRowF B e s v cs.length (cs.flatMap Array.toList) ∧ B ≤ w.heap.size ∧ ∀ c ∈ cs, c.size = s
theorem flat_len' (s : Nat) : ∀ cs : List (Array Value), (∀ c ∈ cs, c.size = s) → (cs.flatMap Array.toList).length = cs.length * s
  | [], _ => by simp
  | c :: cs, h => by
    rw [List.flatMap_cons, List.length_append, flat_len' s cs (fun x hx => h x (List.mem_cons_of_mem _ hx)), Array.length_toList, h c (List.mem_cons_self ..), List.length_cons, Nat.add_mul]
    omega
theorem flat_get (s : Nat) : ∀ (cs : List (Array Value)) (i k : Nat) (c : Array Value), (∀ c ∈ cs, c.size = s) → cs[i]? = some c → k < s → (cs.flatMap Array.toList)[i * s + k]? = c[k]?
  | [], _, _, _, _, h, _ => by simp at h
  | a :: cs, 0, k, c, hs, h, hk => by
    simp at h
    subst h
    have := hs a (List.mem_cons_self ..)
    rw [List.flatMap_cons, List.getElem?_append_left (by simp; omega)]
    simp
  | a :: cs, i + 1, k, c, hs, h, hk => by
    have ha := hs a (List.mem_cons_self ..)
    rw [List.flatMap_cons, List.getElem?_append_right (by simp [ha, Nat.add_mul]; omega), Array.length_toList, ha,
      show (i + 1) * s + k - s = i * s + k by rw [Nat.add_mul]; omega]
    exact flat_get s cs i k c (fun x hx => hs x (List.mem_cons_of_mem _ hx)) (by simpa using h) hk
section
variable {B : Nat} {e : TypeId} {s : Nat} {v : Value} {cs : List (Array Value)} {w w' : World}
theorem RowsOwn.grown {row : Option Nat} (h : RowsOwn B e s v cs w) (hg : w.grownBy w' row) (hne : v.ownBlock = none ∨ v.ownBlock ≠ row) : RowsOwn B e s v cs w' :=
  ⟨h.1.kept hg hne, Nat.le_trans h.2.1 hg.size, h.2.2⟩
theorem RowsOwn.later (h : RowsOwn B e s v cs w) (hb : Below w.heap.size w w') : RowsOwn B e s v cs w' := h.grown (row := none) ⟨hb.os, hb.tape, hb.output, hb.size, fun k hk _ => hb.block k hk⟩ (by cases v.ownBlock <;> simp)
/-- Its block. -/
theorem RowsOwn.at_ (h : RowsOwn B e s v cs w) (hn : cs ≠ []) : ∃ g cap cur fz, v = .slice (some ⟨g, 0, none⟩) cs.length cap ∧ v.ownBlock = some g ∧ B ≤ g ∧ w.heap[g]? = some (.cells cur e fz) := by
  obtain ⟨⟨_, h2⟩, _, _⟩ := h
  rcases h2 with ⟨_, h2⟩ | ⟨g, cap, cur, fz, rfl, a2, a3, _⟩
  · exact absurd (List.eq_nil_of_length_eq_zero h2) hn
  · exact ⟨g, cap, cur, fz, rfl, rfl, a2, a3⟩
/-- Another variable is written. -/
theorem RowsOwn.but {X : Nat} (h : RowsOwn B e s v cs w) (hn : cs ≠ []) (k : Only X w w') (hX : X < B) : RowsOwn B e s v cs w' := by
  obtain ⟨g, cap, cur, fz, _, h2, h3, _⟩ := h.at_ hn
  exact h.grown k.by_ (.inr (by rw [h2]; simp; omega))
/-- Another list of another type grows. -/
theorem RowsOwn.apart {e' : TypeId} {s' : Nat} {v' : Value} {cs' : List (Array Value)} (h : RowsOwn B e s v cs w) (hn : cs ≠ []) (h' : RowsOwn B e' s' v' cs' w) (hn' : cs' ≠ []) (hT : e ≠ e') (hg : w.grownBy w' v'.ownBlock) : RowsOwn B e s v cs w' := by
  obtain ⟨g, cap, cur, fz, _, h2, _, h4⟩ := h.at_ hn
  obtain ⟨g', cap', cur', fz', _, h2', _, h4'⟩ := h'.at_ hn'
  refine h.grown hg (.inr ?_)
  rw [h2, h2']
  intro x
  obtain rfl := Option.some.inj x
  rw [h4] at h4'
  simp only [Option.some.injEq, Obj.cells.injEq] at h4'
  exact hT h4'.2.1
/-- What the list holds at i lies there. -/
theorem RowsOwn.read (h : RowsOwn B e s v cs w) {g cap n i : Nat} (hv : v = .slice (some ⟨g, 0, none⟩) n cap) {c : Array Value} (hc : cs[i]? = some c) : w.rangeAt g (i * s) c.toList := by
  obtain ⟨hr, _, hs⟩ := h
  intro j u hu
  have hcs : c.size = s := hs c (List.mem_of_getElem? hc)
  have hj : j < s := by have := (List.getElem?_eq_some_iff.1 hu).1; simp at this; omega
  have h1 := flat_get s cs i j c hs hc hj
  have h2 : (cs.flatMap Array.toList)[i * s + j]? = some u := by rw [h1]; simpa using hu
  have hr' := hr
  rcases hr.2 with ⟨h3, _⟩ | ⟨g', cap', cur, fz, h3, _⟩
  · rw [hv] at h3; cases h3
  · rw [hv] at h3
    simp only [Value.slice.injEq, Option.some.injEq, Addr.mk.injEq] at h3
    obtain ⟨⟨rfl, _, _⟩, rfl, rfl⟩ := h3
    have h4 := hr'.cells (by rw [hv]; rfl) _ u h2
    have e : (⟨g, 0, none⟩ : Addr).add (i * s + j) = ⟨g, i * s + j, none⟩ := by unfold Addr.add; split <;> simp_all
    rw [e] at h4
    exact h4
end
/-- A list of one struct: 'append(x, s)', '[]T{s}'. -/
theorem bs_wp {o : Oper} {a : Act} {w : World} {K : Act → World → Prop} {Q : Exit → Act → World → Prop} (t e : TypeId) (y : Operand) (ho : o.op = .buildSlice t 1 #[(0, y)]) (c : Array Value) (s : Nat) (z : Value)
    (hy : a.eval y = .agg c) (hc : c.size = s) (hs : 0 < s) (hs2 : s ≤ 4096) (hu : Tryd.prog.underlying t = some (.slice e)) (hi : (Tryd.prog.info? e).map (fun i => (i.size, i.zero)) = some (s, some z))
    (h : ∀ w', w'.heap[w.heap.size]? = some (.cells c e (0, 0)) → Below w.heap.size w w' → w'.heap.size = w.heap.size + 1 → K (a.put o.dst (.slice (some ⟨w.heap.size, 0, none⟩) 1 1)) w') : o.wp Tryd.prog a w K Q := by
  cases hq : Tryd.prog.info? e with
  | none => simp [hq] at hi
  | some i =>
    simp only [hq, Option.map_some, Option.some.injEq, Prod.mk.injEq] at hi
    obtain ⟨r, r1, r2, r3⟩ := Great.fill_dense hs [.agg c] 0 ((Array.range (1 * i.size)).map (z.cells[· % z.cells.size]!)) (fun v hv => by simp at hv; subst hv; exact hc) (by simp [hi.1])
    have e1 : r = c := by
      apply Array.ext_getElem?
      intro k
      rw [r3 k]
      by_cases hk : k < s
      · rw [if_pos ⟨by omega, by simp; omega⟩, Nat.div_eq_of_lt hk, Nat.mod_eq_of_lt hk]
        simp [Value.cells]
      · rw [if_neg (by simp; omega), Array.getElem?_eq_none (by simp [hi.1]; omega), Array.getElem?_eq_none (by omega)]
    subst e1
    refine wp_buildSlice t e 1 _ ho r i z hu hq hi.2 (by rw [hi.1]; omega) (by rw [hi.1]; omega) ?_ ?_
    · rw [← hi.1] at r1
      simpa [hy] using r1
    · refine h _ (heap_alloc_last w _) (Below.newly' _ _) (by simp)
theorem rows_lit {B : Nat} {e : TypeId} {s g : Nat} {c : Array Value} {w : World} (hB : B ≤ g) (hg : w.heap[g]? = some (.cells c e (0, 0))) (hc : c.size = s) : RowsOwn B e s (.slice (some ⟨g, 0, none⟩) 1 1) [c] w := by
  have hlt := (Array.getElem?_eq_some_iff.1 hg).1
  refine ⟨⟨by simp [hc], .inr ⟨g, 1, c, (0, 0), rfl, hB, hg, by simp, Nat.le_refl _, by decide, by omega, ?_⟩⟩, by omega, fun x hx => by simp at hx; subst hx; exact hc⟩
  rw [List.take_of_length_le (by simp; omega)]
  simp
/-- 'append(rows, x)' where the list of x has just been laid: the operation. -/
theorem rows_wp {o : Oper} {a : Act} {K : Act → World → Prop} {Q : Exit → Act → World → Prop} {w : World} (t e : TypeId) (p q : Operand)
    (ho : o.op = .call { callee := .builtin .append, args := #[p, q], argTypes := #[t, t] })
    {B s by_ : Nat} {z v : Value} {cs : List (Array Value)} {c : Array Value} (hs : a.eval p = v) (hb : RowsOwn B e s v cs w) (g : Nat) (hx : a.eval q = .slice (some ⟨g, 0, none⟩) 1 1)
    (hg : w.heap[g]? = some (.cells c e (0, 0))) (hc : c.size = s) (h1 : c.all (·.oneCell') = true) (hu : Tryd.prog.underlying t = some (.slice e)) (hi : (Tryd.prog.info? e).map (fun i => (i.zero, i.size, i.bytes)) = some (some z, s, by_))
    (hzs : z.cells.size = s) (hsz : 0 < s) (hlen : cs.length ≤ 100000) (hby : by_ ≤ 1000000)
    (h : ∀ v' w', RowsOwn B e s v' (cs ++ [c]) w' → w.grownBy w' v.ownBlock → K (a.put o.dst v') w') : o.wp Tryd.prog a w K Q := by
  obtain ⟨i, hi0, hz, h2, h3⟩ := info_parts hi
  have hcell : ∀ j u, c.toList[j]? = some u → w.cell? ((⟨g, 0, none⟩ : Addr).add j) = some u := fun j u hj => by
    have e : (⟨g, 0, none⟩ : Addr).add j = ⟨g, j, none⟩ := by unfold Addr.add; split <;> simp_all
    rw [e]
    exact cell_in hg (by simpa using hj)
  have hbytes : (cs.length + 1) * by_ ≤ 140737488355328 := by
    have : (cs.length + 1) * by_ ≤ 100001 * 1000000 := Nat.mul_le_mul (by omega) hby
    omega
  obtain ⟨v', w', hr, g1, g2, _⟩ := run_append_ownF (P := Tryd.prog) w B t o.type e i z s by_ hu hi0 hz h2 h3 hzs hsz v cs.length (cs.flatMap Array.toList) hb.1 ⟨g, 0, none⟩ 1 1 c.toList (by simp [hc]) hcell
    (fun u hu => (Array.all_eq_true_iff_forall_mem.1 h1) u (by simpa using hu)) (by unfold maxLen; omega) hbytes hb.2.1
  unfold Oper.wp execOp
  simp only [ho, resolve, invoke, builtin, Sem.run_bind, Sem.run_pure, Result.andThen_ok, List.map_toArray, List.map_cons, List.map_nil, hs, hx, hr]
  refine h v' w' ⟨?_, Nat.le_trans hb.2.1 g2.size, fun x hx => ?_⟩ g2
  · rw [List.length_append, List.flatMap_append]
    simpa using g1
  · rcases List.mem_append.1 hx with hx | hx
    · exact hb.2.2 x hx
    · simp at hx; subst hx; exact hc
section
variable {B : Nat} {e : TypeId} {s : Nat} {v : Value} {cs : List (Array Value)} {w w' : World}
theorem RowsOwn.own (h : RowsOwn B e s v cs w) : v.ownBlock = none ∨ ∃ g cur fz, v.ownBlock = some g ∧ B ≤ g ∧ w.heap[g]? = some (.cells cur e fz) := by
  obtain ⟨⟨_, h2⟩, _, _⟩ := h
  rcases h2 with ⟨rfl, _⟩ | ⟨g, cap, cur, fz, rfl, a2, a3, _⟩
  · exact .inl rfl
  · exact .inr ⟨g, cur, fz, rfl, a2, a3⟩
theorem RowsOwn.keeps (h : RowsOwn B e s v cs w) (hg : w.grownBy w' v.ownBlock) {X : Nat} {o : Obj} (hX : X < B) (ho : w.heap[X]? = some o) : w'.heap[X]? = some o := by
  refine (hg.block X (Array.getElem?_eq_some_iff.1 ho).1 ?_).trans ho
  rcases h.own with h1 | ⟨g, _, _, h1, h2, _⟩
  · rw [h1]; simp
  · rw [h1]; simp; omega
theorem RowsOwn.keepsT (h : RowsOwn B e s v cs w) (hg : w.grownBy w' v.ownBlock) {Y : Nat} {c : Array Value} {T : TypeId} {fr : Nat × Nat} (hT : e ≠ T) (ho : w.heap[Y]? = some (.cells c T fr)) : w'.heap[Y]? = some (.cells c T fr) := by
  refine (hg.block Y (Array.getElem?_eq_some_iff.1 ho).1 ?_).trans ho
  rcases h.own with h1 | ⟨g, _, _, h1, _, h3⟩
  · rw [h1]; simp
  · rw [h1]
    intro x
    obtain rfl := Option.some.inj x
    rw [h3] at ho
    simp only [Option.some.injEq, Obj.cells.injEq] at ho
    exact hT ho.2.1
theorem RowsOwn.typed' (h : RowsOwn B e s v cs w) : ∀ X, v.ownBlock = some X → ∃ cs fr, w.heap[X]? = some (.cells cs e fr) := by
  intro X hX
  rcases h.own with h1 | ⟨g, cur, fz, h1, _, h3⟩
  · rw [h1] at hX; cases hX
  · rw [h1] at hX
    obtain rfl := Option.some.inj hX
    exact ⟨cur, fz, h3⟩
theorem RowsOwn.typed (h : RowsOwn B e s v cs w) (hT : e ≠ 3) : ∀ X, v.ownBlock = some X → ∃ cs T fr, w.heap[X]? = some (.cells cs T fr) ∧ T ≠ 3 := by
  intro X hX
  rcases h.own with h1 | ⟨g, cur, fz, h1, _, h3⟩
  · rw [h1] at hX; cases hX
  · rw [h1] at hX
    obtain rfl := Option.some.inj hX
    exact ⟨cur, e, fz, h3, hT⟩
theorem RowsOwn.below (h : RowsOwn B e s v cs w) (hg : w.grownBy w' v.ownBlock) {X : Nat} (hX : X ≤ B) (hw : X ≤ w.heap.size) : Below X w w' := by
  refine ⟨hg.os, hg.tape, hg.output, hg.size, fun k hk => hg.block k (by omega) ?_⟩
  rcases h.own with h1 | ⟨g, _, _, h1, h2, _⟩
  · rw [h1]; simp
  · rw [h1]; simp; omega
end
/-- A struct that lies within a list is read whole. -/
theorem yieldsIf_arr {ops : Array Oper} {S : World → Prop} {op : Oper} {a : Act} (hw : Region.wanted op (yielded ops a.tmps) = true) (ty : TypeId) (y : Operand) (ho : op.op = .load ty y)
    (b k : Nat) (hx : a.eval y = .pointer (some ⟨b, k, none⟩)) (c : Array Value) (d : TypeDesc) (hS : ∀ w, S w → w.rangeAt b k c.toList) (hu : Tryd.prog.underlying ty = some d) (hd : d.isRow = true) (hi : (Tryd.prog.info? ty).map (·.size) = some c.size) : YieldsIf Tryd.prog ops S op (.agg c) a := by
  have h := yieldsIf_load_mid (P := Tryd.prog) hw ty y ho b k hx c.toList d hS hu hd (by rw [hi]; simp)
  simpa using h
theorem rangeAt_later {w w' : World} {b o : Nat} {cs : List Value} (h : w.rangeAt b o cs) (hb : Below w.heap.size w w') : w'.rangeAt b o cs := fun j v hv => (hb.cell (World.block_lt_of_cell? w _ (h j v hv))).trans (h j v hv)
/-- .. in a plain region. -/
theorem bs_list {ops : Array Oper} {rest : List Oper} {o : Oper} {a : Act} {w : World} {Q : Exit → Act → World → Prop} (hgd : o.guard = none) (t e : TypeId) (y : Operand) (ho : o.op = .buildSlice t 1 #[(0, y)]) (c : Array Value) (s : Nat) (z : Value)
    (hy : a.eval y = .agg c) (hc : c.size = s) (hs : 0 < s) (hs2 : s ≤ 4096) (hu : Tryd.prog.underlying t = some (.slice e)) (hi : (Tryd.prog.info? e).map (fun i => (i.size, i.zero)) = some (s, some z))
    (h : ∀ w', w'.heap[w.heap.size]? = some (.cells c e (0, 0)) → Below w.heap.size w w' → w'.heap.size = w.heap.size + 1 → wpList Tryd.prog ops Q rest (a.put o.dst (.slice (some ⟨w.heap.size, 0, none⟩) 1 1)) w') : wpList Tryd.prog ops Q (o :: rest) a w :=
  wpList_plain hgd fun _ hK => bs_wp t e y ho c s z hy hc hs hs2 hu hi fun w' h1 h2 h3 => hK _ _ (h w' h1 h2 h3)
theorem rows_list {ops : Array Oper} {rest : List Oper} {o : Oper} {a : Act} {Q : Exit → Act → World → Prop} {w : World} (hgd : o.guard = none) (t e : TypeId) (p q : Operand)
    (ho : o.op = .call { callee := .builtin .append, args := #[p, q], argTypes := #[t, t] })
    {B s by_ : Nat} {z v : Value} {cs : List (Array Value)} {c : Array Value} (hs : a.eval p = v) (hb : RowsOwn B e s v cs w) (g : Nat) (hx : a.eval q = .slice (some ⟨g, 0, none⟩) 1 1)
    (hg : w.heap[g]? = some (.cells c e (0, 0))) (hc : c.size = s) (h1 : c.all (·.oneCell') = true) (hu : Tryd.prog.underlying t = some (.slice e)) (hi : (Tryd.prog.info? e).map (fun i => (i.zero, i.size, i.bytes)) = some (some z, s, by_))
    (hzs : z.cells.size = s) (hsz : 0 < s) (hlen : cs.length ≤ 100000) (hby : by_ ≤ 1000000)
    (h : ∀ v' w', RowsOwn B e s v' (cs ++ [c]) w' → w.grownBy w' v.ownBlock → wpList Tryd.prog ops Q rest (a.put o.dst v') w') : wpList Tryd.prog ops Q (o :: rest) a w :=
  wpList_plain hgd fun _ hK => rows_wp t e p q ho hs hb g hx hg hc h1 hu hi hzs hsz hlen hby fun v' w' h1 h2 => hK _ _ (h v' w' h1 h2)
end Go.Proofs.YtgdlkaoadlipmaaDoor

/- A struct's variable and one more, or two more, as the results. -/
namespace Go.Proofs.YtgdlkaoadlipmaaDoor
open Go.RowKit
/-- A struct's variable and one more as the results. -/
theorem results_cell_row1 {P : Program} {fn : Func} {p u : Tmp} {ty : TypeId} (h : fn.results = #[.cell p ty, .tmp u]) (tmps : Array Value) (w : World) (g : Nat) (t : TypeId) (cs : Array Value) (fr : Nat × Nat) (d : TypeDesc)
    (hp : tmps.getD p undef = .pointer (some ⟨g, 0, none⟩)) (hg : w.heap[g]? = some (.cells cs t fr))
    (hu : P.underlying ty = some d) (hd : (match d with | .struct _ | .array _ _ => true | _ => false) = true) (hi : (P.info? ty).map (·.size) = some cs.size) :
    (results fn tmps).run P w = .ok (.tuple #[.agg cs, tmps.getD u undef]) w := by
  have hp' : tmps[p]?.getD undef = .pointer (some ⟨g, 0, none⟩) := by simpa using hp
  simp [results, h, hp', asAddr, run_loadVar_row w g t ty cs fr d hg hu hd hi]
/-- A struct's variable and two more as the results. -/
theorem results_cell_row2 {P : Program} {fn : Func} {p u v : Tmp} {ty : TypeId} (h : fn.results = #[.cell p ty, .tmp u, .tmp v]) (tmps : Array Value) (w : World) (g : Nat) (t : TypeId) (cs : Array Value) (fr : Nat × Nat) (d : TypeDesc)
    (hp : tmps.getD p undef = .pointer (some ⟨g, 0, none⟩)) (hg : w.heap[g]? = some (.cells cs t fr))
    (hu : P.underlying ty = some d) (hd : (match d with | .struct _ | .array _ _ => true | _ => false) = true) (hi : (P.info? ty).map (·.size) = some cs.size) :
    (results fn tmps).run P w = .ok (.tuple #[.agg cs, tmps.getD u undef, tmps.getD v undef]) w := by
  have hp' : tmps[p]?.getD undef = .pointer (some ⟨g, 0, none⟩) := by simpa using hp
  simp [results, h, hp', asAddr, run_loadVar_row w g t ty cs fr d hg hu hd hi]
end Go.Proofs.YtgdlkaoadlipmaaDoor

/- Regions that draw their order, whose last operations (stores, assignments: each waits for all that reads) need not keep what the reads lean on. -/
namespace Go.Proofs.YtgdlkaoadlipmaaDoor
open Go.RowKit

section
variable {P : Program} {md : Region.Mode} {ops : Array Oper} {Q : Exit → Act → World → Prop} {S : World → Prop} {U : List Nat}
/-- Whatever order is picked, and S holds behind each operation that is none of U. -/
def wpAnyT (P : Program) (md : Region.Mode) (ops : Array Oper) (Q : Exit → Act → World → Prop) (S : World → Prop) (U : List Nat) : Nat → Array Bool → Act → World → Prop
  | 0, listed, a, w => Region.ready md ops listed = [] ∧ Q .normal a w
  | fuel + 1, listed, a, w =>
    (Region.ready md ops listed = [] → Q .normal a w) ∧
    ∀ i ∈ Region.ready md ops listed, wpOp P ops Q i (fun a' w' => (U.contains i = false → S w') ∧ wpAnyT P md ops Q S U fuel (listed.setIfInBounds i true) a' w') a w
theorem wpAnyT_any : ∀ (fuel : Nat) (listed : Array Bool) (a : Act) (w : World), wpAnyT P md ops Q S U fuel listed a w → wpAny P md ops Q fuel listed a w
  | 0, _, _, _, h => h
  | fuel + 1, _, _, _, h => ⟨h.1, fun i hi => wpOp_mono (fun a' w' h' => wpAnyT_any fuel _ a' w' h'.2) (h.2 i hi)⟩
/-- j waits for i, by way of others. -/
def waitsT (md : Region.Mode) (ops : Array Oper) (i : Nat) : Nat → Nat → Bool
  | 0, _ => false
  | n + 1, j => match ops[j]? with | some o => o.after.any fun e => Region.binds md e && (e.on == i || waitsT md ops i n e.on) | none => false
/-- Each of U waits for i. -/
def waitsFor (md : Region.Mode) (ops : Array Oper) (U : List Nat) (i : Nat) : Bool := U.all fun j => waitsT md ops i ops.size j
/-- What has come up has all come up that it waits for. -/
def Closed (md : Region.Mode) (ops : Array Oper) (listed : Array Bool) : Prop :=
  ∀ k ok, ops[k]? = some ok → listed.getD k false = true → ∀ e ∈ ok.after, Region.binds md e = true → listed.getD e.on false = true
def closedB (md : Region.Mode) (ops : Array Oper) (listed : Array Bool) : Bool :=
  (List.range ops.size).all fun k => !listed.getD k false || (match ops[k]? with | some o => o.after.all fun e => !Region.binds md e || listed.getD e.on false | none => true)
theorem closed_of {listed : Array Bool} (h : closedB md ops listed = true) : Closed md ops listed := by
  intro k ok hk hl e he hb
  unfold closedB at h
  rw [List.all_eq_true] at h
  have h1 := h k (by rw [List.mem_range]; exact (Array.getElem?_eq_some_iff.1 hk).1)
  rw [hl, hk] at h1
  simp only [Bool.not_true, Bool.false_or] at h1
  rw [Array.all_eq_true_iff_forall_mem] at h1
  have h2 := h1 e he
  rw [hb] at h2
  simpa using h2
theorem waits_not {i : Nat} {listed : Array Bool} (hc : Closed md ops listed) (hi : listed.getD i false = false) : ∀ (n j : Nat), waitsT md ops i n j = true → listed.getD j false = true → False
  | 0, _, h, _ => by cases h
  | n + 1, j, h, hl => by
    unfold waitsT at h
    cases hj : ops[j]? with
    | none => rw [hj] at h; cases h
    | some o =>
      rw [hj] at h
      simp only at h
      rw [Array.any_eq_true] at h
      obtain ⟨k, hk, h2⟩ := h
      rw [Bool.and_eq_true, Bool.or_eq_true, beq_iff_eq] at h2
      have hon := hc j o hj hl _ (Array.getElem_mem hk) h2.1
      rcases h2.2 with h3 | h3
      · rw [h3, hi] at hon; cases hon
      · exact waits_not hc hi n _ h3 hon
theorem waits_ready {i j : Nat} {listed : Array Bool} (h : waitsFor md ops U i = true) (hc : Closed md ops listed) (hi : listed.getD i false = false) (hU : U.contains j = true) (hj : j ∈ Region.ready md ops listed) : False := by
  unfold waitsFor at h
  rw [List.all_eq_true] at h
  have h1 := h j (by simpa using hU)
  obtain ⟨_, oj, hoj, hall⟩ := mem_ready.1 hj
  cases hn : ops.size with
  | zero => rw [hn] at h1; cases h1
  | succ n =>
    rw [hn] at h1
    unfold waitsT at h1
    rw [hoj] at h1
    simp only at h1
    rw [Array.any_eq_true] at h1
    obtain ⟨k, hk, h2⟩ := h1
    rw [Bool.and_eq_true, Bool.or_eq_true, beq_iff_eq] at h2
    have hon := hall _ (Array.getElem_mem hk) h2.1
    rcases h2.2 with h3 | h3
    · rw [h3, hi] at hon; cases hon
    · exact waits_not hc hi n _ h3 hon
theorem closed_set {j : Nat} {listed : Array Bool} (hc : Closed md ops listed) (hj : j ∈ Region.ready md ops listed) : Closed md ops (listed.setIfInBounds j true) := by
  obtain ⟨_, oj, hoj, hall⟩ := mem_ready.1 hj
  intro k ok hk hl e he hb
  by_cases hjk : j = k
  · subst hjk
    rw [hoj] at hk
    obtain rfl := Option.some.inj hk
    exact getD_set_true (hall e he hb)
  · rw [getD_set_ne false hjk] at hl
    exact getD_set_true (hc k ok hk hl e he hb)

/-- An operation that yields its value in every world that meets S may be taken first, where each of U waits for it. -/
theorem wpAnyT_first {i : Nat} {oi : Oper} {v : Value} (hi : ops[i]? = some oi) (hsel : ∀ (j : Nat) (o : Oper) cs b, ops[j]? = some o → o.op ≠ .select cs b)
    (hQ : ∀ c a w, Q (.panic c) (a.put oi.dst v) w → Q (.panic c) a w) (hw : waitsFor md ops U i = true) :
    ∀ (fuel : Nat) (listed : Array Bool) (a : Act) (w : World),
      (∀ j oj, ops[j]? = some oj → j ≠ i → listed.getD j true = false → (∀ e ∈ oj.after, Region.binds md e = true → e.on ≠ i) → oi.apart ops oj = true) →
      Closed md ops listed → i ∈ Region.ready md ops listed → YieldsIf P ops S oi v a → S w →
      wpAnyT P md ops Q S U fuel (listed.setIfInBounds i true) (a.put oi.dst v) w → wpAnyT P md ops Q S U (fuel + 1) listed a w := by
  intro fuel
  induction fuel with
  | zero =>
    intro listed a w _ _ hr hy hS H
    refine ⟨fun h => (by rw [h] at hr; cases hr), fun j hj => ?_⟩
    by_cases hji : j = i
    · subst hji; exact hy.wpOp hi hS ⟨fun _ => hS, H⟩
    · have := ready_mono hj hji
      rw [H.1] at this
      cases this
  | succ fuel ih =>
    intro listed a w hfree hcl hr hy hS H
    refine ⟨fun h => (by rw [h] at hr; cases hr), fun j hj => ?_⟩
    by_cases hji : j = i
    · subst hji; exact hy.wpOp hi hS ⟨fun _ => hS, H⟩
    · have h1 := H.2 j (ready_mono hj hji)
      obtain ⟨hjun, oj, hoj, hall⟩ := mem_ready.1 hj
      have hifalse : listed.getD i false = false := by
        have h0 := (mem_ready.1 hr).1
        rcases Nat.lt_or_ge i listed.size with h' | h'
        · simp [h'] at h0 ⊢; exact h0
        · simp [Array.getElem?_eq_none h']
      have hnot : ∀ e ∈ oj.after, Region.binds md e = true → e.on ≠ i := fun e he hb heq => by
        have h1 := hall e he hb
        rw [heq, hifalse] at h1
        cases h1
      have hnU : U.contains j = false := by
        cases hc : U.contains j with
        | false => rfl
        | true => exact (waits_ready hw hcl hifalse hc hj).elim
      have h2 := wpOp_putIf hoj (hfree j oj hoj hji hjun hnot) (fun cs b => hsel i oi cs b hi) (fun cs b => hsel j oj cs b hoj) hQ hy h1
      have hfree' : ∀ k ok, ops[k]? = some ok → k ≠ i → (listed.setIfInBounds j true).getD k true = false →
          (∀ e ∈ ok.after, Region.binds md e = true → e.on ≠ i) → oi.apart ops ok = true := fun k ok hk hki hun hno => by
        refine hfree k ok hk hki ?_ hno
        by_cases hjk : j = k
        · subst hjk; exact hjun
        · rw [getD_set_ne true hjk] at hun; exact hun
      refine wpOp_mono (fun a' w' h3 => ⟨fun hc => h3.2.1 hc, ih (listed.setIfInBounds j true) a' w' hfree' (closed_set hcl hj) (ready_mono hr (Ne.symm hji)) h3.1 (h3.2.1 hnU) ?_⟩) h2
      rw [Array.setIfInBounds_comm _ _ hji]
      exact h3.2.2
theorem wpAnyT_take {i : Nat} {oi : Oper} {v : Value} {fuel : Nat} {listed : Array Bool} {a : Act} {w : World} (hi : ops[i]? = some oi)
    (hs : Region.noSelect ops = true) (hf : Region.free md ops listed i = true) (hr : (Region.ready md ops listed).contains i = true) (hw : (waitsFor md ops U i && closedB md ops listed) = true)
    (hQ : ∀ c a w, Q (.panic c) (a.put oi.dst v) w → Q (.panic c) a w) (hy : YieldsIf P ops S oi v a) (hS : S w)
    (h : wpAnyT P md ops Q S U fuel (listed.setIfInBounds i true) (a.put oi.dst v) w) : wpAnyT P md ops Q S U (fuel + 1) listed a w :=
  wpAnyT_first hi (Region.noSelect_spec hs) hQ (Bool.and_eq_true_iff.1 hw).1 fuel listed a w (Region.free_spec hi hf) (closed_of (Bool.and_eq_true_iff.1 hw).2) (by simpa using hr) hy hS h
theorem wpAnyT_done {listed : Array Bool} {a : Act} {w : World} (hr : Region.ready md ops listed = []) (h : Q .normal a w) :
    ∀ fuel, wpAnyT P md ops Q S U fuel listed a w
  | 0 => ⟨hr, h⟩
  | _ + 1 => ⟨fun _ => h, by rw [hr]; simp⟩
theorem wp_region_T {id : Nat} {a : Act} {w : World} (U : List Nat) (hm : P.follows .mixedOrders = true) (hS : S w.drew)
    (h : S w.drew → wpAnyT P .any ops Q S U ops.size (Array.replicate ops.size false) a w.drew) : (Code.region id ops true).wp P Q a w :=
  wp_region_any hm (wpAnyT_any _ _ _ _ (h hS))
/-- The one operation that may come up: S is shown anew behind it. -/
theorem wpAnyT_one {fuel : Nat} {listed : Array Bool} {a : Act} {w : World} {i : Nat} {o : Oper} (hr : Region.ready md ops listed = [i]) (ho : ops[i]? = some o)
    (h : ∀ K' : Act → World → Prop, Shut (∀ a w, S w → (S w → wpAnyT P md ops Q S U fuel (listed.setIfInBounds i true) a w) → K' a w) → if Region.wanted o (yielded ops a.tmps) = true then Oper.wp P o a w K' Q else K' (a.put o.dst undef) w) :
    wpAnyT P md ops Q S U (fuel + 1) listed a w := by
  refine ⟨fun h0 => absurd (hr ▸ h0) (by simp), fun j hj => ?_⟩
  rw [hr] at hj
  obtain rfl : j = i := by simpa using hj
  exact wpOp_step ho (fun K' hK => h K' (fun a w hS hW => hK a w ⟨fun _ => hS, hW hS⟩))
/-- .. one of U: nothing is shown anew. -/
theorem wpAnyT_last {fuel : Nat} {listed : Array Bool} {a : Act} {w : World} {i : Nat} {o : Oper} (hr : Region.ready md ops listed = [i]) (hU : U.contains i = true) (ho : ops[i]? = some o)
    (h : ∀ K' : Act → World → Prop, Shut (∀ a w, wpAnyT P md ops Q S U fuel (listed.setIfInBounds i true) a w → K' a w) → if Region.wanted o (yielded ops a.tmps) = true then Oper.wp P o a w K' Q else K' (a.put o.dst undef) w) :
    wpAnyT P md ops Q S U (fuel + 1) listed a w := by
  refine ⟨fun h0 => absurd (hr ▸ h0) (by simp), fun j hj => ?_⟩
  rw [hr] at hj
  obtain rfl : j = i := by simpa using hj
  exact wpOp_step ho (fun K' hK => h K' (fun a w hW => hK a w ⟨(fun hc => absurd (hU.symm.trans hc) (by decide)), hW⟩))
/-- Whichever of several comes up. -/
def AllT (P : Program) (md : Region.Mode) (ops : Array Oper) (Q : Exit → Act → World → Prop) (S : World → Prop) (U : List Nat) (fuel : Nat) (listed : Array Bool) (a : Act) (w : World) (rs : List Nat) : Prop :=
  ∀ i ∈ rs, wpOp P ops Q i (fun a' w' => (U.contains i = false → S w') ∧ wpAnyT P md ops Q S U fuel (listed.setIfInBounds i true) a' w') a w
theorem AllT.nil {fuel : Nat} {listed : Array Bool} {a : Act} {w : World} : AllT P md ops Q S U fuel listed a w [] := fun _ h => by cases h
theorem AllT.cons {fuel : Nat} {listed : Array Bool} {a : Act} {w : World} {i : Nat} {o : Oper} {rs : List Nat} (ho : ops[i]? = some o)
    (h : ∀ K' : Act → World → Prop, Shut (∀ a w, S w → (S w → wpAnyT P md ops Q S U fuel (listed.setIfInBounds i true) a w) → K' a w) → if Region.wanted o (yielded ops a.tmps) = true then Oper.wp P o a w K' Q else K' (a.put o.dst undef) w)
    (hs : AllT P md ops Q S U fuel listed a w rs) : AllT P md ops Q S U fuel listed a w (i :: rs) := fun j hj => by
  rcases List.mem_cons.1 hj with rfl | hj
  · exact wpOp_step ho (fun K' hK => h K' (fun a w hS hW => hK a w ⟨fun _ => hS, hW hS⟩))
  · exact hs j hj
theorem wpAnyT_ready {rs : List Nat} {fuel : Nat} {listed : Array Bool} {a : Act} {w : World} (hr : Region.ready md ops listed = rs) (hne : rs ≠ [])
    (h : AllT P md ops Q S U fuel listed a w rs) : wpAnyT P md ops Q S U (fuel + 1) listed a w := ⟨fun h0 => absurd (hr ▸ h0) hne, hr ▸ h⟩
/-- A variable of many cells, read whole: it yields what it holds. -/
theorem yieldsIf_load_row {op : Oper} {a : Act} (hw : Region.wanted op (yielded ops a.tmps) = true) (ty : TypeId) (x : Operand) (ho : op.op = .load ty x)
    (X : Nat) (hx : a.eval x = .pointer (some ⟨X, 0, none⟩)) (c : Array Value) (T : TypeId) (fr : Nat × Nat) (d : TypeDesc) (hS : ∀ w, S w → w.heap[X]? = some (.cells c T fr))
    (hu : P.underlying ty = some d) (hd : d.isRow = true) (hi : (P.info? ty).map (·.size) = some c.size) : YieldsIf P ops S op (.agg c) a :=
  .inl ⟨hw, fun w hw' => by
    unfold execOp
    simp only [ho, hx, Instr.loadAt, Instr.sureAddr, Sem.run_bind, Sem.run_pure, Result.andThen_ok, run_loadVar_row w X T ty c fr d (hS w hw') hu (by cases d <;> simp_all [TypeDesc.isRow]) hi]⟩
end
end Go.Proofs.YtgdlkaoadlipmaaDoor
