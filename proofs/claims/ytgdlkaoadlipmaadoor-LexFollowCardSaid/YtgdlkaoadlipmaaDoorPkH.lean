/- Texts put together: Ints Seg Runs Els KeptIn Strs. -/
import Derived.Test.YtgdlkaoadlipmaaDoorChecked
import Derived.WalkKit
import Derived.WalkSpells
import Derived.Lib.Hide
import Derived.Lib.FrozenHead2
import Derived.Lib.OthersKept
import Derived.Deep.Draws
import Derived.Laws.OwnMore
import Derived.Test.YtgdlkaoadlipmaaDoorPkC
import Derived.Laws.CopyOwn
import Derived.Deep.OwnRows
import Derived.Deep.Cut
import Derived.Laws.MakeOwn
import Derived.Laws.IdiomCopy
import Derived.Deep.MidRow
import Derived.RangeFuncNested
import Derived.RangeFuncBound
import Derived.RangeFuncCalls
import Derived.RangeFuncLeaves
import Derived.RangeFuncBox
import Derived.Shelf.Abstract
import Derived.Shelf.RegionOpen

/- Lists of numbers: what they read as, and lists that a call owns. -/
namespace Go.Proofs.YtgdlkaoadlipmaaDoor
open Go.RowKit

/-- v is a list that reads as these numbers -/
def IntsAt (w : World) (v : Value) (zs : List Int) : Prop :=
  ∃ (a : Option Addr) (cap b o : Nat), v = .slice a zs.length cap ∧ (0 < zs.length → a = some ⟨b, o, none⟩) ∧ (∀ j, j < zs.length → w.cell? ⟨b, o + j, none⟩ = some (.int .i64 (zs.getD j 0))) ∧
    (∀ n ∈ zs, -9223372036854775808 ≤ n ∧ n ≤ 9223372036854775807) ∧ zs.length ≤ maxLen

theorem IntsAt.later {w w' : World} {v : Value} {zs : List Int} (h : IntsAt w v zs) (hb : Below w.heap.size w w') : IntsAt w' v zs := by
  obtain ⟨a, cap, b, o, h1, h2, h3, h4⟩ := h
  exact ⟨a, cap, b, o, h1, h2, fun j hj => (hb.cell (p := ⟨b, o + j, none⟩) (World.block_lt_of_cell? w _ (h3 j hj))).trans (h3 j hj), h4⟩

/-- The cells of these numbers. -/
def iv (l : List Int) : List Value := l.map fun n => .int .i64 n
theorem iv_len (l : List Int) : (iv l).length = l.length := by simp [iv]
theorem iv_app (l r : List Int) : iv (l ++ r) = iv l ++ iv r := by simp [iv]
theorem iv_one {l : List Int} : ∀ u ∈ iv l, u.oneCell' = true := by
  intro u hu
  unfold iv at hu
  rw [List.mem_map] at hu
  obtain ⟨c, _, rfl⟩ := hu
  rfl

/-- v is a list of just these numbers, in a block from B on. -/
def Ints (B : Nat) (v : Value) (l : List Int) (w : World) : Prop := w.ownsRowF B 3 1 v l.length (iv l) ∧ B ≤ w.heap.size

section
variable {B : Nat} {v : Value} {l : List Int} {w w1 : World}
theorem Ints.nil (h : B ≤ w.heap.size) : Ints B (.slice none 0 0) [] w := ⟨World.ownsRowF_nil _ _ _ _, h⟩
theorem Ints.lit (hB : B ≤ w.heap.size) (cs : Array Value) (l : List Int) (hc : cs.toList = iv l) (hl4 : l.length ≤ 4096) :
    Ints B (.slice (some ⟨w.heap.size, 0, none⟩) l.length l.length) l (w.alloc (.cells cs 3)) := by
  have hl : l.length ≤ maxLen := by unfold maxLen; omega
  have hs : cs.size = l.length * 1 := by rw [← Array.length_toList, hc, iv_len]; omega
  refine ⟨?_, by simp; omega⟩
  have := World.ownsRowF_of (World.ownsRow_lit (base := B) (e := 3) (size := 1) w cs l.length hB hl hs)
  rwa [hc] at this
theorem Ints.low {B' : Nat} (h : Ints B v l w) (hB : B' ≤ B) : Ints B' v l w := by
  obtain ⟨⟨h1, h2⟩, h3⟩ := h
  refine ⟨⟨h1, ?_⟩, by omega⟩
  rcases h2 with h2 | ⟨g, cap, cur, fz, a1, a2, a3⟩
  · exact .inl h2
  · exact .inr ⟨g, cap, cur, fz, a1, by omega, a3⟩
/-- What keeps all blocks but one that is none of numbers keeps the list. -/
theorem Ints.grown {row : Option Nat} (h : Ints B v l w) (hg : w.grownBy w1 row) (hne : v.ownBlock = none ∨ v.ownBlock ≠ row) : Ints B v l w1 := ⟨h.1.kept hg hne, Nat.le_trans h.2 hg.size⟩
theorem Ints.later (h : Ints B v l w) (hb : Below w.heap.size w w1) : Ints B v l w1 := h.grown (row := none) ⟨hb.os, hb.tape, hb.output, hb.size, fun k hk _ => hb.block k hk⟩ (by cases v.ownBlock <;> simp)
theorem Ints.alloc (h : Ints B v l w) (o : Obj) : Ints B v l (w.alloc o) := h.later ((Below.refl _ _).alloc (Nat.le_refl _) o)
theorem Ints.others {b : Nat} (h : Ints B v l w) (hk : Lib.OthersKept 5 (some b) w w1) (hs : w.heap.size ≤ w1.heap.size) (hb : ∃ cs T fr, w.heap[b]? = some (.cells cs T fr) ∧ T ≠ 3) : Ints B v l w1 := by
  obtain ⟨⟨h1, h2⟩, h3⟩ := h
  refine ⟨⟨h1, ?_⟩, by omega⟩
  rcases h2 with h2 | ⟨g, cap, cur, fz, a1, a2, a3, a4⟩
  · exact .inl h2
  · refine .inr ⟨g, cap, cur, fz, a1, a2, hk g _ a3 ?_ ?_, a4⟩
    · intro e
      obtain ⟨cs, T, fr, hT, hne⟩ := hb
      obtain rfl := Option.some.inj e
      rw [a3] at hT
      simp only [Option.some.injEq, Obj.cells.injEq] at hT
      exact hne hT.2.1.symm
    · intro c fz' e
      simp only [Obj.cells.injEq] at e
      exact absurd e.2.1 (by decide)
theorem Ints.reads (h : Ints B v l w) (hl : ∀ n ∈ l, -9223372036854775808 ≤ n ∧ n ≤ 9223372036854775807) : IntsAt w v l := by
  obtain ⟨hr, _⟩ := h
  have hr' := hr
  obtain ⟨h1, h2⟩ := hr
  rcases h2 with ⟨rfl, h2⟩ | ⟨g, cap, cur, fz, a1, a2, a3, a4, a5, a6, a7⟩
  · obtain rfl := List.eq_nil_of_length_eq_zero h2
    exact ⟨none, 0, 0, 0, rfl, fun h => absurd h (by simp), fun j h => absurd h (by simp), fun n h => absurd h (by simp), by simp⟩
  · subst a1
    refine ⟨some ⟨g, 0, none⟩, cap, g, 0, rfl, fun _ => rfl, fun j hj => ?_, hl, by omega⟩
    have e : (⟨g, 0, none⟩ : Addr).add j = ⟨g, 0 + j, none⟩ := by unfold Addr.add; split <;> simp_all
    have := hr'.cells rfl j (.int .i64 (l.getD j 0)) (by rw [iv, List.getElem?_map, List.getElem?_eq_getElem hj]; simp [List.getD_eq_getElem?_getD, List.getElem?_eq_getElem hj])
    rw [e] at this
    exact this
/-- What a list yields that is appended: an address, and the cells behind it. -/
theorem Ints.src (h : Ints B v l w) (hn : l ≠ []) : ∃ ad c, v = .slice (some ad) l.length c ∧ ∀ j u, (iv l)[j]? = some u → w.cell? (ad.add j) = some u := by
  obtain ⟨hr, _⟩ := h
  have hr' := hr
  obtain ⟨h1, h2⟩ := hr
  rcases h2 with ⟨_, h2⟩ | ⟨g, cap, cur, fz, a1, a2, a3, a4⟩
  · exact absurd (List.eq_nil_of_length_eq_zero h2) hn
  · subst a1
    exact ⟨⟨g, 0, none⟩, cap, rfl, hr'.cells rfl⟩
theorem Ints.len (h : Ints B v l w) : ∃ a c, v = .slice a l.length c := by
  obtain ⟨⟨_, h2⟩, _⟩ := h
  rcases h2 with ⟨rfl, h2⟩ | ⟨g, cap, cur, fz, rfl, _⟩
  · exact ⟨none, 0, by rw [h2]⟩
  · exact ⟨_, _, rfl⟩
end

theorem ints_cap {B : Nat} {v : Value} {l : List Int} {w : World} (h : Ints B v l w) : ∃ a c, v = .slice a l.length c ∧ l.length ≤ c := by
  obtain ⟨⟨_, h2⟩, _⟩ := h
  rcases h2 with ⟨rfl, h2⟩ | ⟨g, cap, cur, fz, rfl, _, _, _, h3, _⟩
  · exact ⟨none, 0, by rw [h2], by omega⟩
  · exact ⟨_, _, rfl, h3⟩

theorem int_info : (Tryd.prog.info? 3).map (fun i => (i.zero, i.size, i.bytes)) = some (some (.int .i64 0), 1, 8) := by kernel_rfl

/-- 'append(out, x, y ..)', 'append(out, xs...)' of numbers that lie behind an address: the operation. -/
theorem ints_wp {o : Oper} {a : Act} {K : Act → World → Prop} {Q : Exit → Act → World → Prop} {w : World} (s x : Operand)
    (ho : o.op = .call { callee := .builtin .append, args := #[s, x], argTypes := #[56, 56] })
    {B : Nat} {v : Value} {l : List Int} (hs : a.eval s = v) (hb : Ints B v l w) (r : List Int) (ad : Addr) (c : Nat) (hx : a.eval x = .slice (some ad) r.length c)
    (hc : ∀ j u, (iv r)[j]? = some u → w.cell? (ad.add j) = some u) (hlen : l.length + r.length ≤ 17592186044416)
    (h : ∀ v' w', Ints B v' (l ++ r) w' → w.grownBy w' v.ownBlock → K (a.put o.dst v') w') : o.wp Tryd.prog a w K Q := by
  obtain ⟨i, hi, hz, h1, h2⟩ := info_parts int_info
  obtain ⟨v', w', hr, g1, g2, _⟩ := run_append_ownF (P := Tryd.prog) w B 56 o.type 3 i (.int .i64 0) 1 8 Tryd.underlying56 hi hz h1 h2 rfl (by decide) v l.length (iv l) hb.1 ad r.length c (iv r) (by rw [iv_len]; omega) hc iv_one
    (by unfold maxLen; omega) (by omega) hb.2
  unfold Oper.wp execOp
  simp only [ho, resolve, invoke, builtin, Sem.run_bind, Sem.run_pure, Result.andThen_ok, List.map_toArray, List.map_cons, List.map_nil, hs, hx, hr]
  exact h v' w' ⟨by rw [List.length_append, iv_app]; exact g1, Nat.le_trans hb.2 g2.size⟩ g2
/-- .. in a list of operations. -/
theorem ints_append {ops : Array Oper} {rest : List Oper} {o : Oper} {a : Act} {Q : Exit → Act → World → Prop} {w : World} (hgd : o.guard = none) (s x : Operand)
    (ho : o.op = .call { callee := .builtin .append, args := #[s, x], argTypes := #[56, 56] })
    {B : Nat} {v : Value} {l : List Int} (hs : a.eval s = v) (hb : Ints B v l w) (r : List Int) (ad : Addr) (c : Nat) (hx : a.eval x = .slice (some ad) r.length c)
    (hc : ∀ j u, (iv r)[j]? = some u → w.cell? (ad.add j) = some u) (hlen : l.length + r.length ≤ 17592186044416)
    (h : ∀ v' w', Ints B v' (l ++ r) w' → w.grownBy w' v.ownBlock → wpList Tryd.prog ops Q rest (a.put o.dst v') w') : wpList Tryd.prog ops Q (o :: rest) a w :=
  wpList_plain hgd fun _ hK => ints_wp s x ho hs hb r ad c hx hc hlen fun v' w' h1 h2 => hK _ _ (h v' w' h1 h2)
theorem new_ints (w : World) (r : List Int) (cs : Array Value) (hcs : cs = (iv r).toArray) : ∀ j u, (iv r)[j]? = some u → (w.alloc (.cells cs 3)).cell? ((⟨w.heap.size, 0, none⟩ : Addr).add j) = some u := by
  subst hcs
  intro j u hu
  have e : (⟨w.heap.size, 0, none⟩ : Addr).add j = ⟨w.heap.size, j, none⟩ := by
    simp [Addr.add]
    intro hj; exact hj.symm
  rw [e]
  simpa using hu
/-- .. of numbers that the statement itself has just laid. -/
theorem ints_append_new {ops : Array Oper} {rest : List Oper} {o : Oper} {a : Act} {Q : Exit → Act → World → Prop} {w : World} (hgd : o.guard = none) (s x : Operand)
    (ho : o.op = .call { callee := .builtin .append, args := #[s, x], argTypes := #[56, 56] })
    {B : Nat} {v : Value} {l : List Int} (hs : a.eval s = v) (hb : Ints B v l w) (r : List Int) (cs : Array Value) (hcs : cs = (iv r).toArray) (n c : Nat) (hn : n = r.length) (hx : a.eval x = .slice (some ⟨w.heap.size, 0, none⟩) n c)
    (hlen : l.length + r.length ≤ 17592186044416)
    (h : ∀ v' w', Ints B v' (l ++ r) w' → w.grownBy w' v.ownBlock → wpList Tryd.prog ops Q rest (a.put o.dst v') w') : wpList Tryd.prog ops Q (o :: rest) a (w.alloc (.cells cs 3)) := by
  subst hn
  exact ints_append hgd s x ho hs (hb.alloc _) r ⟨w.heap.size, 0, none⟩ c hx (new_ints w r cs hcs) hlen fun v' w' h1 h2 => h v' w' h1 ⟨h2.os, h2.tape, h2.output, by have := h2.size; simp at this; omega, fun k hk hne => (h2.block k (by simp; omega) hne).trans (Lib.alloc_old w _ k hk)⟩
/-- 'append(list, numbers..)', where a guard is met. -/
theorem ints_append_if {ops : Array Oper} {rest : List Oper} {o : Oper} {a : Act} {Q : Exit → Act → World → Prop} {w : World} (hwd : Region.wanted o (yielded ops a.tmps) = true) (s x : Operand)
    (ho : o.op = .call { callee := .builtin .append, args := #[s, x], argTypes := #[56, 56] })
    {B : Nat} {v : Value} {l : List Int} (hs : a.eval s = v) (hb : Ints B v l w) (r : List Int) (ad : Addr) (c : Nat) (hx : a.eval x = .slice (some ad) r.length c)
    (hc : ∀ j u, (iv r)[j]? = some u → w.cell? (ad.add j) = some u) (hlen : l.length + r.length ≤ 17592186044416)
    (h : ∀ v' w', Ints B v' (l ++ r) w' → w.grownBy w' v.ownBlock → wpList Tryd.prog ops Q rest (a.put o.dst v') w') : wpList Tryd.prog ops Q (o :: rest) a w :=
  wpList_step fun _ hK => by
    rw [if_pos hwd]
    exact ints_wp s x ho hs hb r ad c hx hc hlen fun v' w' h1 h2 => hK _ _ (h v' w' h1 h2)
theorem ints_append_new_if {ops : Array Oper} {rest : List Oper} {o : Oper} {a : Act} {Q : Exit → Act → World → Prop} {w : World} (hwd : Region.wanted o (yielded ops a.tmps) = true) (s x : Operand)
    (ho : o.op = .call { callee := .builtin .append, args := #[s, x], argTypes := #[56, 56] })
    {B : Nat} {v : Value} {l : List Int} (hs : a.eval s = v) (hb : Ints B v l w) (r : List Int) (cs : Array Value) (hcs : cs = (iv r).toArray) (n c : Nat) (hn : n = r.length) (hx : a.eval x = .slice (some ⟨w.heap.size, 0, none⟩) n c)
    (hlen : l.length + r.length ≤ 17592186044416)
    (h : ∀ v' w', Ints B v' (l ++ r) w' → w.grownBy w' v.ownBlock → wpList Tryd.prog ops Q rest (a.put o.dst v') w') : wpList Tryd.prog ops Q (o :: rest) a (w.alloc (.cells cs 3)) := by
  subst hn
  exact ints_append_if hwd s x ho hs (hb.alloc _) r ⟨w.heap.size, 0, none⟩ c hx (new_ints w r cs hcs) hlen fun v' w' h1 h2 => h v' w' h1 ⟨h2.os, h2.tape, h2.output, by have := h2.size; simp at this; omega, fun k hk hne => (h2.block k (by simp; omega) hne).trans (Lib.alloc_old w _ k hk)⟩
end Go.Proofs.YtgdlkaoadlipmaaDoor

/- Lists of numbers, wherever they lie: what they read as; lists that nothing else is written into; what is cut of them; what lies from a mark on is as it was. -/
namespace Go.Proofs.YtgdlkaoadlipmaaDoor
open Go.RowKit
set_option maxRecDepth 1000000
set_option linter.unusedSimpArgs false

/-- v reads as these numbers, wherever they lie. -/
def SegAt (w : World) (v : Value) (zs : List Int) : Prop := ∃ (a : Option Addr) (cap : Nat), v = .slice a zs.length cap ∧ (0 < zs.length → ∃ ad, a = some ad ∧ ∀ j u, (iv zs)[j]? = some u → w.cell? (ad.add j) = some u)
/-- v is a list of just these numbers that nothing else is written into: nil, if there is none. -/
def LisAt (w : World) (v : Value) (zs : List Int) : Prop :=
  (zs = [] ∧ v = .slice none 0 0) ∨ (0 < zs.length ∧ ∃ (g c : Nat) (cs : Array Value) (fr : Nat × Nat), v = .slice (some ⟨g, 0, none⟩) zs.length c ∧ zs.length ≤ c ∧ w.heap[g]? = some (.cells cs 3 fr) ∧ ∀ (j : Nat) (u : Value), (iv zs)[j]? = some u → cs[j]? = some u)
/-- .. that lies from block B on. -/
def LisFrom (B : Nat) (w : World) (v : Value) (zs : List Int) : Prop :=
  (zs = [] ∧ v = .slice none 0 0) ∨ (0 < zs.length ∧ ∃ (g c : Nat) (cs : Array Value) (fr : Nat × Nat), B ≤ g ∧ v = .slice (some ⟨g, 0, none⟩) zs.length c ∧ zs.length ≤ c ∧ w.heap[g]? = some (.cells cs 3 fr) ∧ ∀ (j : Nat) (u : Value), (iv zs)[j]? = some u → cs[j]? = some u)
theorem LisFrom.at_ {B : Nat} {w : World} {v : Value} {zs : List Int} : LisFrom B w v zs → LisAt w v zs
  | .inl h => .inl h
  | .inr ⟨h0, g, c, cs, fr, _, h⟩ => .inr ⟨h0, g, c, cs, fr, h⟩
theorem SegAt.later {w w' : World} {v : Value} {zs : List Int} (h : SegAt w v zs) (hb : Below w.heap.size w w') : SegAt w' v zs := by
  obtain ⟨a, cap, rfl, h2⟩ := h
  refine ⟨a, cap, rfl, fun h0 => ?_⟩
  obtain ⟨ad, rfl, hc⟩ := h2 h0
  exact ⟨ad, rfl, fun j u hu => (hb.cell (p := ad.add j) (World.block_lt_of_cell? w _ (hc j u hu))).trans (hc j u hu)⟩
theorem LisAt.nil (w : World) : LisAt w (.slice none 0 0) [] := .inl ⟨rfl, rfl⟩
theorem LisAt.kept {w w' : World} {v : Value} {zs : List Int} {row : Option Nat} (h : LisAt w v zs) (hg : w.grownBy w' row) (hT : ∀ X, row = some X → ∃ cs T fr, w.heap[X]? = some (.cells cs T fr) ∧ T ≠ 3) : LisAt w' v zs := by
  rcases h with h | ⟨h0, g, c, cs, fr, h1, h2, h3, h4⟩
  · exact .inl h
  · refine .inr ⟨h0, g, c, cs, fr, h1, h2, ?_, h4⟩
    refine (hg.block g (Array.getElem?_eq_some_iff.1 h3).1 ?_).trans h3
    intro e
    obtain ⟨cs', T, fr', hX, hne⟩ := hT g e.symm
    rw [h3] at hX
    simp only [Option.some.injEq, Obj.cells.injEq] at hX
    exact hne hX.2.1.symm
theorem add_at (g o j : Nat) : (⟨g, o, none⟩ : Addr).add j = ⟨g, o + j, none⟩ := by
  unfold Addr.add; split <;> simp_all
theorem LisAt.cells {w : World} {v : Value} {zs : List Int} (h : LisAt w v zs) : SegAt w v zs := by
  rcases h with ⟨rfl, rfl⟩ | ⟨h0, g, c, cs, fr, rfl, h2, h3, h4⟩
  · exact ⟨none, 0, rfl, fun h => absurd h (by simp)⟩
  · refine ⟨_, c, rfl, fun _ => ⟨_, rfl, fun j u hu => ?_⟩⟩
    rw [add_at, Nat.zero_add]
    exact cell_in h3 (h4 j u hu)
/-- What the first k of these lists have. -/
def catL (ls : List (Value × List Int)) (k : Nat) : List Int := (ls.take k).flatMap (·.2)
theorem cat_succ {ls : List (Value × List Int)} {k : Nat} (hk : k < ls.length) : catL ls (k + 1) = catL ls k ++ ls[k].2 := by
  unfold catL
  rw [List.take_succ_eq_append_getElem hk, List.flatMap_append]
  simp
theorem cat_le {ls : List (Value × List Int)} : ∀ {j : Nat} (k : Nat), k ≤ j → j ≤ ls.length → (catL ls k).length ≤ (catL ls j).length
  | 0, k, hk, _ => by obtain rfl : k = 0 := by omega
                      exact Nat.le_refl _
  | j + 1, k, hk, hj => by
    by_cases e : k = j + 1
    · subst e; exact Nat.le_refl _
    · have := cat_le (ls := ls) (j := j) k (by omega) (by omega)
      rw [cat_succ (by omega), List.length_append]
      omega
/-- The list being filled. -/
def midL (ls : List (Value × List Int)) (k n : Nat) : List Value := iv (catL ls k) ++ List.replicate (n - (catL ls k).length) (.int .i64 0)
theorem mid_len {ls : List (Value × List Int)} {k n : Nat} (h : (catL ls k).length ≤ n) : (midL ls k n).length = n := by
  unfold midL
  rw [List.length_append, iv_len, List.length_replicate]
  omega
theorem mid_succ {ls : List (Value × List Int)} {k n : Nat} (hk : k < ls.length) (h : (catL ls (k + 1)).length ≤ n) : splice (midL ls k n) (catL ls k).length (iv ls[k].2) = midL ls (k + 1) n := by
  have e := cat_succ hk
  have hl : (catL ls (k + 1)).length = (catL ls k).length + ls[k].2.length := by rw [e, List.length_append]
  unfold splice midL
  rw [e, iv_app, List.take_append_of_le_length (by rw [iv_len]; exact Nat.le_refl _), List.take_of_length_le (by rw [iv_len]; exact Nat.le_refl _), List.append_assoc]
  congr 2
  rw [iv_len, List.drop_append, List.drop_of_length_le (by rw [iv_len]; omega), List.nil_append, List.drop_replicate, iv_len, List.length_append]
  congr 1
  omega
theorem wr64 {x : Int} (h0 : -9223372036854775808 ≤ x) (h1 : x ≤ 9223372036854775807) : wrap64 x = x := by unfold wrap64; omega
theorem int_size : (Tryd.prog.info? 3).map (·.size) = some 1 := by kernel_rfl
theorem LisAt.later {w w' : World} {v : Value} {zs : List Int} (h : LisAt w v zs) (hb : Below w.heap.size w w') : LisAt w' v zs :=
  h.kept (row := none) ⟨hb.os, hb.tape, hb.output, hb.size, fun k hk _ => hb.block k hk⟩ (fun _ e => by cases e)
theorem LisAt.shape {w : World} {v : Value} {zs : List Int} (h : LisAt w v zs) : ∃ a n, v = .slice a zs.length n ∧ zs.length ≤ n := by
  rcases h with ⟨rfl, rfl⟩ | ⟨_, g, c, _, _, rfl, h, _, _⟩
  · exact ⟨none, 0, rfl, Nat.le_refl _⟩
  · exact ⟨_, c, rfl, h⟩
/-- 'list[:lo]' and 'list[hi:]'. -/
theorem sp_cuts {W : World} {v : Value} {l : List Int} (h : LisAt W v l) (lo hi : Nat) (hlo : lo ≤ l.length) (hhi : hi ≤ l.length) : ∃ a1 n1 c1 a3 n3 c3, SegAt W (.slice a1 n1 c1) (l.take lo) ∧ SegAt W (.slice a3 n3 c3) (l.drop hi) ∧
    (∀ w, (Instr.slice 56 v none (some (.int .i64 (lo : Int))) none).run Tryd.prog w = .ok (.slice a1 n1 c1) w) ∧ (∀ w, (Instr.slice 56 v (some (.int .i64 (hi : Int))) none none).run Tryd.prog w = .ok (.slice a3 n3 c3) w) := by
  have hu : Tryd.prog.underlying 56 = some (.slice (Tryd.prog.elem 56)) := by kernel_rfl
  have hs : ∀ w, (sizeOf (Tryd.prog.elem 56)).run Tryd.prog w = .ok 1 w := fun w => by
    have e : Tryd.prog.elem 56 = 3 := by kernel_rfl
    rw [e]
    obtain ⟨i, hi, _, h1, _⟩ := info_parts int_info
    simp [sizeOf, typeInfo, hi, h1]
  rcases h with ⟨rfl, rfl⟩ | ⟨h0, g, c, cs, fr, rfl, h2, h3, h4⟩
  · obtain rfl : lo = 0 := by simpa using hlo
    obtain rfl : hi = 0 := by simpa using hhi
    refine ⟨none, 0, 0, none, 0, 0, ⟨none, 0, rfl, fun h => absurd h (by simp)⟩, ⟨none, 0, rfl, fun h => absurd h (by simp)⟩, fun w => ?_, fun w => ?_⟩
    · rw [run_slice_h w _ _ _ _ hu _ _ (by simp) (by simp), hs]; rfl
    · rw [run_slice_l w _ _ _ _ hu _ _ (by simp) (by simp), hs]; rfl
  · refine ⟨some ⟨g, 0, none⟩, lo, c, (if c = hi then some ⟨g, 0, none⟩ else some ⟨g, hi, none⟩), l.length - hi, c - hi, ⟨_, c, by rw [List.length_take, Nat.min_eq_left hlo], fun _ => ⟨_, rfl, fun j u hu => ?_⟩⟩, ⟨_, c - hi, by rw [List.length_drop], fun hp => ?_⟩, fun w => ?_, fun w => ?_⟩
    · rw [add_at, Nat.zero_add]
      refine cell_in h3 (h4 j u ?_)
      rw [iv, List.map_take, List.getElem?_take] at hu
      split at hu
      · exact hu
      · cases hu
    · rw [List.length_drop] at hp
      rw [if_neg (by omega)]
      refine ⟨_, rfl, fun j u hu => ?_⟩
      rw [add_at]
      refine cell_in h3 (h4 (hi + j) u ?_)
      rw [iv, List.map_drop, List.getElem?_drop] at hu
      exact hu
    · rw [run_slice_h w _ _ _ _ hu _ _ (by omega) (by omega), hs]
      simp only [Result.andThen_ok, sliced, Int.toNat_natCast, Nat.sub_zero, Nat.zero_mul, Option.map_some, add_at, Nat.add_zero, ite_self]
    · rw [run_slice_l w _ _ _ _ hu _ _ (by omega) (by omega), hs]
      simp only [Result.andThen_ok, sliced, Int.toNat_natCast, Nat.mul_one, Option.map_some, add_at, Nat.zero_add]
theorem IntsAt.range {w : World} {v : Value} {zs : List Int} (h : IntsAt w v zs) : ∀ n ∈ zs, -9223372036854775808 ≤ n ∧ n ≤ 9223372036854775807 := by
  obtain ⟨_, _, _, _, _, _, _, h, _⟩ := h
  exact h
theorem IntsAt.seg {w : World} {v : Value} {zs : List Int} (h : IntsAt w v zs) : SegAt w v zs := by
  obtain ⟨a, cap, b, o, rfl, h1, h2, _⟩ := h
  refine ⟨a, cap, rfl, fun h0 => ⟨_, h1 h0, fun j u hu => ?_⟩⟩
  rw [iv, List.getElem?_map] at hu
  cases hj : zs[j]? with
  | none => rw [hj] at hu; cases hu
  | some z =>
    rw [hj] at hu
    obtain ⟨hlt, hz⟩ := List.getElem?_eq_some_iff.1 hj
    have := h2 j hlt
    rw [List.getD_eq_getElem?_getD, hj] at this
    rw [add_at, this]
    exact hu
/-- What lies from n on is as it was. -/
structure From (n : Nat) (w w' : World) : Prop where
  os : w'.os = w.os
  tape : w'.tape = w.tape
  output : w'.output = w.output
  size : w.heap.size ≤ w'.heap.size
  block : ∀ k, n ≤ k → k < w.heap.size → w'.heap[k]? = w.heap[k]?
theorem From.refl (n : Nat) (w : World) : From n w w := ⟨rfl, rfl, rfl, Nat.le_refl _, fun _ _ _ => rfl⟩
theorem From.trans {n : Nat} {a b c : World} (h : From n a b) (k : From n b c) : From n a c :=
  ⟨k.os.trans h.os, k.tape.trans h.tape, k.output.trans h.output, Nat.le_trans h.size k.size, fun j h1 h2 => (k.block j h1 (Nat.lt_of_lt_of_le h2 h.size)).trans (h.block j h1 h2)⟩
theorem From.below {n : Nat} {a b : World} (h : Below a.heap.size a b) : From n a b := ⟨h.os, h.tape, h.output, h.size, fun j _ h2 => h.block j h2⟩
theorem From.only {n X : Nat} {a b : World} (h : Only X a b) (hX : X < n) : From n a b :=
  ⟨h.by_.os, h.by_.tape, h.by_.output, h.by_.size, fun j h1 h2 => h.by_.block j h2 (by simp; omega)⟩
theorem LisFrom.from_ {B : Nat} {w w' : World} {v : Value} {zs : List Int} (h : LisFrom B w v zs) (hf : From B w w') : LisAt w' v zs := by
  rcases h with h | ⟨h0, g, c, cs, fr, hB, h1, h2, h3, h4⟩
  · exact .inl h
  · exact .inr ⟨h0, g, c, cs, fr, h1, h2, (hf.block g hB (Array.getElem?_eq_some_iff.1 h3).1).trans h3, h4⟩
end Go.Proofs.YtgdlkaoadlipmaaDoor

/- Lists whose elements have any number of cells: what they read as, place by place; 'make', 'copy'; one element read, or stored. -/
namespace Go.Proofs.YtgdlkaoadlipmaaDoor
open Go.RowKit
set_option maxRecDepth 1000000
set_option linter.unusedSimpArgs false

/-- v reads as n elements of s cells each, wherever they lie. -/
def PlacesAt (W : World) (s : Nat) (v : Value) (F : Nat → Value) (n : Nat) : Prop := ∃ (a : Option Addr) (cap : Nat), v = .slice a n cap ∧ (0 < n → ∃ ad, a = some ad ∧ ∀ j, j < n * s → W.cell? (ad.add j) = some (F j))
/-- v is a list of n elements of s cells each, in a block of the kind S that nothing else is written into: nil, if there is none. -/
def RunAt (S : Nat → Prop) (W : World) (T : TypeId) (s : Nat) (v : Value) (F : Nat → Value) (n : Nat) : Prop :=
  (n = 0 ∧ v = .slice none 0 0) ∨ (0 < n ∧ ∃ (g c : Nat) (cs : Array Value) (fr : Nat × Nat), v = .slice (some ⟨g, 0, none⟩) n c ∧ n ≤ c ∧ S g ∧ W.heap[g]? = some (.cells cs T fr) ∧ ∀ j, j < n * s → cs[j]? = some (F j))
section
variable {S S' : Nat → Prop} {W W' : World} {T : TypeId} {s n : Nat} {v : Value} {F G : Nat → Value}
theorem RunAt.none (S : Nat → Prop) (W : World) (T : TypeId) (s : Nat) (F : Nat → Value) : RunAt S W T s (.slice .none 0 0) F 0 := .inl ⟨rfl, rfl⟩
theorem RunAt.weak (h : RunAt S W T s v F n) (hs : ∀ g, S g → S' g) : RunAt S' W T s v F n := by
  rcases h with h | ⟨h0, g, c, cs, fr, h1, h2, h3, h4⟩
  · exact .inl h
  · exact .inr ⟨h0, g, c, cs, fr, h1, h2, hs g h3, h4⟩
theorem RunAt.old (h : RunAt S W T s v F n) : RunAt (fun g => S g ∧ g < W.heap.size) W T s v F n := by
  rcases h with h | ⟨h0, g, c, cs, fr, h1, h2, h3, h4, h5⟩
  · exact .inl h
  · exact .inr ⟨h0, g, c, cs, fr, h1, h2, ⟨h3, (Array.getElem?_eq_some_iff.1 h4).1⟩, h4, h5⟩
theorem RunAt.kept {row : Option Nat} (h : RunAt S W T s v F n) (hg : W.grownBy W' row) (hr : ∀ X, row = some X → ¬ S X) : RunAt S W' T s v F n := by
  rcases h with h | ⟨h0, g, c, cs, fr, h1, h2, h3, h4, h5⟩
  · exact .inl h
  · exact .inr ⟨h0, g, c, cs, fr, h1, h2, h3, (hg.block g (Array.getElem?_eq_some_iff.1 h4).1 (fun e => hr g e.symm h3)).trans h4, h5⟩
theorem RunAt.keptT {row : Option Nat} (h : RunAt S W T s v F n) (hg : W.grownBy W' row) (hT : ∀ X, row = some X → ∃ o : Obj, W.heap[X]? = some o ∧ ∀ cs fr, o ≠ .cells cs T fr) : RunAt S W' T s v F n := by
  rcases h with h | ⟨h0, g, c, cs, fr, h1, h2, h3, h4, h5⟩
  · exact .inl h
  · refine .inr ⟨h0, g, c, cs, fr, h1, h2, h3, (hg.block g (Array.getElem?_eq_some_iff.1 h4).1 (fun e => ?_)).trans h4, h5⟩
    obtain ⟨o, ho, hne⟩ := hT g e.symm
    rw [h4] at ho
    exact hne _ _ (Option.some.inj ho).symm
theorem RunAt.later (h : RunAt S W T s v F n) (hb : Below W.heap.size W W') : RunAt S W' T s v F n :=
  h.kept (row := .none) ⟨hb.os, hb.tape, hb.output, hb.size, fun k hk _ => hb.block k hk⟩ (fun _ e => by cases e)
theorem RunAt.congr (h : RunAt S W T s v F n) (e : ∀ j, j < n * s → F j = G j) : RunAt S W T s v G n := by
  rcases h with h | ⟨h0, g, c, cs, fr, h1, h2, h3, h4, h5⟩
  · exact .inl h
  · exact .inr ⟨h0, g, c, cs, fr, h1, h2, h3, h4, fun j hj => by rw [← e j hj]; exact h5 j hj⟩
theorem RunAt.places (h : RunAt S W T s v F n) : PlacesAt W s v F n := by
  rcases h with ⟨rfl, rfl⟩ | ⟨h0, g, c, cs, fr, rfl, h2, h3, h4, h5⟩
  · exact ⟨_, 0, rfl, fun h => absurd h (by omega)⟩
  · refine ⟨_, c, rfl, fun _ => ⟨_, rfl, fun j hj => ?_⟩⟩
    rw [add_at, Nat.zero_add]
    exact cell_in h4 (h5 j hj)
theorem RunAt.shape (h : RunAt S W T s v F n) : ∃ a c, v = .slice a n c ∧ n ≤ c := by
  rcases h with ⟨rfl, rfl⟩ | ⟨_, g, c, _, _, rfl, h, _⟩
  · exact ⟨_, 0, rfl, Nat.le_refl _⟩
  · exact ⟨_, c, rfl, h⟩
theorem RunAt.pos (h : RunAt S W T s v F n) (h0 : 0 < n) : ∃ (g c : Nat) (cs : Array Value) (fr : Nat × Nat), v = .slice (some ⟨g, 0, .none⟩) n c ∧ n ≤ c ∧ S g ∧ W.heap[g]? = some (.cells cs T fr) ∧ ∀ j, j < n * s → cs[j]? = some (F j) := by
  rcases h with ⟨rfl, _⟩ | ⟨_, h⟩
  · omega
  · exact h
theorem PlacesAt.later (h : PlacesAt W s v F n) (hb : Below W.heap.size W W') : PlacesAt W' s v F n := by
  obtain ⟨a, cap, rfl, h2⟩ := h
  refine ⟨a, cap, rfl, fun h0 => ?_⟩
  obtain ⟨ad, rfl, hc⟩ := h2 h0
  exact ⟨ad, rfl, fun j hj => (hb.cell (p := ad.add j) (World.block_lt_of_cell? W _ (hc j hj))).trans (hc j hj)⟩
theorem PlacesAt.congr (h : PlacesAt W s v F n) (e : ∀ j, j < n * s → F j = G j) : PlacesAt W s v G n := by
  obtain ⟨a, cap, rfl, h2⟩ := h
  refine ⟨a, cap, rfl, fun h0 => ?_⟩
  obtain ⟨ad, rfl, hc⟩ := h2 h0
  exact ⟨ad, rfl, fun j hj => by rw [← e j hj]; exact hc j hj⟩
end

/-- Numbers, place by place. -/
def fi (f : Nat → Int) : Nat → Value := fun j => .int .i64 (f j)
/-- The first n numbers of f. -/
def lsF (f : Nat → Int) (n : Nat) : List Int := (List.range n).map f
theorem lsF_len (f : Nat → Int) (n : Nat) : (lsF f n).length = n := by simp [lsF]
theorem lsF_at (f : Nat → Int) (n j : Nat) (h : j < n) : (lsF f n)[j]? = some (f j) := by simp [lsF, h]
theorem lsF_getD (l : List Int) : lsF (fun i => l.getD i 0) l.length = l := by
  apply List.ext_getElem?
  intro j
  rcases Nat.lt_or_ge j l.length with h | h
  · rw [lsF_at _ _ _ h, List.getElem?_eq_getElem h, List.getD_eq_getElem?_getD, List.getElem?_eq_getElem h]; rfl
  · rw [List.getElem?_eq_none (by rw [lsF_len]; exact h), List.getElem?_eq_none h]
theorem lsF_congr {f g : Nat → Int} {n : Nat} (h : ∀ j, j < n → f j = g j) : lsF f n = lsF g n := by
  unfold lsF
  exact List.map_congr_left fun j hj => h j (by simpa using hj)
theorem iv_at (zs : List Int) (j : Nat) (h : j < zs.length) : (iv zs)[j]? = some (.int .i64 (zs.getD j 0)) := by
  rw [iv, List.getElem?_map, List.getElem?_eq_getElem h, List.getD_eq_getElem?_getD, List.getElem?_eq_getElem h]; rfl
theorem SegAt.places {W : World} {v : Value} {zs : List Int} (h : SegAt W v zs) : PlacesAt W 1 v (fi fun i => zs.getD i 0) zs.length := by
  obtain ⟨a, cap, rfl, h2⟩ := h
  refine ⟨a, cap, rfl, fun h0 => ?_⟩
  obtain ⟨ad, rfl, hc⟩ := h2 h0
  exact ⟨ad, rfl, fun j hj => hc j _ (iv_at zs j (by omega))⟩
theorem PlacesAt.seg {W : World} {v : Value} {f : Nat → Int} {n : Nat} (h : PlacesAt W 1 v (fi f) n) : SegAt W v (lsF f n) := by
  obtain ⟨a, cap, rfl, h2⟩ := h
  refine ⟨a, cap, by rw [lsF_len], fun h0 => ?_⟩
  rw [lsF_len] at h0
  obtain ⟨ad, rfl, hc⟩ := h2 h0
  refine ⟨ad, rfl, fun j u hu => ?_⟩
  have hj := (List.getElem?_eq_some_iff.1 hu).1
  rw [iv_len, lsF_len] at hj
  rw [iv, List.getElem?_map, lsF_at _ _ _ hj] at hu
  rw [← hu]
  exact hc j (by omega)

section
variable {P : Program}
/-- 'make([]T, n)'. -/
theorem wpList_make_s (w : World) {ops : Array Oper} {rest : List Oper} {o : Oper} {a : Act} {Q : Exit → Act → World → Prop} (hg : o.guard = none) (l c : Operand) (t : TypeId) (hop : o.op = Op.makeSlice t l c)
    (e : TypeId) (i : TypeInfo) (z : Value) (s : Nat) (ht : P.underlying t = some (.slice e)) (hi : P.info? e = some i) (hz : i.zero = some z) (hsize : i.size = s)
    (kl kc : IntKind) (n : Nat) (hl : a.eval l = .int kl (n : Int)) (hc : a.eval c = .int kc (n : Int)) (hbytes : i.bytes * n ≤ 281474976710656) (h63 : n ≤ 9223372036854775807)
    (hK : wpList P ops Q rest (a.put o.dst (.slice (some ⟨w.heap.size, 0, none⟩) n n)) (w.alloc (.cells (madeCells z.cells (n * s)) e))) : wpList P ops Q (o :: rest) a w := by
  subst hsize
  refine wpList_plain hg fun K hK' => ?_
  have hrun := run_make (P := P) w t e i z ht hi hz kl kc n n (by omega) (Int.le_refl _) (by
    have h : ((i.bytes * n : Nat) : Int) ≤ 281474976710656 := by omega
    rwa [Int.natCast_mul] at h) (by omega)
  simp only [Int.toNat_natCast] at hrun
  unfold Oper.wp
  simp [execOp, hop, hl, hc, hrun, Result.andThen]
  exact hK' _ _ hK
theorem run_storeVar_at (w : World) (g o : Nat) (T ty : TypeId) (cur : Array Value) (v : Value) (vs : List Value) (hv : v.cells = vs.toArray) (hg : w.heap[g]? = some (.cells cur T (0, 0))) (hk : o + vs.length ≤ cur.size)
    (hi : (P.info? ty).map (·.size) = some vs.length) (h1 : ∀ x ∈ vs, x.oneCell' = true) :
    (storeVar ty ⟨g, o, none⟩ v).run P w = .ok () (w.setRow g (cur.toList.take o ++ vs ++ cur.toList.drop (o + vs.length)).toArray) := by
  have := run_storeCells_at (P := P) g o T vs 0 cur w hg (by simpa using hk) h1
  cases hq : P.info? ty with
  | none => simp [hq] at hi
  | some i =>
    have hs : i.size = vs.length := by simpa [hq] using hi
    simp only [Nat.add_zero] at this
    simp [storeVar, sizeOf, typeInfo, hq, hv, hs, this]
theorem laid_at (cur : Array Value) (o : Nat) (vs : List Value) (hk : o + vs.length ≤ cur.size) (j : Nat) :
    (cur.toList.take o ++ vs ++ cur.toList.drop (o + vs.length)).toArray[j]? = if o ≤ j ∧ j < o + vs.length then vs[j - o]? else cur[j]? := by
  have hl : (cur.toList.take o).length = o := by simp; omega
  rw [List.getElem?_toArray, List.append_assoc]
  by_cases h1 : j < o
  · rw [if_neg (by omega), List.getElem?_append_left (by omega), List.getElem?_take_of_lt h1, Array.getElem?_toList]
  · rw [List.getElem?_append_right (by omega), hl]
    by_cases h2 : j < o + vs.length
    · rw [if_pos ⟨by omega, h2⟩, List.getElem?_append_left (by omega)]
    · rw [if_neg (by omega), List.getElem?_append_right (by omega), List.getElem?_drop, Array.getElem?_toList]
      congr 1
      omega
theorem laid_size (cur : Array Value) (o : Nat) (vs : List Value) (hk : o + vs.length ≤ cur.size) : (cur.toList.take o ++ vs ++ cur.toList.drop (o + vs.length)).toArray.size = cur.size := by simp; omega
/-- An element of some cells goes into a block that is known whole. -/
theorem wpList_store_s {w : World} {ops : Array Oper} {rest : List Oper} {o : Oper} {a : Act} {Q : Exit → Act → World → Prop} (hgd : o.guard = none) (ty : TypeId) (x y : Operand) (ho : o.op = .store ty x y)
    (g k : Nat) (hx : a.eval x = .pointer (some ⟨g, k, none⟩)) (cells : Array Value) (hy : a.eval y = .agg cells) (T : TypeId) (cur : Array Value) (hg : w.heap[g]? = some (.cells cur T (0, 0)))
    (hi : (P.info? ty).map (·.size) = some cells.size) (hk : k + cells.size ≤ cur.size) (h1 : cells.all (·.oneCell') = true)
    (h : ∀ w' cur', w'.heap[g]? = some (.cells cur' T (0, 0)) → cur'.size = cur.size → (∀ j, cur'[j]? = if k ≤ j ∧ j < k + cells.size then cells[j - k]? else cur[j]?) → Only g w w' → wpList P ops Q rest (a.put o.dst undef) w') : wpList P ops Q (o :: rest) a w :=
  wpList_plain hgd fun _ hK => by
    have hrun := run_storeVar_at (P := P) w g k T ty cur (.agg cells) cells.toList (by simp [Value.cells]) hg (by simpa using hk) (by simpa using hi) (fun v hv => (Array.all_eq_true_iff_forall_mem.1 h1) v (by simpa using hv))
    unfold Oper.wp execOp
    simp only [ho, hx, hy, Instr.storeAt, Instr.sureAddr, Sem.run_bind, Sem.run_pure, Result.andThen_ok, hrun]
    refine hK _ _ (h _ _ (setRow_heap w g _ _ _ _ hg) (laid_size cur k cells.toList (by simpa using hk)) (fun j => ?_) (only_setRow _ _ _))
    rw [laid_at cur k cells.toList (by simpa using hk) j]
    simp
/-- 'copy(dst, src)' into a list that has room for all of src, from its beginning on. -/
theorem run_copy_s (w : World) (dT sT ty elem : TypeId) (g dLen dCap s : Nat) (a : Addr) (sLen sCap : Nat) (cur : Array Value) (t : TypeId) (cs : List Value)
    (hu : P.underlying dT = some (.slice elem)) (hs : (P.info? elem).map (·.size) = some s)
    (hg : w.heap[g]? = some (.cells cur t (0, 0))) (hle : sLen ≤ dLen) (hn : cs.length = sLen * s)
    (hsrc : ∀ j v, cs[j]? = some v → w.cell? (a.add j) = some v) (hfit : cs.length ≤ cur.size) (h1 : ∀ v ∈ cs, v.oneCell' = true) :
    (Builtin.copy_ #[dT, sT] ty #[.slice (some ⟨g, 0, none⟩) dLen dCap, .slice (some a) sLen sCap]).run P w =
      .ok (goInt sLen) (w.setRow g (cur.toList.take 0 ++ cs ++ cur.toList.drop (0 + cs.length)).toArray) := by
  have hl := run_loadCells_list (P := P) w a cs hsrc
  have hst := run_storeCells_at P g 0 t cs 0 cur w hg (by simpa using hfit) h1
  have hmin : Nat.min sLen dLen = sLen := Nat.min_eq_left hle
  cases hq : P.info? elem with
  | none => simp [hq] at hs
  | some i =>
    have hi : i.size = s := by simpa [hq] using hs
    rw [hn] at hl
    simp only [Nat.add_zero, Nat.zero_add] at hst ⊢
    simp [Builtin.copy_, run_underlying hu, Builtin.lenOf, Builtin.firstCells, sizeOf, typeInfo, hq, hi, hmin, hl, hst]
theorem run_copy_s0 (w : World) (dT sT ty elem : TypeId) (d sp : Option Addr) (dLen dCap s sCap : Nat) (hu : P.underlying dT = some (.slice elem)) (hs : (P.info? elem).map (·.size) = some s) :
    (Builtin.copy_ #[dT, sT] ty #[.slice d dLen dCap, .slice sp 0 sCap]).run P w = .ok (goInt 0) w := by
  have hmin : Nat.min 0 dLen = 0 := Nat.zero_min _
  cases hq : P.info? elem with
  | none => simp [hq] at hs
  | some i =>
    cases d <;> cases sp <;> simp [Builtin.copy_, run_underlying hu, Builtin.lenOf, Builtin.firstCells, sizeOf, typeInfo, hq, hmin, storeCells, loadCells, loadCellsFrom, Result.andThen]
theorem wpList_copy_s {w : World} {ops : Array Oper} {rest : List Oper} {o : Oper} {a : Act} {Q : Exit → Act → World → Prop} (hgd : o.guard = none) (d x : Operand) (dT sT : TypeId)
    (ho : o.op = .call { callee := .builtin .copy, args := #[d, x], argTypes := #[dT, sT] }) (elem : TypeId) (hu : P.underlying dT = some (.slice elem)) (s : Nat) (hsz : (P.info? elem).map (·.size) = some s)
    (g dLen dCap : Nat) (hd : a.eval d = .slice (some ⟨g, 0, none⟩) dLen dCap) (v : Value) (hv : a.eval x = v) (F : Nat → Value) (n : Nat) (hF : PlacesAt w s v F n) (hle : n ≤ dLen)
    (T : TypeId) (cur : Array Value) (hg : w.heap[g]? = some (.cells cur T (0, 0))) (hfit : n * s ≤ cur.size) (h1 : ∀ j, j < n * s → (F j).oneCell' = true)
    (h : ∀ w' cur', w'.heap[g]? = some (.cells cur' T (0, 0)) → cur'.size = cur.size → (∀ j, cur'[j]? = if j < n * s then some (F j) else cur[j]?) → Only g w w' → wpList P ops Q rest (a.put o.dst (goInt n)) w') : wpList P ops Q (o :: rest) a w := by
  refine wpList_plain hgd fun K hK => ?_
  obtain ⟨ap, cap, rfl, h2⟩ := hF
  by_cases h0 : n = 0
  · subst h0
    have hrun := run_copy_s0 (P := P) w dT sT o.type elem (some ⟨g, 0, none⟩) ap dLen dCap s cap hu hsz
    unfold Oper.wp
    simp [execOp, ho, resolve, invoke, builtin, hd, hv, hrun, Result.andThen]
    exact hK _ _ (h w cur hg rfl (fun j => by simp) (Only.refl _ _))
  · obtain ⟨ad, rfl, hc⟩ := h2 (by omega)
    have hlen : ((List.range (n * s)).map F).length = n * s := by simp
    have hrun := run_copy_s (P := P) w dT sT o.type elem g dLen dCap s ad n cap cur T ((List.range (n * s)).map F) hu hsz hg hle hlen (fun j u hu => by
      have hj : j < n * s := by have := (List.getElem?_eq_some_iff.1 hu).1; simpa using this
      rw [List.getElem?_map, List.getElem?_range hj] at hu
      rw [hc j hj]; exact hu) (by rw [hlen]; exact hfit) (fun u hu => by
      obtain ⟨j, hj, rfl⟩ := List.mem_map.1 hu
      exact h1 j (by simpa using hj))
    unfold Oper.wp
    simp [execOp, ho, resolve, invoke, builtin, hd, hv, hrun, Result.andThen]
    refine hK _ _ (h _ _ (by simpa using setRow_heap w g _ (cur.toList.take 0 ++ (List.range (n * s)).map F ++ cur.toList.drop (0 + ((List.range (n * s)).map F).length)).toArray _ _ hg) (by simpa using laid_size cur 0 ((List.range (n * s)).map F) (by rw [hlen]; omega)) (fun j => ?_) (by simpa using only_setRow w g (cur.toList.take 0 ++ (List.range (n * s)).map F ++ cur.toList.drop (0 + ((List.range (n * s)).map F).length)).toArray))
    have := laid_at cur 0 ((List.range (n * s)).map F) (by rw [hlen]; omega) j
    simp only [hlen, Nat.zero_add, Nat.zero_le, true_and, Nat.sub_zero] at this
    by_cases hj : j < n * s
    · rw [if_pos hj]
      rw [if_pos hj, List.getElem?_map, List.getElem?_range hj] at this
      simpa using this
    · rw [if_neg hj]
      rw [if_neg hj] at this
      simpa using this
end
theorem made_at (z : Array Value) (n j : Nat) (h : j < n) : (madeCells z n)[j]? = some (z[j % z.size]!) := by simp [madeCells, h]
end Go.Proofs.YtgdlkaoadlipmaaDoor

/- Lists whose elements have s cells each, as the list of their cells: read wherever they lie (CutAt), at the head of a block (HeadAt); what is cut of them. -/
namespace Go.Proofs.YtgdlkaoadlipmaaDoor
open Go.RowKit
set_option maxRecDepth 1000000
set_option linter.unusedSimpArgs false

/-- v reads as n elements of s cells each, in a block of the kind S: nil, or anywhere in it. -/
def CutAt (S : Nat → Prop) (W : World) (s : Nat) (v : Value) (cs : List Value) (n : Nat) : Prop :=
  ∃ (a : Option Addr) (cap : Nat), v = .slice a n cap ∧ n ≤ cap ∧ cs.length = n * s ∧ ((a = none ∧ cap = 0) ∨ ∃ g o, a = some ⟨g, o, none⟩ ∧ S g ∧ g < W.heap.size ∧ ∀ (j : Nat) (u : Value), cs[j]? = some u → W.cell? ⟨g, o + j, none⟩ = some u)
/-- v is a list of n elements of s cells each, at the head of a block of the kind S that nothing else is written into: nil, if there is none. -/
def HeadAt (S : Nat → Prop) (W : World) (T : TypeId) (s : Nat) (v : Value) (cs : List Value) (n : Nat) : Prop :=
  cs.length = n * s ∧ ((n = 0 ∧ v = .slice none 0 0) ∨ (0 < n ∧ ∃ (g c : Nat) (cur : Array Value) (fr : Nat × Nat), v = .slice (some ⟨g, 0, none⟩) n c ∧ n ≤ c ∧ S g ∧ W.heap[g]? = some (.cells cur T fr) ∧ ∀ (j : Nat) (u : Value), cs[j]? = some u → cur[j]? = some u))
section
variable {S S' : Nat → Prop} {W W' : World} {T : TypeId} {s n n₀ : Nat} {v : Value} {cs : List Value}
theorem CutAt.weak (h : CutAt S W s v cs n) (hs : ∀ g, S g → S' g) : CutAt S' W s v cs n := by
  obtain ⟨a, cap, h1, h2, h3, h4⟩ := h
  refine ⟨a, cap, h1, h2, h3, h4.imp_right ?_⟩
  rintro ⟨g, o, e, hS, h⟩
  exact ⟨g, o, e, hs g hS, h⟩
theorem CutAt.old (h : CutAt S W s v cs n) : CutAt (fun g => S g ∧ g < W.heap.size) W s v cs n := by
  obtain ⟨a, cap, h1, h2, h3, h4⟩ := h
  refine ⟨a, cap, h1, h2, h3, h4.imp_right ?_⟩
  rintro ⟨g, o, e, hS, hg, h⟩
  exact ⟨g, o, e, ⟨hS, hg⟩, hg, h⟩
theorem CutAt.kept {row : Option Nat} (h : CutAt S W s v cs n) (hg : W.grownBy W' row) (hr : ∀ X, row = some X → ¬ S X) : CutAt S W' s v cs n := by
  obtain ⟨a, cap, h1, h2, h3, h4⟩ := h
  refine ⟨a, cap, h1, h2, h3, h4.imp_right ?_⟩
  rintro ⟨g, o, e, hS, hlt, h⟩
  have hb := hg.block g hlt (fun e => hr g e.symm hS)
  exact ⟨g, o, e, hS, Nat.lt_of_lt_of_le hlt hg.size, fun j u hu => (World.cell?_of_block (a := ⟨g, o + j, none⟩) hb).trans (h j u hu)⟩
theorem CutAt.later (h : CutAt S W s v cs n) (hb : Below W.heap.size W W') : CutAt S W' s v cs n :=
  h.kept (row := none) ⟨hb.os, hb.tape, hb.output, hb.size, fun k hk _ => hb.block k hk⟩ (fun _ e => by cases e)
theorem CutAt.len (h : CutAt S W s v cs n) : cs.length = n * s := by obtain ⟨_, _, _, _, h, _⟩ := h; exact h
theorem CutAt.shape (h : CutAt S W s v cs n) : ∃ a c, v = .slice a n c ∧ n ≤ c := by obtain ⟨a, c, h1, h2, _⟩ := h; exact ⟨a, c, h1, h2⟩
theorem CutAt.pos (h : CutAt S W s v cs n) (h0 : 0 < n) : ∃ g o c, v = .slice (some ⟨g, o, none⟩) n c ∧ n ≤ c ∧ S g ∧ g < W.heap.size ∧ ∀ (j : Nat) (u : Value), cs[j]? = some u → W.cell? ⟨g, o + j, none⟩ = some u := by
  obtain ⟨a, c, rfl, h2, h3, h4⟩ := h
  rcases h4 with ⟨rfl, rfl⟩ | ⟨g, o, rfl, h⟩
  · omega
  · exact ⟨g, o, c, rfl, h2, h⟩
theorem HeadAt.weak (h : HeadAt S W T s v cs n) (hs : ∀ g, S g → S' g) : HeadAt S' W T s v cs n := by
  obtain ⟨h0, h⟩ := h
  refine ⟨h0, h.imp_right ?_⟩
  rintro ⟨h1, g, c, cur, fr, h2, h3, hS, h4⟩
  exact ⟨h1, g, c, cur, fr, h2, h3, hs g hS, h4⟩
theorem HeadAt.old (h : HeadAt S W T s v cs n) : HeadAt (fun g => S g ∧ g < W.heap.size) W T s v cs n := by
  obtain ⟨h0, h⟩ := h
  refine ⟨h0, h.imp_right ?_⟩
  rintro ⟨h1, g, c, cur, fr, h2, h3, hS, h4, h5⟩
  exact ⟨h1, g, c, cur, fr, h2, h3, ⟨hS, (Array.getElem?_eq_some_iff.1 h4).1⟩, h4, h5⟩
theorem HeadAt.kept {row : Option Nat} (h : HeadAt S W T s v cs n) (hg : W.grownBy W' row) (hr : ∀ X, row = some X → ¬ S X) : HeadAt S W' T s v cs n := by
  obtain ⟨h0, h⟩ := h
  refine ⟨h0, h.imp_right ?_⟩
  rintro ⟨h1, g, c, cur, fr, h2, h3, hS, h4, h5⟩
  exact ⟨h1, g, c, cur, fr, h2, h3, hS, (hg.block g (Array.getElem?_eq_some_iff.1 h4).1 (fun e => hr g e.symm hS)).trans h4, h5⟩
theorem HeadAt.keptT {row : Option Nat} (h : HeadAt S W T s v cs n) (hg : W.grownBy W' row) (hT : ∀ X, row = some X → ∃ o : Obj, W.heap[X]? = some o ∧ ∀ cs fr, o ≠ .cells cs T fr) : HeadAt S W' T s v cs n := by
  obtain ⟨h0, h⟩ := h
  refine ⟨h0, h.imp_right ?_⟩
  rintro ⟨h1, g, c, cur, fr, h2, h3, hS, h4, h5⟩
  refine ⟨h1, g, c, cur, fr, h2, h3, hS, (hg.block g (Array.getElem?_eq_some_iff.1 h4).1 (fun e => ?_)).trans h4, h5⟩
  obtain ⟨o, ho, hne⟩ := hT g e.symm
  rw [h4] at ho
  exact hne _ _ (Option.some.inj ho).symm
theorem HeadAt.later (h : HeadAt S W T s v cs n) (hb : Below W.heap.size W W') : HeadAt S W' T s v cs n :=
  h.kept (row := none) ⟨hb.os, hb.tape, hb.output, hb.size, fun k hk _ => hb.block k hk⟩ (fun _ e => by cases e)
theorem HeadAt.low (h : HeadAt (fun g => g < n₀) W T s v cs n) (hb : Below n₀ W W') : HeadAt (fun g => g < n₀) W' T s v cs n := by
  obtain ⟨h0, h⟩ := h
  refine ⟨h0, h.imp_right ?_⟩
  rintro ⟨h1, g, c, cur, fr, h2, h3, hS, h4, h5⟩
  exact ⟨h1, g, c, cur, fr, h2, h3, hS, (hb.block g hS).trans h4, h5⟩
theorem HeadAt.shape (h : HeadAt S W T s v cs n) : ∃ a c, v = .slice a n c ∧ n ≤ c := by
  rcases h with ⟨_, ⟨rfl, rfl⟩ | ⟨_, g, c, _, _, rfl, h, _⟩⟩
  · exact ⟨_, 0, rfl, Nat.le_refl _⟩
  · exact ⟨_, c, rfl, h⟩
theorem HeadAt.pos (h : HeadAt S W T s v cs n) (h0 : 0 < n) : ∃ (g c : Nat) (cur : Array Value) (fr : Nat × Nat), v = .slice (some ⟨g, 0, none⟩) n c ∧ n ≤ c ∧ S g ∧ W.heap[g]? = some (.cells cur T fr) ∧ ∀ (j : Nat) (u : Value), cs[j]? = some u → cur[j]? = some u := by
  rcases h with ⟨_, ⟨rfl, _⟩ | ⟨_, h⟩⟩
  · omega
  · exact h
theorem HeadAt.cut (h : HeadAt S W T s v cs n) : CutAt S W s v cs n := by
  obtain ⟨hl, ⟨rfl, rfl⟩ | ⟨h0, g, c, cur, fr, rfl, h2, hS, h4, h5⟩⟩ := h
  · exact ⟨_, 0, rfl, Nat.le_refl _, hl, .inl ⟨rfl, rfl⟩⟩
  · refine ⟨_, c, rfl, h2, hl, .inr ⟨g, 0, rfl, hS, (Array.getElem?_eq_some_iff.1 h4).1, fun j u hu => ?_⟩⟩
    rw [Nat.zero_add]
    exact cell_in h4 (h5 j u hu)
theorem CutAt.places (h : CutAt S W s v cs n) : PlacesAt W s v (fun j => cs.getD j undef) n := by
  obtain ⟨a, cap, rfl, h2, h3, h4⟩ := h
  refine ⟨a, cap, rfl, fun h0 => ?_⟩
  rcases h4 with ⟨rfl, rfl⟩ | ⟨g, o, rfl, _, _, h5⟩
  · omega
  · refine ⟨_, rfl, fun j hj => ?_⟩
    rw [add_at]
    refine h5 j _ ?_
    show cs[j]? = some (cs.getD j undef)
    rw [List.getD_eq_getElem?_getD, List.getElem?_eq_getElem (by omega)]
    rfl
/-- What is cut of a list: from lo up to hi. -/
theorem sliced_cut {a : Option Addr} {cap lo hi : Nat} (h : CutAt S W s (.slice a n cap) cs n) (h1 : lo ≤ hi) (h2 : hi ≤ n) : CutAt S W s (sliced a lo hi cap s) ((cs.take (hi * s)).drop (lo * s)) (hi - lo) := by
  obtain ⟨a', cap', e, h3, h4, h5⟩ := h
  simp only [Value.slice.injEq, true_and] at e
  obtain ⟨rfl, rfl⟩ := e
  have hl : ((cs.take (hi * s)).drop (lo * s)).length = (hi - lo) * s := by
    rw [List.length_drop, List.length_take, h4, Nat.sub_mul, Nat.min_eq_left (Nat.mul_le_mul_right _ h2)]
  refine ⟨_, _, rfl, by omega, hl, ?_⟩
  rcases h5 with ⟨rfl, rfl⟩ | ⟨g, o, rfl, hS, hlt, h6⟩
  · exact .inl ⟨by split <;> rfl, by omega⟩
  · refine .inr ?_
    by_cases e : cap = lo
    · rw [if_pos e]
      refine ⟨g, o, rfl, hS, hlt, fun j u hu => ?_⟩
      have := (List.getElem?_eq_some_iff.1 hu).1
      rw [hl, show hi - lo = 0 by omega] at this
      simp at this
    · rw [if_neg e]
      refine ⟨g, o + lo * s, by simp [add_at], hS, hlt, fun j u hu => ?_⟩
      rw [Nat.add_assoc]
      refine h6 _ _ ?_
      rw [List.getElem?_drop, List.getElem?_take] at hu
      split at hu
      · exact hu
      · cases hu
end
section
variable {P : Program} {S : Nat → Prop} {W : World} {s n : Nat} {v : Value} {cs : List Value}
theorem cut_lh (t : TypeId) (ht : P.underlying t = some (.slice (P.elem t))) (hs : ∀ w, (sizeOf (P.elem t)).run P w = .ok s w) (h : CutAt S W s v cs n) {lo hi : Nat} (h1 : lo ≤ hi) (h2 : hi ≤ n) :
    ∃ a c, CutAt S W s (.slice a (hi - lo) c) ((cs.take (hi * s)).drop (lo * s)) (hi - lo) ∧ ∀ w, (Instr.slice t v (some (.int .i64 (lo : Int))) (some (.int .i64 (hi : Int))) none).run P w = .ok (.slice a (hi - lo) c) w := by
  obtain ⟨a, c, rfl, hc⟩ := h.shape
  refine ⟨_, _, sliced_cut h h1 h2, fun w => ?_⟩
  rw [run_slice_lh w t a n c ht _ _ _ _ (by omega) (by omega) (by omega), hs]
  simp only [Result.andThen_ok, Int.toNat_natCast]
  rfl
theorem cut_h (t : TypeId) (ht : P.underlying t = some (.slice (P.elem t))) (hs : ∀ w, (sizeOf (P.elem t)).run P w = .ok s w) (h : CutAt S W s v cs n) {hi : Nat} (h2 : hi ≤ n) :
    ∃ a c, CutAt S W s (.slice a hi c) (cs.take (hi * s)) hi ∧ ∀ w, (Instr.slice t v none (some (.int .i64 (hi : Int))) none).run P w = .ok (.slice a hi c) w := by
  obtain ⟨a, c, rfl, hc⟩ := h.shape
  have := sliced_cut h (Nat.zero_le _) h2
  rw [Nat.zero_mul, List.drop_zero] at this
  refine ⟨_, _, this, fun w => ?_⟩
  rw [run_slice_h w t a n c ht _ _ (by omega) (by omega), hs]
  simp only [Result.andThen_ok, Int.toNat_natCast]
  rfl
theorem cut_l (t : TypeId) (ht : P.underlying t = some (.slice (P.elem t))) (hs : ∀ w, (sizeOf (P.elem t)).run P w = .ok s w) (h : CutAt S W s v cs n) {lo : Nat} (h2 : lo ≤ n) :
    ∃ a c, CutAt S W s (.slice a (n - lo) c) (cs.drop (lo * s)) (n - lo) ∧ ∀ w, (Instr.slice t v (some (.int .i64 (lo : Int))) none none).run P w = .ok (.slice a (n - lo) c) w := by
  obtain ⟨a, c, rfl, hc⟩ := h.shape
  have := sliced_cut h h2 (Nat.le_refl _)
  rw [List.take_of_length_le (by rw [h.len]; exact Nat.le_refl _)] at this
  refine ⟨_, _, this, fun w => ?_⟩
  rw [run_slice_l w t a n c ht _ _ (by omega) (by omega), hs]
  simp only [Result.andThen_ok, Int.toNat_natCast]
  rfl
/-- A list that a call owns is read. -/
theorem ownsRow_cut {w : World} {base : Nat} {e : TypeId} (h : w.ownsRow base e s v n cs) : CutAt (fun g => base ≤ g) w s v cs n := by
  have h' := h
  obtain ⟨hl, ⟨rfl, rfl⟩ | ⟨g, cap, cur, rfl, hb, hg, hc, _⟩⟩ := h
  · exact ⟨_, 0, rfl, Nat.le_refl _, hl, .inl ⟨rfl, rfl⟩⟩
  · refine ⟨_, cap, rfl, hc, hl, .inr ⟨g, 0, rfl, hb, (Array.getElem?_eq_some_iff.1 hg).1, fun j u hu => ?_⟩⟩
    have := h'.cells (g := g) rfl j u hu
    rwa [add_at] at this
theorem ownsRow_head {w : World} {base : Nat} {e : TypeId} (h : w.ownsRow base e s v n cs) (h0 : 0 < n) : HeadAt (fun g => base ≤ g) w e s v cs n := by
  obtain ⟨hl, ⟨rfl, rfl⟩ | ⟨g, cap, cur, rfl, hb, hg, hc, h3, h4, h5⟩⟩ := h
  · omega
  · refine ⟨hl, .inr ⟨h0, g, cap, cur, (0, 0), rfl, hc, hb, hg, fun j u hu => ?_⟩⟩
    have hj := (List.getElem?_eq_some_iff.1 hu).1
    rw [hl] at hj
    rw [← h5, List.getElem?_take_of_lt hj, Array.getElem?_toList] at hu
    exact hu
theorem ownsRow_low {w : World} {base : Nat} {e : TypeId} (h : w.ownsRow base e s v n cs) : ∀ k, v.ownBlock = some k → base ≤ k := fun k hk => (h.lt k hk).1
/-- 'append(own, list..)'. -/
theorem run_append_cut {w : World} (base : Nat) (t ty e : TypeId) (i : TypeInfo) (z : Value) (bytes : Nat) (ht : P.underlying t = some (.slice e)) (hi : P.info? e = some i) (hz : i.zero = some z)
    (hsize : i.size = s) (hby : i.bytes = bytes) (hzs : z.cells.size = s) (hsz : 0 < s) {vo : Value} {m : Nat} {xs : List Value} (hown : w.ownsRow base e s vo m xs) (hc : CutAt S w s v cs n) (h1 : ∀ u ∈ cs, u.oneCell' = true)
    (h63 : m + n ≤ maxLen) (hbytes : (m + n) * bytes ≤ 140737488355328) (hbase : base ≤ w.heap.size) :
    ∃ v' w', (Builtin.append_ #[t, t] ty #[vo, v]).run P w = .ok v' w' ∧ w'.ownsRow base e s v' (m + n) (xs ++ cs) ∧ w.grownBy w' vo.ownBlock := by
  obtain ⟨a, cap, rfl, h2, h3, h4⟩ := hc
  rcases h4 with ⟨rfl, rfl⟩ | ⟨g, o, rfl, hS, hlt, h5⟩
  · obtain rfl : n = 0 := by omega
    obtain rfl : cs = [] := List.eq_nil_of_length_eq_zero (by simpa using h3)
    exact ⟨vo, w, run_append_owned_none w base t ty e i s ht hi vo m xs hown, by simpa using hown, ⟨rfl, rfl, rfl, Nat.le_refl _, fun _ _ _ => rfl⟩⟩
  · obtain ⟨v', w', r1, r2, r3, _⟩ := run_append_own w base t ty e i z s bytes ht hi hz hsize hby hzs hsz vo m xs hown ⟨g, o, none⟩ n cap cs h3 (fun j u hu => by rw [add_at]; exact h5 j u hu) h1 h63 hbytes hbase
    exact ⟨v', w', r1, r2, r3⟩
theorem wpList_append_cut {ops : Array Oper} {rest : List Oper} {o : Oper} {a : Act} {Q : Exit → Act → World → Prop} {w : World} (hgd : o.guard = none) (p x : Operand) (t : TypeId)
    (ho : o.op = .call { callee := .builtin .append, args := #[p, x], argTypes := #[t, t] }) (base : Nat) (e : TypeId) (i : TypeInfo) (z : Value) (bytes : Nat) (ht : P.underlying t = some (.slice e)) (hi : P.info? e = some i) (hz : i.zero = some z)
    (hsize : i.size = s) (hby : i.bytes = bytes) (hzs : z.cells.size = s) (hsz : 0 < s) {vo : Value} {m : Nat} {xs : List Value} (hp : a.eval p = vo) (hown : w.ownsRow base e s vo m xs) (hx : a.eval x = v) (hc : CutAt S w s v cs n) (h1 : ∀ u ∈ cs, u.oneCell' = true)
    (h63 : m + n ≤ maxLen) (hbytes : (m + n) * bytes ≤ 140737488355328) (hbase : base ≤ w.heap.size)
    (h : ∀ v' w', w'.ownsRow base e s v' (m + n) (xs ++ cs) → w.grownBy w' vo.ownBlock → wpList P ops Q rest (a.put o.dst v') w') : wpList P ops Q (o :: rest) a w := by
  obtain ⟨v', w', r1, r2, r3⟩ := run_append_cut (P := P) (w := w) base t o.type e i z bytes ht hi hz hsize hby hzs hsz hown hc h1 h63 hbytes hbase
  refine wpList_plain hgd fun K hK => ?_
  unfold Oper.wp execOp
  simp only [ho, resolve, invoke, builtin, Sem.run_bind, Sem.run_pure, Result.andThen_ok, List.map_toArray, List.map_cons, List.map_nil, hp, hx, r1]
  exact hK _ _ (h v' w' r2 r3)
end

/-- The cells of these elements. -/
def en {α : Type} (enc : α → List Value) (xs : List α) : List Value := xs.flatMap enc
section
variable {α : Type} {enc : α → List Value} {s : Nat}
theorem en_len (henc : ∀ x, (enc x).length = s) : ∀ xs : List α, (en enc xs).length = xs.length * s
  | [] => by simp [en]
  | x :: xs => by
    have := en_len henc xs
    unfold en at this ⊢
    rw [List.flatMap_cons, List.length_append, this, henc, List.length_cons, Nat.add_mul]
    omega
theorem en_app (xs ys : List α) : en enc (xs ++ ys) = en enc xs ++ en enc ys := by simp [en]
theorem en_take (henc : ∀ x, (enc x).length = s) (xs : List α) (k : Nat) : (en enc xs).take (k * s) = en enc (xs.take k) := by
  rcases Nat.lt_or_ge xs.length k with h | h
  · rw [List.take_of_length_le (by rw [en_len henc]; exact Nat.mul_le_mul_right _ (by omega)), List.take_of_length_le (by omega)]
  · have e := List.take_append_drop k xs
    have hl : (en enc (xs.take k)).length = k * s := by rw [en_len henc, List.length_take, Nat.min_eq_left h]
    rw [← e, en_app, List.take_append_of_le_length (by omega), List.take_of_length_le (by omega), e]
theorem en_drop (henc : ∀ x, (enc x).length = s) (xs : List α) (k : Nat) : (en enc xs).drop (k * s) = en enc (xs.drop k) := by
  rcases Nat.lt_or_ge xs.length k with h | h
  · rw [List.drop_of_length_le (by rw [en_len henc]; exact Nat.mul_le_mul_right _ (by omega)), List.drop_of_length_le (by omega)]; rfl
  · have e := List.take_append_drop k xs
    have hl : (en enc (xs.take k)).length = k * s := by rw [en_len henc, List.length_take, Nat.min_eq_left h]
    rw [← e, en_app, List.drop_append, List.drop_of_length_le (by omega), hl, Nat.sub_self, e]
    rfl
theorem en_one (hone : ∀ x, ∀ u ∈ enc x, u.oneCell' = true) (xs : List α) : ∀ u ∈ en enc xs, u.oneCell' = true := by
  intro u hu
  obtain ⟨x, _, hx⟩ := List.mem_flatMap.1 hu
  exact hone x u hx
theorem en_at (henc : ∀ x, (enc x).length = s) : ∀ (xs : List α) (i k : Nat) (x : α), xs[i]? = some x → k < s → (en enc xs)[i * s + k]? = (enc x)[k]?
  | [], _, _, _, h, _ => by simp at h
  | a :: xs, 0, k, x, h, hk => by
    simp at h
    subst h
    unfold en
    rw [List.flatMap_cons, List.getElem?_append_left (by rw [henc]; omega)]
    simp
  | a :: xs, i + 1, k, x, h, hk => by
    have := en_at henc xs i k x (by simpa using h) hk
    unfold en at this ⊢
    rw [List.flatMap_cons, List.getElem?_append_right (by rw [henc, Nat.add_mul]; omega), henc, show (i + 1) * s + k - s = i * s + k by rw [Nat.add_mul]; omega]
    exact this
/-- What all lists have, up to the k-th. -/
def catE (ls : List (Value × List α)) (k : Nat) : List α := (ls.take k).flatMap (·.2)
theorem catE_succ {ls : List (Value × List α)} {k : Nat} (hk : k < ls.length) : catE ls (k + 1) = catE ls k ++ ls[k].2 := by
  unfold catE
  rw [List.take_succ_eq_append_getElem hk, List.flatMap_append]
  simp
theorem catE_le {ls : List (Value × List α)} : ∀ {j : Nat} (k : Nat), k ≤ j → j ≤ ls.length → (catE ls k).length ≤ (catE ls j).length
  | 0, k, hk, _ => by obtain rfl : k = 0 := by omega
                      exact Nat.le_refl _
  | j + 1, k, hk, hj => by
    by_cases e : k = j + 1
    · subst e; exact Nat.le_refl _
    · have := catE_le (ls := ls) (j := j) k (by omega) (by omega)
      rw [catE_succ (by omega), List.length_append]
      omega
end
/-- A list laid into c lists of nearly one length. -/
def chunks {α : Type} : Nat → List α → List (List α)
  | 0, _ => []
  | c + 1, xs => xs.take (xs.length / (c + 1)) :: chunks c (xs.drop (xs.length / (c + 1)))
theorem chunks_len {α : Type} : ∀ (c : Nat) (xs : List α), (chunks c xs).length = c
  | 0, _ => rfl
  | c + 1, xs => by simp [chunks, chunks_len c]
theorem chunks_flat {α : Type} : ∀ (c : Nat) (xs : List α), (c = 0 → xs = []) → (chunks c xs).flatten = xs
  | 0, xs, h => by rw [h rfl]; rfl
  | c + 1, xs, _ => by
    rw [chunks, List.flatten_cons, chunks_flat c _ (fun h => ?_), List.take_append_drop]
    subst h
    simp
theorem chunk_step {b N c : Nat} (h : b * (c + 1) ≤ N) : b ≤ N / (c + 1) ∧ b * c ≤ N - N / (c + 1) := by
  have h1 : b ≤ N / (c + 1) := (Nat.le_div_iff_mul_le (by omega)).2 h
  refine ⟨h1, ?_⟩
  have h2 : N / (c + 1) * (c + 1) ≤ N := Nat.div_mul_le_self _ _
  have h3 : b * c ≤ N / (c + 1) * c := Nat.mul_le_mul_right _ h1
  rw [Nat.mul_add, Nat.mul_one] at h2
  omega
theorem chunk_step' {B N c : Nat} (h : N ≤ B * (c + 1)) : N / (c + 1) ≤ B ∧ N - N / (c + 1) ≤ B * c := by
  have h1 : N / (c + 1) ≤ B := by
    have := Nat.div_le_div_right (c := c + 1) h
    rwa [Nat.mul_div_cancel _ (by omega)] at this
  refine ⟨h1, ?_⟩
  have h2 : N < (N / (c + 1) + 1) * (c + 1) := by
    have := Nat.lt_div_mul_add (a := N) (b := c + 1) (by omega)
    rw [Nat.add_mul, Nat.one_mul]
    exact this
  rcases Nat.lt_or_ge (N / (c + 1)) B with h3 | h3
  · have h4 : (N / (c + 1) + 1) * c ≤ B * c := Nat.mul_le_mul_right _ h3
    rw [Nat.mul_add, Nat.mul_one] at h2
    omega
  · have e : N / (c + 1) = B := by omega
    rw [e]
    rw [Nat.mul_add, Nat.mul_one] at h
    omega
theorem chunks_mem {α : Type} {b B : Nat} : ∀ (c : Nat) (xs : List α), b * c ≤ xs.length → xs.length ≤ B * c → ∀ ys ∈ chunks c xs, b ≤ ys.length ∧ ys.length ≤ B
  | 0, _, _, _, _, h => by cases h
  | c + 1, xs, h1, h2, ys, h => by
    have s1 := chunk_step h1
    have s2 := chunk_step' h2
    have hle : xs.length / (c + 1) ≤ xs.length := Nat.div_le_self _ _
    rcases List.mem_cons.1 h with rfl | h
    · rw [List.length_take]
      omega
    · exact chunks_mem c _ (by rw [List.length_drop]; exact s1.2) (by rw [List.length_drop]; exact s2.2) ys h
/-- How many nodes have room for N. -/
def cntN (N : Nat) : Nat := (N + 15) / 16
theorem chunks_wide {α : Type} (xs : List α) : ∀ ys ∈ chunks (cntN xs.length) xs, 1 ≤ ys.length ∧ ys.length ≤ 16 ∧ (2 ≤ cntN xs.length → 8 ≤ ys.length) := by
  intro ys hy
  have h1 := chunks_mem (b := 1) (B := 16) _ xs (by unfold cntN; omega) (by unfold cntN; omega) ys hy
  refine ⟨h1.1, h1.2, fun h2 => ?_⟩
  exact (chunks_mem (b := 8) (B := 16) _ xs (by unfold cntN at h2 ⊢; omega) (by unfold cntN; omega) ys hy).1
theorem chunks_one {α : Type} (xs : List α) (h : cntN xs.length = 1) : chunks (cntN xs.length) xs = [xs] := by
  rw [h]
  simp [chunks]
end Go.Proofs.YtgdlkaoadlipmaaDoor

/- What a round of a range over a function keeps: variables, lists of numbers; 'make([]int, 0, n)'. -/
namespace Go.Proofs.YtgdlkaoadlipmaaDoor
open Go.RowKit Go.Shelf
set_option maxRecDepth 1000000
set_option linter.unusedSimpArgs false
attribute [local go_sem] Oper.semAt_some

theorem bx_kept {A B : World} {X : Nat} {t : TypeId} {v : Value} {row : Option Nat} (h : Boxed A X t v) (hg : A.grownBy B row) (hr : ∀ r, row = some r → ∃ o : Obj, A.heap[r]? = some o ∧ o.isCells = false) : Boxed B X t v :=
  boxed_own (β := Unit) X t (fun _ => v) () A B row h hg hr
theorem ints_kept {A B : World} {n : Nat} {v : Value} {l : List Int} {row : Option Nat} (h : Ints n v l A) (hg : A.grownBy B row) (hr : ∀ r, row = some r → ∃ o : Obj, A.heap[r]? = some o ∧ o.isCells = false) : Ints n v l B := by
  refine h.grown hg ?_
  cases hv : v.ownBlock with
  | none => exact .inl rfl
  | some k =>
    refine .inr fun e => ?_
    obtain ⟨o, ho, hc⟩ := hr k e.symm
    obtain ⟨⟨_, h2⟩, _⟩ := h
    rcases h2 with ⟨rfl, _⟩ | ⟨g, cap, cur, fz, rfl, _, hb, _⟩
    · cases hv
    · obtain rfl : g = k := by simpa [Value.ownBlock] using hv
      rw [hb] at ho
      cases ho
      cases hc
theorem lis_kept {A B : World} {v : Value} {l : List Int} {row : Option Nat} (h : LisAt A v l) (hg : A.grownBy B row) (hr : ∀ r, row = some r → ∃ o : Obj, A.heap[r]? = some o ∧ o.isCells = false) : LisAt B v l := by
  rcases h with h | ⟨h0, g, c, cs, fr, h1, h2, h3, h4⟩
  · exact .inl h
  · refine .inr ⟨h0, g, c, cs, fr, h1, h2, (hg.block g (Array.getElem?_eq_some_iff.1 h3).1 fun e => ?_).trans h3, h4⟩
    obtain ⟨o, ho, hc⟩ := hr g e.symm
    rw [h3] at ho
    cases ho
    cases hc
theorem ints_not {w : World} {n L : Nat} {v : Value} {l : List Int} {cs : Array Value} {T : TypeId} {fr : Nat × Nat} (h : Ints n v l w) (hb : w.heap[L]? = some (.cells cs T fr)) (hT : T ≠ 3) : some L ≠ v.ownBlock := by
  intro e
  obtain ⟨⟨_, h2⟩, _⟩ := h
  rcases h2 with ⟨rfl, _⟩ | ⟨g, cap, cur, fz, rfl, _, hg, _⟩
  · cases e
  · obtain rfl : L = g := by simpa [Value.ownBlock] using e
    rw [hb] at hg
    cases hg
    exact hT rfl
theorem ints_cells {w : World} {n : Nat} {v : Value} {l : List Int} (h : Ints n v l w) : ∀ (j : Nat) (o : Obj), v.ownBlock = some j → w.heap[j]? = some o → o.isCells = true := by
  intro j o hj ho
  obtain ⟨⟨_, h2⟩, _⟩ := h
  rcases h2 with ⟨rfl, _⟩ | ⟨g, cap, cur, fz, rfl, _, hg, _⟩
  · cases hj
  · obtain rfl : g = j := by simpa [Value.ownBlock] using hj
    rw [hg] at ho
    cases ho
    rfl
theorem ints_low {w : World} {n : Nat} {v : Value} {l : List Int} (h : Ints n v l w) : ∀ k, some k = v.ownBlock → n ≤ k := by
  intro k hk
  obtain ⟨⟨_, h2⟩, _⟩ := h
  rcases h2 with ⟨rfl, _⟩ | ⟨g, cap, cur, fz, rfl, hB, _⟩
  · cases hk
  · obtain rfl : k = g := by simpa [Value.ownBlock] using hk
    exact hB
theorem ints_lis {w : World} {n : Nat} {v : Value} {l : List Int} (h : Ints n v l w) (h0 : 0 < l.length) : LisAt w v l := by
  obtain ⟨h1, _⟩ := h
  obtain ⟨_, h2⟩ := h1
  rcases h2 with ⟨_, h3⟩ | ⟨g, cap, cur, fz, rfl, hB, hg, h5, h6, h7, h8⟩
  · exact absurd (List.eq_nil_of_length_eq_zero (by simpa using h3)) (by intro e; rw [e] at h0; simp at h0)
  · refine .inr ⟨h0, g, cap, cur, fz, rfl, h6, hg, fun j u hu => ?_⟩
    have hj := (List.getElem?_eq_some_iff.1 hu).1
    rw [iv_len] at hj
    rw [← h8.2, List.getElem?_take_of_lt (by omega), Array.getElem?_toList] at hu
    exact hu
/-- 'make([]int, 0, n)'. -/
theorem ints_make {ops : Array Oper} {rest : List Oper} {o : Oper} {a : Act} {Q : Exit → Act → World → Prop} {w : World} (hgd : o.guard = none) (l c : Operand) (hop : o.op = .makeSlice 56 l c)
    {B : Nat} (kl kc : IntKind) (C : Int) (n : Nat) (hl : a.eval l = .int kl 0) (hc : a.eval c = .int kc C) (hC : C = (n : Int)) (hn : n ≤ 10000000) (hB : B ≤ w.heap.size)
    (h : ∀ w', Ints B (.slice (some ⟨w.heap.size, 0, none⟩) 0 n) [] w' → Below w.heap.size w w' → wpList Tryd.prog ops Q rest (a.put o.dst (.slice (some ⟨w.heap.size, 0, none⟩) 0 n)) w') : wpList Tryd.prog ops Q (o :: rest) a w := by
  obtain ⟨i, hi, hz, h1, h2⟩ := info_parts int_info
  refine wpList_make_own w hgd l c 56 hop B 3 i (.int .i64 0) 1 Tryd.underlying56 hi hz h1 kl kc C n hl hc hC (by rw [h2]; omega) (by unfold maxLen; omega) hB fun w' r1 r2 => ?_
  have hb : Below w.heap.size w w' := (Below.refl _ _).grown r2 (Nat.le_refl _) (fun k hk => by cases hk)
  exact h _ ⟨World.ownsRowF_of r1, Nat.le_trans hB hb.size⟩ hb
theorem row_kept {A B : World} {k : Nat} {cs : Array Value} {T : TypeId} {fr : Nat × Nat} {row : Option Nat} (h : A.heap[k]? = some (.cells cs T fr)) (hg : A.grownBy B row) (hr : ∀ r, row = some r → ∃ o : Obj, A.heap[r]? = some o ∧ o.isCells = false) : B.heap[k]? = some (.cells cs T fr) := by
  refine (hg.block _ (Array.getElem?_eq_some_iff.1 h).1 fun e => ?_).trans h
  obtain ⟨o, ho, hc⟩ := hr k e.symm
  rw [h] at ho
  cases ho
  cases hc
theorem row_set {W : World} {k B : Nat} {cs : Array Value} {T : TypeId} {fr : Nat × Nat} (h : W.heap[k]? = some (.cells cs T fr)) (hne : k ≠ B) (v : Value) : (W.setCell ⟨B, 0, none⟩ v).heap[k]? = some (.cells cs T fr) :=
  ((grownBy_setCell' W B v).block _ (Array.getElem?_eq_some_iff.1 h).1 (fun e => hne (Option.some.inj e))).trans h
theorem keeps_below {A B : World} (h : Below A.heap.size A B) : KeepsOthers A B := ⟨h.size, fun k _ hk _ => (h.block k (Array.getElem?_eq_some_iff.1 hk).1).trans hk⟩
theorem bool_size : (Tryd.prog.info? 4).map (·.size) = some 1 := by kernel_rfl
end Go.Proofs.YtgdlkaoadlipmaaDoor

/- Lists of texts that a call owns (Strs), or that are read (CutS). (made of Hm13 by tools/gen09/strs.py) -/
namespace Go.Proofs.YtgdlkaoadlipmaaDoor
open Go.RowKit Go.Shelf
set_option maxRecDepth 1000000
set_option linter.unusedSimpArgs false

/-- The cells of texts. -/
def enS (k : ByteArray) : List Value := [.string k]
theorem enS_len (k : ByteArray) : (enS k).length = 1 := rfl
theorem enS_one (k : ByteArray) : ∀ u ∈ enS k, u.oneCell' = true := by
  intro u hu
  simp only [enS, List.mem_cons, List.not_mem_nil, or_false] at hu
  subst hu
  rfl
theorem enS_at (ks : List ByteArray) : ∀ (j : Nat), (en enS ks)[j]? = (ks[j]?).map fun k => Value.string k := by
  induction ks with
  | nil => intro j; simp [en]
  | cons q qs ih =>
    intro j
    cases j with
    | zero => simp [en, enS]
    | succ j => simpa [en, enS] using ih j
theorem str_info : (Tryd.prog.info? 9).map (fun i => (i.zero, i.size, i.bytes)) = some (some (.string ⟨#[]⟩), 1, 16) := by kernel_rfl
theorem str_elem (w : World) : (sizeOf (Tryd.prog.elem 52)).run Tryd.prog w = .ok 1 w := by
  have e : Tryd.prog.elem 52 = 9 := by kernel_rfl
  rw [e]
  obtain ⟨i, hi, _, h1, _⟩ := info_parts str_info
  simp [sizeOf, typeInfo, hi, h1]
theorem str_under : Tryd.prog.underlying 52 = some (.slice (Tryd.prog.elem 52)) := by kernel_rfl
/-- v reads as these texts, anywhere. -/
def CutS (S : Nat → Prop) (w : World) (v : Value) (ks : List ByteArray) : Prop := CutAt S w 1 v (en enS ks) ks.length
/-- v is a list of just these texts in a block from B on. -/
def Strs (B : Nat) (v : Value) (ps : List ByteArray) (w : World) : Prop := w.ownsRow B 9 1 v ps.length (en enS ps) ∧ B ≤ w.heap.size
section
variable {B : Nat} {v : Value} {ps : List ByteArray} {w w1 : World}
theorem Strs.nil (h : B ≤ w.heap.size) : Strs B (.slice none 0 0) [] w := ⟨World.ownsRow_nil _ _ _ _, h⟩
theorem Strs.grown {row : Option Nat} (h : Strs B v ps w) (hg : w.grownBy w1 row) (hne : v.ownBlock = none ∨ v.ownBlock ≠ row) : Strs B v ps w1 := ⟨h.1.kept hg hne, Nat.le_trans h.2 hg.size⟩
theorem Strs.later (h : Strs B v ps w) (hb : Below w.heap.size w w1) : Strs B v ps w1 := h.grown (row := none) ⟨hb.os, hb.tape, hb.output, hb.size, fun k hk _ => hb.block k hk⟩ (by cases v.ownBlock <;> simp)
theorem Strs.low {B' : Nat} (h : Strs B v ps w) (hB : B' ≤ B) : Strs B' v ps w := by
  obtain ⟨⟨h1, h2⟩, h3⟩ := h
  refine ⟨⟨h1, ?_⟩, by omega⟩
  rcases h2 with h2 | ⟨g, cap, cur, a1, a2, a3⟩
  · exact .inl h2
  · exact .inr ⟨g, cap, cur, a1, by omega, a3⟩
theorem Strs.len (h : Strs B v ps w) : ∃ a c, v = .slice a ps.length c := by
  obtain ⟨⟨_, h2⟩, _⟩ := h
  rcases h2 with ⟨rfl, h2⟩ | ⟨g, cap, cur, rfl, _⟩
  · exact ⟨none, 0, by rw [h2]⟩
  · exact ⟨_, _, rfl⟩
theorem Strs.cut (h : Strs B v ps w) : CutAt (fun _ => True) w 1 v (en enS ps) ps.length := (ownsRow_cut h.1).weak fun _ _ => trivial
theorem strs_kept {A C : World} {row : Option Nat} (h : Strs B v ps A) (hg : A.grownBy C row) (hr : ∀ r, row = some r → ∃ o : Obj, A.heap[r]? = some o ∧ o.isCells = false) : Strs B v ps C := by
  refine h.grown hg ?_
  cases hv : v.ownBlock with
  | none => exact .inl rfl
  | some k =>
    refine .inr fun e => ?_
    obtain ⟨o, ho, hc⟩ := hr k e.symm
    obtain ⟨⟨_, h2⟩, _⟩ := h
    rcases h2 with ⟨rfl, _⟩ | ⟨g, cap, cur, rfl, _, hb, _⟩
    · cases hv
    · obtain rfl : g = k := by simpa [Value.ownBlock] using hv
      rw [hb] at ho
      cases ho
      cases hc
/-- A variable of another type is not the list's block. -/
theorem strs_not {L : Nat} {cs : Array Value} {T : TypeId} {fr : Nat × Nat} (h : Strs B v ps w) (hb : w.heap[L]? = some (.cells cs T fr)) (hT : T ≠ 9) : v.ownBlock ≠ some L := by
  intro e
  obtain ⟨⟨_, h2⟩, _⟩ := h
  rcases h2 with ⟨rfl, _⟩ | ⟨g, cap, cur, rfl, _, hg, _⟩
  · cases e
  · obtain rfl : g = L := by simpa [Value.ownBlock] using e
    rw [hb] at hg
    cases hg
    exact hT rfl
theorem Strs.only {L : Nat} {cs : Array Value} {T : TypeId} {fr : Nat × Nat} (h : Strs B v ps w) (k : Only L w w1) (hb : w.heap[L]? = some (.cells cs T fr)) (hT : T ≠ 9) : Strs B v ps w1 := h.grown k.by_ (.inr (strs_not h hb hT))
end
section
variable {B : Nat} {v : Value} {ks : List ByteArray} {w w1 : World} {S S' : Nat → Prop}
theorem CutS.later (h : CutS S w v ks) (hb : Below w.heap.size w w1) : CutS S w1 v ks := CutAt.later h hb
theorem CutS.any (h : CutS S w v ks) : CutS (fun _ => True) w v ks := CutAt.weak h fun _ _ => trivial
theorem CutS.shape (h : CutS S w v ks) : ∃ a c, v = .slice a ks.length c ∧ ks.length ≤ c := CutAt.shape h
theorem Strs.cutS (h : Strs B v ks w) : CutS (fun g => B ≤ g) w v ks := ownsRow_cut h.1
theorem CutS.kept {row : Option Nat} (h : CutS S w v ks) (hg : w.grownBy w1 row) (hr : ∀ X, row = some X → ¬ S X) : CutS S w1 v ks := CutAt.kept h hg hr
/-- Its texts lie in their cells. -/
theorem CutS.cell (h : CutS S w v ks) {j : Nat} (hj : j < ks.length) : ∃ g o c, v = .slice (some ⟨g, o, none⟩) ks.length c ∧ S g ∧ w.cell? ⟨g, o + j, none⟩ = some (.string ks[j]) := by
  obtain ⟨g, o, c, h1, _, hS, _, h2⟩ := CutAt.pos h (by omega)
  exact ⟨g, o, c, h1, hS, h2 j _ (by rw [enS_at, List.getElem?_eq_getElem hj]; rfl)⟩
theorem cutS_h (h : CutS S w v ks) {k : Nat} (hk : k ≤ ks.length) : ∃ a c, CutS S w (.slice a k c) (ks.take k) ∧ ∀ w, (Instr.slice 52 v none (some (.int .i64 (k : Int))) none).run Tryd.prog w = .ok (.slice a k c) w := by
  obtain ⟨a, c, h1, h2⟩ := cut_h 52 str_under str_elem h (hi := k) hk
  rw [en_take enS_len] at h1
  refine ⟨a, c, ?_, h2⟩
  show CutAt _ _ _ _ _ _
  rwa [show (ks.take k).length = k by rw [List.length_take]; omega]
theorem cutS_l (h : CutS S w v ks) {k : Nat} (hk : k ≤ ks.length) : ∃ a c, CutS S w (.slice a (ks.length - k) c) (ks.drop k) ∧ ∀ w, (Instr.slice 52 v (some (.int .i64 (k : Int))) none none).run Tryd.prog w = .ok (.slice a (ks.length - k) c) w := by
  obtain ⟨a, c, h1, h2⟩ := cut_l 52 str_under str_elem h (lo := k) hk
  rw [en_drop enS_len] at h1
  refine ⟨a, c, ?_, h2⟩
  show CutAt _ _ _ _ _ _
  rwa [show (ks.drop k).length = ks.length - k by rw [List.length_drop]]
theorem strs_low {n : Nat} (h : Strs n v ks w) : ∀ k, v.ownBlock = some k → n ≤ k := ownsRow_low h.1
end
/-- A list that has just been laid. -/
theorem cutS_new {w : World} {cs : Array Value} {ks : List ByteArray} (hc : cs.toList = en enS ks) {n : Nat} (hn : n = ks.length) : CutS (fun g => w.heap.size ≤ g) (w.alloc (.cells cs 9)) (.slice (some ⟨w.heap.size, 0, none⟩) n n) ks := by
  subst hn
  refine ⟨_, _, rfl, Nat.le_refl _, by rw [en_len enS_len], .inr ⟨_, 0, rfl, Nat.le_refl _, by simp, fun j u hu => ?_⟩⟩
  rw [Nat.zero_add]
  refine cell_in (heap_alloc_last w _) ?_
  rw [← hc] at hu
  rwa [Array.getElem?_toList] at hu
theorem cutS_lit {W : World} {g : Nat} {k : ByteArray} (h : W.heap[g]? = some (.cells #[.string k] 9 (0, 0))) : CutS (fun _ => True) W (.slice (some ⟨g, 0, none⟩) 1 1) [k] :=
  ⟨_, 1, rfl, Nat.le_refl _, rfl, .inr ⟨g, 0, rfl, trivial, (Array.getElem?_eq_some_iff.1 h).1, fun j u hu => by
    rw [Nat.zero_add]
    refine cell_in h ?_
    simpa [en, enS] using hu⟩⟩
/-- 'append(own, list..)': the operation. -/
theorem strs_wp {o : Oper} {a : Act} {K : Act → World → Prop} {Q : Exit → Act → World → Prop} {w : World} (s x : Operand)
    (ho : o.op = .call { callee := .builtin .append, args := #[s, x], argTypes := #[52, 52] })
    {B : Nat} {v vr : Value} {ps rs : List ByteArray} (hs : a.eval s = v) (hb : Strs B v ps w) (hx : a.eval x = vr) {S : Nat → Prop} (hc : CutS S w vr rs) (hlen : ps.length + rs.length ≤ 1000000000000)
    (h : ∀ v' w', Strs B v' (ps ++ rs) w' → w.grownBy w' v.ownBlock → K (a.put o.dst v') w') : o.wp Tryd.prog a w K Q := by
  obtain ⟨i, hi, hz, h1, h2⟩ := info_parts str_info
  obtain ⟨v', w', r1, r2, r3⟩ := run_append_cut (P := Tryd.prog) (w := w) B 52 o.type 9 i (.string ⟨#[]⟩) 16 Tryd.underlying52 hi hz h1 h2 rfl (by decide) hb.1 hc (en_one enS_one _)
    (by unfold maxLen; omega) (by omega) hb.2
  unfold Oper.wp execOp
  simp only [ho, resolve, invoke, builtin, Sem.run_bind, Sem.run_pure, Result.andThen_ok, List.map_toArray, List.map_cons, List.map_nil, hs, hx, r1]
  exact h v' w' ⟨by rw [List.length_append, en_app]; exact r2, Nat.le_trans hb.2 r3.size⟩ r3
theorem strs_list {ops : Array Oper} {rest : List Oper} {o : Oper} {a : Act} {Q : Exit → Act → World → Prop} {w : World} (hgd : o.guard = none) (s x : Operand)
    (ho : o.op = .call { callee := .builtin .append, args := #[s, x], argTypes := #[52, 52] })
    {B : Nat} {v vr : Value} {ps rs : List ByteArray} (hs : a.eval s = v) (hb : Strs B v ps w) (hx : a.eval x = vr) {S : Nat → Prop} (hc : CutS S w vr rs) (hlen : ps.length + rs.length ≤ 1000000000000)
    (h : ∀ v' w', Strs B v' (ps ++ rs) w' → w.grownBy w' v.ownBlock → wpList Tryd.prog ops Q rest (a.put o.dst v') w') : wpList Tryd.prog ops Q (o :: rest) a w :=
  wpList_plain hgd fun _ hK => strs_wp s x ho hs hb hx hc hlen fun v' w' h1 h2 => hK _ _ (h v' w' h1 h2)
theorem strs_if {ops : Array Oper} {rest : List Oper} {o : Oper} {a : Act} {Q : Exit → Act → World → Prop} {w : World} (hwd : Region.wanted o (yielded ops a.tmps) = true) (s x : Operand)
    (ho : o.op = .call { callee := .builtin .append, args := #[s, x], argTypes := #[52, 52] })
    {B : Nat} {v vr : Value} {ps rs : List ByteArray} (hs : a.eval s = v) (hb : Strs B v ps w) (hx : a.eval x = vr) {S : Nat → Prop} (hc : CutS S w vr rs) (hlen : ps.length + rs.length ≤ 1000000000000)
    (h : ∀ v' w', Strs B v' (ps ++ rs) w' → w.grownBy w' v.ownBlock → wpList Tryd.prog ops Q rest (a.put o.dst v') w') : wpList Tryd.prog ops Q (o :: rest) a w :=
  wpList_step fun _ hK => by
    rw [if_pos hwd]
    exact strs_wp s x ho hs hb hx hc hlen fun v' w' h1 h2 => hK _ _ (h v' w' h1 h2)
/-- 'make([]string, 0, n)'. -/
theorem strs_make {ops : Array Oper} {rest : List Oper} {o : Oper} {a : Act} {Q : Exit → Act → World → Prop} {w : World} (hgd : o.guard = none) (l c : Operand) (hop : o.op = .makeSlice 52 l c)
    {B : Nat} (kl kc : IntKind) (C : Int) (n : Nat) (hl : a.eval l = .int kl 0) (hc : a.eval c = .int kc C) (hC : C = (n : Int)) (hn : n ≤ 10000000) (hB : B ≤ w.heap.size)
    (h : ∀ w', Strs B (.slice (some ⟨w.heap.size, 0, none⟩) 0 n) [] w' → Below w.heap.size w w' → wpList Tryd.prog ops Q rest (a.put o.dst (.slice (some ⟨w.heap.size, 0, none⟩) 0 n)) w') : wpList Tryd.prog ops Q (o :: rest) a w := by
  obtain ⟨i, hi, hz, h1, h2⟩ := info_parts str_info
  refine wpList_make_own w hgd l c 52 hop B 9 i (.string ⟨#[]⟩) 1 Tryd.underlying52 hi hz h1 kl kc C n hl hc hC (by rw [h2]; omega) (by unfold maxLen; omega) hB fun w' r1 r2 => ?_
  have hb : Below w.heap.size w w' := (Below.refl _ _).grown r2 (Nat.le_refl _) (fun k hk => by cases hk)
  exact h _ ⟨r1, Nat.le_trans hB hb.size⟩ hb
end Go.Proofs.YtgdlkaoadlipmaaDoor
