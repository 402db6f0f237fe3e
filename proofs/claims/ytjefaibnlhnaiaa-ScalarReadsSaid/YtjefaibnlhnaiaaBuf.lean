/- Lists of bytes that a call owns: what they hold, how they grow, and what text they are. -/
import Derived.Test.YtjefaibnlhnaiaaChecked
import Derived.WalkKit
import Derived.Test.YtjefaibnlhnaiaaBelow
import Derived.WalkSpells
import Derived.Outline
import Derived.Lib.Hide
import Derived.Lib.FrozenHead2
import Derived.Deep.Draws
import Derived.Laws.OwnMore
namespace Go.Proofs.Ytjefaibnlhnaiaa
open Go.RowKit

/-- The cells of these bytes. -/
def bv (l : List UInt8) : List Value := l.map fun c => .int .u8 (c.toNat : Int)
theorem bv_len (l : List UInt8) : (bv l).length = l.length := by simp [bv]
theorem bv_app (l r : List UInt8) : bv (l ++ r) = bv l ++ bv r := by simp [bv]
theorem bv_get {l : List UInt8} {j : Nat} {u : Value} (h : (bv l)[j]? = some u) : ∃ c, l[j]? = some c ∧ u = .int .u8 (c.toNat : Int) := by
  unfold bv at h
  rw [List.getElem?_map, Option.map_eq_some_iff] at h
  obtain ⟨c, h1, h2⟩ := h
  exact ⟨c, h1, h2.symm⟩
theorem bv_one {l : List UInt8} : ∀ u ∈ bv l, u.oneCell' = true := by
  intro u hu
  unfold bv at hu
  rw [List.mem_map] at hu
  obtain ⟨c, _, rfl⟩ := hu
  rfl

/-- v is a list of just these bytes, in a block from B on. -/
def Buf (B : Nat) (v : Value) (l : List UInt8) (w : World) : Prop := w.ownsRowF B 5 1 v l.length (bv l) ∧ B ≤ w.heap.size

section
variable {B : Nat} {v : Value} {l : List UInt8} {w w1 : World}
theorem Buf.nil (h : B ≤ w.heap.size) : Buf B (.slice none 0 0) [] w := ⟨World.ownsRowF_nil _ _ _ _, h⟩
theorem Buf.lit (hB : B ≤ w.heap.size) (cs : Array Value) (l : List UInt8) (hc : cs.toList = bv l) (hl4 : l.length ≤ 4096) :
    Buf B (.slice (some ⟨w.heap.size, 0, none⟩) l.length l.length) l (w.alloc (.cells cs 5)) := by
  have hl : l.length ≤ maxLen := by unfold maxLen; omega
  have hs : cs.size = l.length * 1 := by rw [← Array.length_toList, hc, bv_len]; omega
  refine ⟨?_, by simp; omega⟩
  have := World.ownsRowF_of (World.ownsRow_lit (base := B) (e := 5) (size := 1) w cs l.length hB hl hs)
  rwa [hc] at this
theorem Below.newly (w : World) (o : Obj) : Below w.heap.size w (w.alloc o) := (Below.refl _ _).alloc (Nat.le_refl _) o
/-- One call behind the other. -/
theorem Below.after {w w1 w2 : World} (h1 : Below w.heap.size w w1) (h2 : Below w1.heap.size w1 w2) : Below w.heap.size w w2 := h1.trans (h2.mono h1.size)
theorem Buf.drewN (h : Buf B v l w) (n : Nat) : Buf B v l (w.drewN n) := h
theorem Buf.alloc (h : Buf B v l w) (o : Obj) : Buf B v l (w.alloc o) := ⟨h.1.alloc o, by have := h.2; simp; omega⟩
theorem Buf.drew (h : Buf B v l w) : Buf B v l w.drew := h
theorem Buf.low {B' : Nat} (h : Buf B v l w) (hB : B' ≤ B) : Buf B' v l w := by
  obtain ⟨⟨h1, h2⟩, h3⟩ := h
  refine ⟨⟨h1, ?_⟩, by omega⟩
  rcases h2 with h2 | ⟨g, cap, cur, fz, a1, a2, a3⟩
  · exact .inl h2
  · exact .inr ⟨g, cap, cur, fz, a1, by omega, a3⟩
theorem Buf.later (h : Buf B v l w) (hb : Below w.heap.size w w1) : Buf B v l w1 := by
  obtain ⟨⟨h1, h2⟩, h3⟩ := h
  refine ⟨⟨h1, ?_⟩, Nat.le_trans h3 hb.size⟩
  rcases h2 with h2 | ⟨g, cap, cur, fz, a1, a2, a3, a4⟩
  · exact .inl h2
  · have hg : g < w.heap.size := by
      rcases Nat.lt_or_ge g w.heap.size with hlt | hge
      · exact hlt
      · rw [Array.getElem?_eq_none hge] at a3; cases a3
    exact .inr ⟨g, cap, cur, fz, a1, a2, (hb.block g hg).trans a3, a4⟩
/-- What a list yields that is appended: an address, and the bytes behind it. -/
theorem Buf.src (h : Buf B v l w) (hn : l ≠ []) : ∃ ad c, v = .slice (some ad) l.length c ∧ ∀ j u, (bv l)[j]? = some u → w.cell? (ad.add j) = some u := by
  obtain ⟨hr, _⟩ := h
  have hr' := hr
  obtain ⟨h1, h2⟩ := hr
  rcases h2 with ⟨_, h2⟩ | ⟨g, cap, cur, fz, a1, a2, a3, a4⟩
  · exact absurd (List.eq_nil_of_length_eq_zero h2) hn
  · subst a1
    exact ⟨⟨g, 0, none⟩, cap, rfl, hr'.cells rfl⟩
/-- The text of a list of bytes. -/
theorem Buf.str (h : Buf B v l w) : (convert 41 9 v).run Try.prog w = .ok (.string ⟨l.toArray⟩) w := by
  by_cases hn : l = []
  · subst hn
    obtain ⟨⟨h1, h2⟩, _⟩ := h
    rcases h2 with ⟨rfl, _⟩ | ⟨g, cap, cur, fz, rfl, a2, a3, a4⟩
    · rw [run_convert_bytes_string w 41 9 5 none 0 0 Try.underlying41 Try.underlying5 Try.underlying9]
      rfl
    · exact run_convert_bytes_back (P := Try.prog) w 41 9 5 ⟨g, 0, none⟩ cap [] Try.underlying41 Try.underlying5 Try.underlying9 (fun j hj => by simp at hj)
  · obtain ⟨ad, c, rfl, hc⟩ := h.src hn
    refine run_convert_bytes_back (P := Try.prog) w 41 9 5 ad c l Try.underlying41 Try.underlying5 Try.underlying9 (fun j hj => hc j _ ?_)
    simp [bv, hj]
theorem Buf.len (h : Buf B v l w) : ∃ a c, v = .slice a l.length c := by
  obtain ⟨⟨_, h2⟩, _⟩ := h
  rcases h2 with ⟨rfl, h2⟩ | ⟨g, cap, cur, fz, rfl, _⟩
  · exact ⟨none, 0, by rw [h2]⟩
  · exact ⟨_, _, rfl⟩
end

theorem u8_info : (Try.prog.info? 5).map (fun i => (i.zero, i.size, i.bytes)) = some (some (.int .u8 0), 1, 1) := by kernel_rfl

/-- 'append(out, x, y ..)', 'append(out, xs...)' of bytes that lie behind an address: the operation. -/
theorem buf_wp {o : Oper} {a : Act} {K : Act → World → Prop} {Q : Exit → Act → World → Prop} {w : World} (s x : Operand)
    (ho : o.op = .call { callee := .builtin .append, args := #[s, x], argTypes := #[41, 41] })
    {B : Nat} {v : Value} {l : List UInt8} (hs : a.eval s = v) (hb : Buf B v l w) (r : List UInt8) (ad : Addr) (c : Nat) (hx : a.eval x = .slice (some ad) r.length c)
    (hc : ∀ j u, (bv r)[j]? = some u → w.cell? (ad.add j) = some u) (hlen : l.length + r.length ≤ 140737488355328)
    (h : ∀ v' w', Buf B v' (l ++ r) w' → Below B w w' → K (a.put o.dst v') w') : o.wp Try.prog a w K Q := by
  obtain ⟨i, hi, hz, h1, h2⟩ := info_parts u8_info
  obtain ⟨v', w', hr, g1, g2, _⟩ := run_append_ownF (P := Try.prog) w B 41 o.type 5 i (.int .u8 0) 1 1 Try.underlying41 hi hz h1 h2 rfl (by decide) v l.length (bv l) hb.1 ad r.length c (bv r) (by rw [bv_len]; omega) hc bv_one
    (by unfold maxLen; omega) (by omega) hb.2
  unfold Oper.wp execOp
  simp only [ho, resolve, invoke, builtin, Sem.run_bind, Sem.run_pure, Result.andThen_ok, List.map_toArray, List.map_cons, List.map_nil, hs, hx, hr]
  refine h v' w' ⟨by rw [List.length_append, bv_app]; exact g1, Nat.le_trans hb.2 g2.size⟩ ?_
  exact (Below.refl _ _).grown g2 hb.2 (fun k hk => (hb.1.lt k hk).1)
/-- .. in a list of operations. -/
theorem buf_append {ops : Array Oper} {rest : List Oper} {o : Oper} {a : Act} {Q : Exit → Act → World → Prop} {w : World} (hgd : o.guard = none) (s x : Operand)
    (ho : o.op = .call { callee := .builtin .append, args := #[s, x], argTypes := #[41, 41] })
    {B : Nat} {v : Value} {l : List UInt8} (hs : a.eval s = v) (hb : Buf B v l w) (r : List UInt8) (ad : Addr) (c : Nat) (hx : a.eval x = .slice (some ad) r.length c)
    (hc : ∀ j u, (bv r)[j]? = some u → w.cell? (ad.add j) = some u) (hlen : l.length + r.length ≤ 140737488355328)
    (h : ∀ v' w', Buf B v' (l ++ r) w' → Below B w w' → wpList Try.prog ops Q rest (a.put o.dst v') w') : wpList Try.prog ops Q (o :: rest) a w :=
  wpList_plain hgd fun _ hK => buf_wp s x ho hs hb r ad c hx hc hlen fun v' w' h1 h2 => hK _ _ (h v' w' h1 h2)
/-- .. in a region that draws its order. -/
theorem buf_step {ops : Array Oper} {o : Oper} {a : Act} {K : Act → World → Prop} {Q : Exit → Act → World → Prop} {E : Prop} {w : World} (hgd : o.guard = none) (s x : Operand)
    (ho : o.op = .call { callee := .builtin .append, args := #[s, x], argTypes := #[41, 41] })
    {B : Nat} {v : Value} {l : List UInt8} (hs : a.eval s = v) (hb : Buf B v l w) (r : List UInt8) (ad : Addr) (c : Nat) (hx : a.eval x = .slice (some ad) r.length c)
    (hc : ∀ j u, (bv r)[j]? = some u → w.cell? (ad.add j) = some u) (hlen : l.length + r.length ≤ 140737488355328)
    (h : ∀ v' w', Buf B v' (l ++ r) w' → Below B w w' → K (a.put o.dst v') w') : if Region.wanted o (yielded ops a.tmps) = true then Oper.wp Try.prog o a w K Q else E := by
  have hw : Region.wanted o (yielded ops a.tmps) = true := by simp [Region.wanted, hgd]
  rw [if_pos hw]
  exact buf_wp s x ho hs hb r ad c hx hc hlen h
/-- The cells of bytes that a statement has just laid. -/
theorem new_cells (w : World) (r : List UInt8) (cs : Array Value) (hcs : cs = (bv r).toArray) : ∀ j u, (bv r)[j]? = some u → (w.alloc (.cells cs 5)).cell? ((⟨w.heap.size, 0, none⟩ : Addr).add j) = some u := by
  subst hcs
  intro j u hu
  have e : (⟨w.heap.size, 0, none⟩ : Addr).add j = ⟨w.heap.size, j, none⟩ := by
    simp [Addr.add]
    intro hj; exact hj.symm
  rw [e]
  simpa using hu
/-- .. of bytes that the statement itself has just laid. -/
theorem buf_append_new {ops : Array Oper} {rest : List Oper} {o : Oper} {a : Act} {Q : Exit → Act → World → Prop} {w : World} (hgd : o.guard = none) (s x : Operand)
    (ho : o.op = .call { callee := .builtin .append, args := #[s, x], argTypes := #[41, 41] })
    {B : Nat} {v : Value} {l : List UInt8} (hs : a.eval s = v) (hb : Buf B v l w) (r : List UInt8) (cs : Array Value) (hcs : cs = (bv r).toArray) (n c : Nat) (hn : n = r.length) (hx : a.eval x = .slice (some ⟨w.heap.size, 0, none⟩) n c)
    (hlen : l.length + r.length ≤ 140737488355328)
    (h : ∀ v' w', Buf B v' (l ++ r) w' → Below B w w' → wpList Try.prog ops Q rest (a.put o.dst v') w') : wpList Try.prog ops Q (o :: rest) a (w.alloc (.cells cs 5)) := by
  subst hn
  exact buf_append hgd s x ho hs (hb.alloc _) r ⟨w.heap.size, 0, none⟩ c hx (new_cells w r cs hcs) hlen fun v' w' h1 h2 => h v' w' h1 (((Below.refl _ _).alloc hb.2 _).trans h2)
end Go.Proofs.Ytjefaibnlhnaiaa
