/- Lists of numbers: what they read as, and lists that a call owns. -/
import Derived.Test.YtldemoflgahdgaaChecked
import Derived.WalkKit
import Derived.WalkSpells
import Derived.Lib.Hide
import Derived.Lib.FrozenHead2
import Derived.Lib.OthersKept
import Derived.Deep.Draws
import Derived.Laws.OwnMore
namespace Go.Proofs.Ytldemoflgahdgaa
open Go.RowKit

/-- v is a list that reads as these numbers -/
def IntsAt (w : World) (v : Value) (zs : List Int) : Prop :=
  ∃ (a : Option Addr) (cap b o : Nat), v = .slice a zs.length cap ∧ (0 < zs.length → a = some ⟨b, o, none⟩) ∧ (∀ j, j < zs.length → w.cell? ⟨b, o + j, none⟩ = some (.int .i64 (zs.getD j 0))) ∧
    (∀ n ∈ zs, -9223372036854775808 ≤ n ∧ n ≤ 9223372036854775807) ∧ zs.length ≤ maxLen

theorem IntsAt.later {w w' : World} {v : Value} {zs : List Int} (h : IntsAt w v zs) (hb : Below w.heap.size w w') : IntsAt w' v zs := by
  obtain ⟨a, cap, b, o, h1, h2, h3, h4⟩ := h
  exact ⟨a, cap, b, o, h1, h2, fun j hj => (hb.cell (p := ⟨b, o + j, none⟩) (World.block_lt_of_cell? w _ (h3 j hj))).trans (h3 j hj), h4⟩

/-- The cells of these numbers. -/
def iv (l : List Int) : List Value := l.map fun n => .int .i64 n
theorem iv_len (l : List Int) : (iv l).length = l.length := by simp [iv]
theorem iv_app (l r : List Int) : iv (l ++ r) = iv l ++ iv r := by simp [iv]
theorem iv_one {l : List Int} : ∀ u ∈ iv l, u.oneCell' = true := by
  intro u hu
  unfold iv at hu
  rw [List.mem_map] at hu
  obtain ⟨c, _, rfl⟩ := hu
  rfl

/-- v is a list of just these numbers, in a block from B on. -/
def Ints (B : Nat) (v : Value) (l : List Int) (w : World) : Prop := w.ownsRowF B 3 1 v l.length (iv l) ∧ B ≤ w.heap.size

section
variable {B : Nat} {v : Value} {l : List Int} {w w1 : World}
theorem Ints.nil (h : B ≤ w.heap.size) : Ints B (.slice none 0 0) [] w := ⟨World.ownsRowF_nil _ _ _ _, h⟩
theorem Ints.lit (hB : B ≤ w.heap.size) (cs : Array Value) (l : List Int) (hc : cs.toList = iv l) (hl4 : l.length ≤ 4096) :
    Ints B (.slice (some ⟨w.heap.size, 0, none⟩) l.length l.length) l (w.alloc (.cells cs 3)) := by
  have hl : l.length ≤ maxLen := by unfold maxLen; omega
  have hs : cs.size = l.length * 1 := by rw [← Array.length_toList, hc, iv_len]; omega
  refine ⟨?_, by simp; omega⟩
  have := World.ownsRowF_of (World.ownsRow_lit (base := B) (e := 3) (size := 1) w cs l.length hB hl hs)
  rwa [hc] at this
theorem Ints.low {B' : Nat} (h : Ints B v l w) (hB : B' ≤ B) : Ints B' v l w := by
  obtain ⟨⟨h1, h2⟩, h3⟩ := h
  refine ⟨⟨h1, ?_⟩, by omega⟩
  rcases h2 with h2 | ⟨g, cap, cur, fz, a1, a2, a3⟩
  · exact .inl h2
  · exact .inr ⟨g, cap, cur, fz, a1, by omega, a3⟩
/-- What keeps all blocks but one that is none of numbers keeps the list. -/
theorem Ints.grown {row : Option Nat} (h : Ints B v l w) (hg : w.grownBy w1 row) (hne : v.ownBlock = none ∨ v.ownBlock ≠ row) : Ints B v l w1 := ⟨h.1.kept hg hne, Nat.le_trans h.2 hg.size⟩
theorem Ints.later (h : Ints B v l w) (hb : Below w.heap.size w w1) : Ints B v l w1 := h.grown (row := none) ⟨hb.os, hb.tape, hb.output, hb.size, fun k hk _ => hb.block k hk⟩ (by cases v.ownBlock <;> simp)
theorem Ints.alloc (h : Ints B v l w) (o : Obj) : Ints B v l (w.alloc o) := h.later ((Below.refl _ _).alloc (Nat.le_refl _) o)
theorem Ints.others {b : Nat} (h : Ints B v l w) (hk : Lib.OthersKept 5 (some b) w w1) (hs : w.heap.size ≤ w1.heap.size) (hb : ∃ cs T fr, w.heap[b]? = some (.cells cs T fr) ∧ T ≠ 3) : Ints B v l w1 := by
  obtain ⟨⟨h1, h2⟩, h3⟩ := h
  refine ⟨⟨h1, ?_⟩, by omega⟩
  rcases h2 with h2 | ⟨g, cap, cur, fz, a1, a2, a3, a4⟩
  · exact .inl h2
  · refine .inr ⟨g, cap, cur, fz, a1, a2, hk g _ a3 ?_ ?_, a4⟩
    · intro e
      obtain ⟨cs, T, fr, hT, hne⟩ := hb
      obtain rfl := Option.some.inj e
      rw [a3] at hT
      simp only [Option.some.injEq, Obj.cells.injEq] at hT
      exact hne hT.2.1.symm
    · intro c fz' e
      simp only [Obj.cells.injEq] at e
      exact absurd e.2.1 (by decide)
theorem Ints.reads (h : Ints B v l w) (hl : ∀ n ∈ l, -9223372036854775808 ≤ n ∧ n ≤ 9223372036854775807) : IntsAt w v l := by
  obtain ⟨hr, _⟩ := h
  have hr' := hr
  obtain ⟨h1, h2⟩ := hr
  rcases h2 with ⟨rfl, h2⟩ | ⟨g, cap, cur, fz, a1, a2, a3, a4, a5, a6, a7⟩
  · obtain rfl := List.eq_nil_of_length_eq_zero h2
    exact ⟨none, 0, 0, 0, rfl, fun h => absurd h (by simp), fun j h => absurd h (by simp), fun n h => absurd h (by simp), by simp⟩
  · subst a1
    refine ⟨some ⟨g, 0, none⟩, cap, g, 0, rfl, fun _ => rfl, fun j hj => ?_, hl, by omega⟩
    have e : (⟨g, 0, none⟩ : Addr).add j = ⟨g, 0 + j, none⟩ := by unfold Addr.add; split <;> simp_all
    have := hr'.cells rfl j (.int .i64 (l.getD j 0)) (by rw [iv, List.getElem?_map, List.getElem?_eq_getElem hj]; simp [List.getD_eq_getElem?_getD, List.getElem?_eq_getElem hj])
    rw [e] at this
    exact this
/-- What a list yields that is appended: an address, and the cells behind it. -/
theorem Ints.src (h : Ints B v l w) (hn : l ≠ []) : ∃ ad c, v = .slice (some ad) l.length c ∧ ∀ j u, (iv l)[j]? = some u → w.cell? (ad.add j) = some u := by
  obtain ⟨hr, _⟩ := h
  have hr' := hr
  obtain ⟨h1, h2⟩ := hr
  rcases h2 with ⟨_, h2⟩ | ⟨g, cap, cur, fz, a1, a2, a3, a4⟩
  · exact absurd (List.eq_nil_of_length_eq_zero h2) hn
  · subst a1
    exact ⟨⟨g, 0, none⟩, cap, rfl, hr'.cells rfl⟩
theorem Ints.len (h : Ints B v l w) : ∃ a c, v = .slice a l.length c := by
  obtain ⟨⟨_, h2⟩, _⟩ := h
  rcases h2 with ⟨rfl, h2⟩ | ⟨g, cap, cur, fz, rfl, _⟩
  · exact ⟨none, 0, by rw [h2]⟩
  · exact ⟨_, _, rfl⟩
end

theorem ints_cap {B : Nat} {v : Value} {l : List Int} {w : World} (h : Ints B v l w) : ∃ a c, v = .slice a l.length c ∧ l.length ≤ c := by
  obtain ⟨⟨_, h2⟩, _⟩ := h
  rcases h2 with ⟨rfl, h2⟩ | ⟨g, cap, cur, fz, rfl, _, _, _, h3, _⟩
  · exact ⟨none, 0, by rw [h2], by omega⟩
  · exact ⟨_, _, rfl, h3⟩

theorem int_info : (Try.prog.info? 3).map (fun i => (i.zero, i.size, i.bytes)) = some (some (.int .i64 0), 1, 8) := by kernel_rfl

/-- 'append(out, x, y ..)', 'append(out, xs...)' of numbers that lie behind an address: the operation. -/
theorem ints_wp {o : Oper} {a : Act} {K : Act → World → Prop} {Q : Exit → Act → World → Prop} {w : World} (s x : Operand)
    (ho : o.op = .call { callee := .builtin .append, args := #[s, x], argTypes := #[31, 31] })
    {B : Nat} {v : Value} {l : List Int} (hs : a.eval s = v) (hb : Ints B v l w) (r : List Int) (ad : Addr) (c : Nat) (hx : a.eval x = .slice (some ad) r.length c)
    (hc : ∀ j u, (iv r)[j]? = some u → w.cell? (ad.add j) = some u) (hlen : l.length + r.length ≤ 17592186044416)
    (h : ∀ v' w', Ints B v' (l ++ r) w' → w.grownBy w' v.ownBlock → K (a.put o.dst v') w') : o.wp Try.prog a w K Q := by
  obtain ⟨i, hi, hz, h1, h2⟩ := info_parts int_info
  obtain ⟨v', w', hr, g1, g2, _⟩ := run_append_ownF (P := Try.prog) w B 31 o.type 3 i (.int .i64 0) 1 8 Try.underlying31 hi hz h1 h2 rfl (by decide) v l.length (iv l) hb.1 ad r.length c (iv r) (by rw [iv_len]; omega) hc iv_one
    (by unfold maxLen; omega) (by omega) hb.2
  unfold Oper.wp execOp
  simp only [ho, resolve, invoke, builtin, Sem.run_bind, Sem.run_pure, Result.andThen_ok, List.map_toArray, List.map_cons, List.map_nil, hs, hx, hr]
  exact h v' w' ⟨by rw [List.length_append, iv_app]; exact g1, Nat.le_trans hb.2 g2.size⟩ g2
/-- .. in a list of operations. -/
theorem ints_append {ops : Array Oper} {rest : List Oper} {o : Oper} {a : Act} {Q : Exit → Act → World → Prop} {w : World} (hgd : o.guard = none) (s x : Operand)
    (ho : o.op = .call { callee := .builtin .append, args := #[s, x], argTypes := #[31, 31] })
    {B : Nat} {v : Value} {l : List Int} (hs : a.eval s = v) (hb : Ints B v l w) (r : List Int) (ad : Addr) (c : Nat) (hx : a.eval x = .slice (some ad) r.length c)
    (hc : ∀ j u, (iv r)[j]? = some u → w.cell? (ad.add j) = some u) (hlen : l.length + r.length ≤ 17592186044416)
    (h : ∀ v' w', Ints B v' (l ++ r) w' → w.grownBy w' v.ownBlock → wpList Try.prog ops Q rest (a.put o.dst v') w') : wpList Try.prog ops Q (o :: rest) a w :=
  wpList_plain hgd fun _ hK => ints_wp s x ho hs hb r ad c hx hc hlen fun v' w' h1 h2 => hK _ _ (h v' w' h1 h2)
theorem new_ints (w : World) (r : List Int) (cs : Array Value) (hcs : cs = (iv r).toArray) : ∀ j u, (iv r)[j]? = some u → (w.alloc (.cells cs 3)).cell? ((⟨w.heap.size, 0, none⟩ : Addr).add j) = some u := by
  subst hcs
  intro j u hu
  have e : (⟨w.heap.size, 0, none⟩ : Addr).add j = ⟨w.heap.size, j, none⟩ := by
    simp [Addr.add]
    intro hj; exact hj.symm
  rw [e]
  simpa using hu
/-- .. of numbers that the statement itself has just laid. -/
theorem ints_append_new {ops : Array Oper} {rest : List Oper} {o : Oper} {a : Act} {Q : Exit → Act → World → Prop} {w : World} (hgd : o.guard = none) (s x : Operand)
    (ho : o.op = .call { callee := .builtin .append, args := #[s, x], argTypes := #[31, 31] })
    {B : Nat} {v : Value} {l : List Int} (hs : a.eval s = v) (hb : Ints B v l w) (r : List Int) (cs : Array Value) (hcs : cs = (iv r).toArray) (n c : Nat) (hn : n = r.length) (hx : a.eval x = .slice (some ⟨w.heap.size, 0, none⟩) n c)
    (hlen : l.length + r.length ≤ 17592186044416)
    (h : ∀ v' w', Ints B v' (l ++ r) w' → w.grownBy w' v.ownBlock → wpList Try.prog ops Q rest (a.put o.dst v') w') : wpList Try.prog ops Q (o :: rest) a (w.alloc (.cells cs 3)) := by
  subst hn
  exact ints_append hgd s x ho hs (hb.alloc _) r ⟨w.heap.size, 0, none⟩ c hx (new_ints w r cs hcs) hlen fun v' w' h1 h2 => h v' w' h1 ⟨h2.os, h2.tape, h2.output, by have := h2.size; simp at this; omega, fun k hk hne => (h2.block k (by simp; omega) hne).trans (Lib.alloc_old w _ k hk)⟩
/-- 'append(list, numbers..)', where a guard is met. -/
theorem ints_append_if {ops : Array Oper} {rest : List Oper} {o : Oper} {a : Act} {Q : Exit → Act → World → Prop} {w : World} (hwd : Region.wanted o (yielded ops a.tmps) = true) (s x : Operand)
    (ho : o.op = .call { callee := .builtin .append, args := #[s, x], argTypes := #[31, 31] })
    {B : Nat} {v : Value} {l : List Int} (hs : a.eval s = v) (hb : Ints B v l w) (r : List Int) (ad : Addr) (c : Nat) (hx : a.eval x = .slice (some ad) r.length c)
    (hc : ∀ j u, (iv r)[j]? = some u → w.cell? (ad.add j) = some u) (hlen : l.length + r.length ≤ 17592186044416)
    (h : ∀ v' w', Ints B v' (l ++ r) w' → w.grownBy w' v.ownBlock → wpList Try.prog ops Q rest (a.put o.dst v') w') : wpList Try.prog ops Q (o :: rest) a w :=
  wpList_step fun _ hK => by
    rw [if_pos hwd]
    exact ints_wp s x ho hs hb r ad c hx hc hlen fun v' w' h1 h2 => hK _ _ (h v' w' h1 h2)
theorem ints_append_new_if {ops : Array Oper} {rest : List Oper} {o : Oper} {a : Act} {Q : Exit → Act → World → Prop} {w : World} (hwd : Region.wanted o (yielded ops a.tmps) = true) (s x : Operand)
    (ho : o.op = .call { callee := .builtin .append, args := #[s, x], argTypes := #[31, 31] })
    {B : Nat} {v : Value} {l : List Int} (hs : a.eval s = v) (hb : Ints B v l w) (r : List Int) (cs : Array Value) (hcs : cs = (iv r).toArray) (n c : Nat) (hn : n = r.length) (hx : a.eval x = .slice (some ⟨w.heap.size, 0, none⟩) n c)
    (hlen : l.length + r.length ≤ 17592186044416)
    (h : ∀ v' w', Ints B v' (l ++ r) w' → w.grownBy w' v.ownBlock → wpList Try.prog ops Q rest (a.put o.dst v') w') : wpList Try.prog ops Q (o :: rest) a (w.alloc (.cells cs 3)) := by
  subst hn
  exact ints_append_if hwd s x ho hs (hb.alloc _) r ⟨w.heap.size, 0, none⟩ c hx (new_ints w r cs hcs) hlen fun v' w' h1 h2 => h v' w' h1 ⟨h2.os, h2.tape, h2.output, by have := h2.size; simp at this; omega, fun k hk hne => (h2.block k (by simp; omega) hne).trans (Lib.alloc_old w _ k hk)⟩
end Go.Proofs.Ytldemoflgahdgaa
