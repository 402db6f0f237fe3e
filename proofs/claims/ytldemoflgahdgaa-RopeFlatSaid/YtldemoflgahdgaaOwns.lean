/- Lists of numbers that a call owns and may write into. (Ints, but that no part of the block is frozen) -/
import Derived.Test.YtldemoflgahdgaaKeptIn
namespace Go.Proofs.Ytldemoflgahdgaa
open Go.RowKit Go.Shelf
set_option maxRecDepth 1000000
set_option linter.unusedSimpArgs false

/-- v is a list of just these numbers, in a block from B on. -/
def Owns (B : Nat) (v : Value) (l : List Int) (w : World) : Prop := w.ownsRow B 3 1 v l.length (iv l) ∧ B ≤ w.heap.size

section
variable {B : Nat} {v : Value} {l : List Int} {w w1 : World}
theorem Owns.nil (h : B ≤ w.heap.size) : Owns B (.slice none 0 0) [] w := ⟨World.ownsRow_nil _ _ _ _, h⟩
theorem Owns.lit (hB : B ≤ w.heap.size) (cs : Array Value) (l : List Int) (hc : cs.toList = iv l) (hl4 : l.length ≤ 4096) :
    Owns B (.slice (some ⟨w.heap.size, 0, none⟩) l.length l.length) l (w.alloc (.cells cs 3)) := by
  have hl : l.length ≤ maxLen := by unfold maxLen; omega
  have hs : cs.size = l.length * 1 := by rw [← Array.length_toList, hc, iv_len]; omega
  refine ⟨?_, by simp; omega⟩
  have := (World.ownsRow_lit (base := B) (e := 3) (size := 1) w cs l.length hB hl hs)
  rwa [hc] at this
theorem Owns.low {B' : Nat} (h : Owns B v l w) (hB : B' ≤ B) : Owns B' v l w := by
  obtain ⟨⟨h1, h2⟩, h3⟩ := h
  refine ⟨⟨h1, ?_⟩, by omega⟩
  rcases h2 with h2 | ⟨g, cap, cur, a1, a2, a3⟩
  · exact .inl h2
  · exact .inr ⟨g, cap, cur, a1, by omega, a3⟩
/-- What keeps all blocks but one that is none of numbers keeps the list. -/
theorem Owns.grown {row : Option Nat} (h : Owns B v l w) (hg : w.grownBy w1 row) (hne : v.ownBlock = none ∨ v.ownBlock ≠ row) : Owns B v l w1 := ⟨h.1.kept hg hne, Nat.le_trans h.2 hg.size⟩
theorem Owns.later (h : Owns B v l w) (hb : Below w.heap.size w w1) : Owns B v l w1 := h.grown (row := none) ⟨hb.os, hb.tape, hb.output, hb.size, fun k hk _ => hb.block k hk⟩ (by cases v.ownBlock <;> simp)
theorem Owns.alloc (h : Owns B v l w) (o : Obj) : Owns B v l (w.alloc o) := h.later ((Below.refl _ _).alloc (Nat.le_refl _) o)
theorem Owns.reads (h : Owns B v l w) (hl : ∀ n ∈ l, -9223372036854775808 ≤ n ∧ n ≤ 9223372036854775807) : IntsAt w v l := by
  obtain ⟨hr, _⟩ := h
  have hr' := hr
  obtain ⟨h1, h2⟩ := hr
  rcases h2 with ⟨rfl, h2⟩ | ⟨g, cap, cur, a1, a2, a3, a4, a5, a6, a7⟩
  · obtain rfl := List.eq_nil_of_length_eq_zero h2
    exact ⟨none, 0, 0, 0, rfl, fun h => absurd h (by simp), fun j h => absurd h (by simp), fun n h => absurd h (by simp), by simp⟩
  · subst a1
    refine ⟨some ⟨g, 0, none⟩, cap, g, 0, rfl, fun _ => rfl, fun j hj => ?_, hl, by omega⟩
    have e : (⟨g, 0, none⟩ : Addr).add j = ⟨g, 0 + j, none⟩ := by unfold Addr.add; split <;> simp_all
    have := hr'.cells rfl j (.int .i64 (l.getD j 0)) (by rw [iv, List.getElem?_map, List.getElem?_eq_getElem hj]; simp [List.getD_eq_getElem?_getD, List.getElem?_eq_getElem hj])
    rw [e] at this
    exact this
theorem Owns.len (h : Owns B v l w) : ∃ a c, v = .slice a l.length c := by
  obtain ⟨⟨_, h2⟩, _⟩ := h
  rcases h2 with ⟨rfl, h2⟩ | ⟨g, cap, cur, rfl, _⟩
  · exact ⟨none, 0, by rw [h2]⟩
  · exact ⟨_, _, rfl⟩
end

theorem owns_cap {B : Nat} {v : Value} {l : List Int} {w : World} (h : Owns B v l w) : ∃ a c, v = .slice a l.length c ∧ l.length ≤ c := by
  obtain ⟨⟨_, h2⟩, _⟩ := h
  rcases h2 with ⟨rfl, h2⟩ | ⟨g, cap, cur, rfl, _, _, h3, _⟩
  · exact ⟨none, 0, by rw [h2], by omega⟩
  · exact ⟨_, _, rfl, h3⟩

/-- 'append(out, x, y ..)', 'append(out, xs...)' of numbers that lie behind an address: the operation. -/
theorem owns_wp {o : Oper} {a : Act} {K : Act → World → Prop} {Q : Exit → Act → World → Prop} {w : World} (s x : Operand)
    (ho : o.op = .call { callee := .builtin .append, args := #[s, x], argTypes := #[31, 31] })
    {B : Nat} {v : Value} {l : List Int} (hs : a.eval s = v) (hb : Owns B v l w) (r : List Int) (ad : Addr) (c : Nat) (hx : a.eval x = .slice (some ad) r.length c)
    (hc : ∀ j u, (iv r)[j]? = some u → w.cell? (ad.add j) = some u) (hlen : l.length + r.length ≤ 17592186044416)
    (h : ∀ v' w', Owns B v' (l ++ r) w' → w.grownBy w' v.ownBlock → K (a.put o.dst v') w') : o.wp Try.prog a w K Q := by
  obtain ⟨i, hi, hz, h1, h2⟩ := info_parts int_info
  obtain ⟨v', w', hr, g1, g2, _⟩ := run_append_own (P := Try.prog) w B 31 o.type 3 i (.int .i64 0) 1 8 Try.underlying31 hi hz h1 h2 rfl (by decide) v l.length (iv l) hb.1 ad r.length c (iv r) (by rw [iv_len]; omega) hc iv_one
    (by unfold maxLen; omega) (by omega) hb.2
  unfold Oper.wp execOp
  simp only [ho, resolve, invoke, builtin, Sem.run_bind, Sem.run_pure, Result.andThen_ok, List.map_toArray, List.map_cons, List.map_nil, hs, hx, hr]
  exact h v' w' ⟨by rw [List.length_append, iv_app]; exact g1, Nat.le_trans hb.2 g2.size⟩ g2
/-- .. in a list of operations. -/
theorem owns_append {ops : Array Oper} {rest : List Oper} {o : Oper} {a : Act} {Q : Exit → Act → World → Prop} {w : World} (hgd : o.guard = none) (s x : Operand)
    (ho : o.op = .call { callee := .builtin .append, args := #[s, x], argTypes := #[31, 31] })
    {B : Nat} {v : Value} {l : List Int} (hs : a.eval s = v) (hb : Owns B v l w) (r : List Int) (ad : Addr) (c : Nat) (hx : a.eval x = .slice (some ad) r.length c)
    (hc : ∀ j u, (iv r)[j]? = some u → w.cell? (ad.add j) = some u) (hlen : l.length + r.length ≤ 17592186044416)
    (h : ∀ v' w', Owns B v' (l ++ r) w' → w.grownBy w' v.ownBlock → wpList Try.prog ops Q rest (a.put o.dst v') w') : wpList Try.prog ops Q (o :: rest) a w :=
  wpList_plain hgd fun _ hK => owns_wp s x ho hs hb r ad c hx hc hlen fun v' w' h1 h2 => hK _ _ (h v' w' h1 h2)
/-- .. of numbers that the statement itself has just laid. -/
theorem owns_append_new {ops : Array Oper} {rest : List Oper} {o : Oper} {a : Act} {Q : Exit → Act → World → Prop} {w : World} (hgd : o.guard = none) (s x : Operand)
    (ho : o.op = .call { callee := .builtin .append, args := #[s, x], argTypes := #[31, 31] })
    {B : Nat} {v : Value} {l : List Int} (hs : a.eval s = v) (hb : Owns B v l w) (r : List Int) (cs : Array Value) (hcs : cs = (iv r).toArray) (n c : Nat) (hn : n = r.length) (hx : a.eval x = .slice (some ⟨w.heap.size, 0, none⟩) n c)
    (hlen : l.length + r.length ≤ 17592186044416)
    (h : ∀ v' w', Owns B v' (l ++ r) w' → w.grownBy w' v.ownBlock → wpList Try.prog ops Q rest (a.put o.dst v') w') : wpList Try.prog ops Q (o :: rest) a (w.alloc (.cells cs 3)) := by
  subst hn
  exact owns_append hgd s x ho hs (hb.alloc _) r ⟨w.heap.size, 0, none⟩ c hx (new_ints w r cs hcs) hlen fun v' w' h1 h2 => h v' w' h1 ⟨h2.os, h2.tape, h2.output, by have := h2.size; simp at this; omega, fun k hk hne => (h2.block k (by simp; omega) hne).trans (Lib.alloc_old w _ k hk)⟩
/-- 'append(list, numbers..)', where a guard is met. -/
theorem owns_append_if {ops : Array Oper} {rest : List Oper} {o : Oper} {a : Act} {Q : Exit → Act → World → Prop} {w : World} (hwd : Region.wanted o (yielded ops a.tmps) = true) (s x : Operand)
    (ho : o.op = .call { callee := .builtin .append, args := #[s, x], argTypes := #[31, 31] })
    {B : Nat} {v : Value} {l : List Int} (hs : a.eval s = v) (hb : Owns B v l w) (r : List Int) (ad : Addr) (c : Nat) (hx : a.eval x = .slice (some ad) r.length c)
    (hc : ∀ j u, (iv r)[j]? = some u → w.cell? (ad.add j) = some u) (hlen : l.length + r.length ≤ 17592186044416)
    (h : ∀ v' w', Owns B v' (l ++ r) w' → w.grownBy w' v.ownBlock → wpList Try.prog ops Q rest (a.put o.dst v') w') : wpList Try.prog ops Q (o :: rest) a w :=
  wpList_step fun _ hK => by
    rw [if_pos hwd]
    exact owns_wp s x ho hs hb r ad c hx hc hlen fun v' w' h1 h2 => hK _ _ (h v' w' h1 h2)
theorem owns_append_new_if {ops : Array Oper} {rest : List Oper} {o : Oper} {a : Act} {Q : Exit → Act → World → Prop} {w : World} (hwd : Region.wanted o (yielded ops a.tmps) = true) (s x : Operand)
    (ho : o.op = .call { callee := .builtin .append, args := #[s, x], argTypes := #[31, 31] })
    {B : Nat} {v : Value} {l : List Int} (hs : a.eval s = v) (hb : Owns B v l w) (r : List Int) (cs : Array Value) (hcs : cs = (iv r).toArray) (n c : Nat) (hn : n = r.length) (hx : a.eval x = .slice (some ⟨w.heap.size, 0, none⟩) n c)
    (hlen : l.length + r.length ≤ 17592186044416)
    (h : ∀ v' w', Owns B v' (l ++ r) w' → w.grownBy w' v.ownBlock → wpList Try.prog ops Q rest (a.put o.dst v') w') : wpList Try.prog ops Q (o :: rest) a (w.alloc (.cells cs 3)) := by
  subst hn
  exact owns_append_if hwd s x ho hs (hb.alloc _) r ⟨w.heap.size, 0, none⟩ c hx (new_ints w r cs hcs) hlen fun v' w' h1 h2 => h v' w' h1 ⟨h2.os, h2.tape, h2.output, by have := h2.size; simp at this; omega, fun k hk hne => (h2.block k (by simp; omega) hne).trans (Lib.alloc_old w _ k hk)⟩
theorem owns_kept {A B : World} {n : Nat} {v : Value} {l : List Int} {row : Option Nat} (h : Owns n v l A) (hg : A.grownBy B row) (hr : ∀ r, row = some r → ∃ o : Obj, A.heap[r]? = some o ∧ o.isCells = false) : Owns n v l B := by
  refine h.grown hg ?_
  cases hv : v.ownBlock with
  | none => exact .inl rfl
  | some k =>
    refine .inr fun e => ?_
    obtain ⟨o, ho, hc⟩ := hr k e.symm
    obtain ⟨⟨_, h2⟩, _⟩ := h
    rcases h2 with ⟨rfl, _⟩ | ⟨g, cap, cur, rfl, _, hb, _⟩
    · cases hv
    · obtain rfl : g = k := by simpa [Value.ownBlock] using hv
      rw [hb] at ho
      cases ho
      cases hc
theorem owns_not {w : World} {n L : Nat} {v : Value} {l : List Int} {cs : Array Value} {T : TypeId} {fr : Nat × Nat} (h : Owns n v l w) (hb : w.heap[L]? = some (.cells cs T fr)) (hT : T ≠ 3) : some L ≠ v.ownBlock := by
  intro e
  obtain ⟨⟨_, h2⟩, _⟩ := h
  rcases h2 with ⟨rfl, _⟩ | ⟨g, cap, cur, rfl, _, hg, _⟩
  · cases e
  · obtain rfl : L = g := by simpa [Value.ownBlock] using e
    rw [hb] at hg
    cases hg
    exact hT rfl
theorem owns_cells {w : World} {n : Nat} {v : Value} {l : List Int} (h : Owns n v l w) : ∀ (j : Nat) (o : Obj), v.ownBlock = some j → w.heap[j]? = some o → o.isCells = true := by
  intro j o hj ho
  obtain ⟨⟨_, h2⟩, _⟩ := h
  rcases h2 with ⟨rfl, _⟩ | ⟨g, cap, cur, rfl, _, hg, _⟩
  · cases hj
  · obtain rfl : g = j := by simpa [Value.ownBlock] using hj
    rw [hg] at ho
    cases ho
    rfl
theorem owns_low {w : World} {n : Nat} {v : Value} {l : List Int} (h : Owns n v l w) : ∀ k, some k = v.ownBlock → n ≤ k := by
  intro k hk
  obtain ⟨⟨_, h2⟩, _⟩ := h
  rcases h2 with ⟨rfl, _⟩ | ⟨g, cap, cur, rfl, hB, _⟩
  · cases hk
  · obtain rfl : k = g := by simpa [Value.ownBlock] using hk
    exact hB
/-- 'make([]int, 0, n)'. -/
theorem owns_make {ops : Array Oper} {rest : List Oper} {o : Oper} {a : Act} {Q : Exit → Act → World → Prop} {w : World} (hgd : o.guard = none) (l c : Operand) (hop : o.op = .makeSlice 31 l c)
    {B : Nat} (kl kc : IntKind) (C : Int) (n : Nat) (hl : a.eval l = .int kl 0) (hc : a.eval c = .int kc C) (hC : C = (n : Int)) (hn : n ≤ 10000000) (hB : B ≤ w.heap.size)
    (h : ∀ w', Owns B (.slice (some ⟨w.heap.size, 0, none⟩) 0 n) [] w' → Below w.heap.size w w' → wpList Try.prog ops Q rest (a.put o.dst (.slice (some ⟨w.heap.size, 0, none⟩) 0 n)) w') : wpList Try.prog ops Q (o :: rest) a w := by
  obtain ⟨i, hi, hz, h1, h2⟩ := info_parts int_info
  refine wpList_make_own w hgd l c 31 hop B 3 i (.int .i64 0) 1 Try.underlying31 hi hz h1 kl kc C n hl hc hC (by rw [h2]; omega) (by unfold maxLen; omega) hB fun w' r1 r2 => ?_
  have hb : Below w.heap.size w w' := (Below.refl _ _).grown r2 (Nat.le_refl _) (fun k hk => by cases hk)
  exact h _ ⟨r1, Nat.le_trans hB hb.size⟩ hb
theorem Owns.ints {B : Nat} {v : Value} {l : List Int} {w : World} (h : Owns B v l w) : Ints B v l w := ⟨World.ownsRowF_of h.1, h.2⟩
theorem Owns.pos {B : Nat} {v : Value} {l : List Int} {w : World} (h : Owns B v l w) (h0 : 0 < l.length) : ∃ (g c : Nat) (cs : Array Value), v = .slice (some ⟨g, 0, none⟩) l.length c ∧ l.length ≤ c ∧ B ≤ g ∧ w.heap[g]? = some (.cells cs 3 (0, 0)) ∧ l.length ≤ cs.size ∧ ∀ j, j < l.length → cs[j]? = some (.int .i64 (l.getD j 0)) := by
  obtain ⟨⟨_, h2⟩, _⟩ := h
  rcases h2 with ⟨rfl, h3⟩ | ⟨g, cap, cur, rfl, hB, hg, h5, h6, h7, h8⟩
  · omega
  · refine ⟨g, cap, cur, rfl, h5, hB, hg, by omega, fun j hj => ?_⟩
    have hu : (iv l)[j]? = some (.int .i64 (l.getD j 0)) := by
      rw [iv, List.getElem?_map, List.getElem?_eq_getElem hj, List.getD_eq_getElem?_getD, List.getElem?_eq_getElem hj]; rfl
    rw [← h8, List.getElem?_take_of_lt (by omega), Array.getElem?_toList] at hu
    exact hu
/-- One of its numbers is written. -/
theorem Owns.put {B : Nat} {v : Value} {l : List Int} {w w' : World} (h : Owns B v l w) {g c j : Nat} {cs : Array Value} {x : Int} (hv : v = .slice (some ⟨g, 0, none⟩) l.length c) (hg : w.heap[g]? = some (.cells cs 3 (0, 0)))
    (h' : w'.heap[g]? = some (.cells (cs.setIfInBounds j (.int .i64 x)) 3 (0, 0))) (k : Only g w w') : Owns B v (l.set j x) w' := by
  obtain ⟨⟨h1, h2⟩, h3⟩ := h
  subst hv
  rcases h2 with ⟨e, _⟩ | ⟨g', cap, cur, e, hB, hg', h5, h6, h7, h8⟩
  · cases e
  · simp only [Value.slice.injEq, Option.some.injEq, Addr.mk.injEq, and_true, true_and] at e
    obtain ⟨rfl, rfl⟩ := e
    rw [hg] at hg'
    simp only [Option.some.injEq, Obj.cells.injEq, and_true] at hg'
    subst hg'
    refine ⟨⟨by rw [iv_len]; omega, .inr ⟨g, c, _, by rw [List.length_set], hB, h', by rw [List.length_set]; exact h5, h6, by simpa using h7, ?_⟩⟩, Nat.le_trans h3 k.by_.size⟩
    rw [List.length_set, Array.toList_setIfInBounds, List.take_set, h8]
    simp [iv]
end Go.Proofs.Ytldemoflgahdgaa
