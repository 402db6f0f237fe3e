/- Lists of numbers that are read alone: nil, or at the head of a block of numbers. -/
import Derived.Test.YtldemoflgahdgaaSpot
import Derived.Test.YtldemoflgahdgaaOwns
import Derived.Laws.AppendOwnNone
namespace Go.Proofs.Ytldemoflgahdgaa
open Go.RowKit
set_option maxRecDepth 1000000
set_option linter.unusedSimpArgs false

/-- v is a list that reads as these numbers: nil, if there is none, or in a block of the kind S. -/
def Lst (S : Nat → Prop) (W : World) (v : Value) (l : List Int) : Prop := ∃ (a : Option Addr) (c : Nat), v = .slice a l.length c ∧ l.length ≤ c ∧
  ((a = none ∧ l = [] ∧ c = 0) ∨ ∃ (g : Nat) (cs : Array Value) (fr : Nat × Nat), a = some ⟨g, 0, none⟩ ∧ S g ∧ W.heap[g]? = some (.cells cs 3 fr) ∧ ∀ j, j < l.length → cs[j]? = some (.int .i64 (l.getD j 0)))
section
variable {S S' : Nat → Prop} {W W' : World} {v : Value} {l : List Int}
theorem Lst.weak (h : Lst S W v l) (hs : ∀ g, S g → S' g) : Lst S' W v l := by
  obtain ⟨a, c, h1, h2, h3⟩ := h
  refine ⟨a, c, h1, h2, h3.imp_right ?_⟩
  rintro ⟨g, cs, fr, e, hS, hg, hc⟩
  exact ⟨g, cs, fr, e, hs g hS, hg, hc⟩
theorem Lst.kept {row : Option Nat} (h : Lst S W v l) (hg : W.grownBy W' row) (hr : ∀ X, row = some X → ¬ S X) : Lst S W' v l := by
  obtain ⟨a, c, h1, h2, h3⟩ := h
  refine ⟨a, c, h1, h2, h3.imp_right ?_⟩
  rintro ⟨g, cs, fr, e, hS, hgg, hc⟩
  exact ⟨g, cs, fr, e, hS, (hg.block g (Array.getElem?_eq_some_iff.1 hgg).1 (fun e => hr g e.symm hS)).trans hgg, hc⟩
theorem Lst.keptT {row : Option Nat} (h : Lst S W v l) (hg : W.grownBy W' row) (hT : ∀ X, row = some X → ∃ o : Obj, W.heap[X]? = some o ∧ ∀ cs fr, o ≠ .cells cs 3 fr) : Lst S W' v l := by
  obtain ⟨a, c, h1, h2, h3⟩ := h
  refine ⟨a, c, h1, h2, h3.imp_right ?_⟩
  rintro ⟨g, cs, fr, e, hS, hgg, hc⟩
  refine ⟨g, cs, fr, e, hS, (hg.block g (Array.getElem?_eq_some_iff.1 hgg).1 (fun e => ?_)).trans hgg, hc⟩
  obtain ⟨o, ho, hne⟩ := hT g e.symm
  rw [hgg] at ho
  exact hne _ _ (Option.some.inj ho).symm
theorem Lst.later (h : Lst S W v l) (hb : Below W.heap.size W W') : Lst S W' v l :=
  h.kept (row := none) ⟨hb.os, hb.tape, hb.output, hb.size, fun k hk _ => hb.block k hk⟩ (fun _ e => by cases e)
theorem Lst.but {X : Nat} {cs : Array Value} {T : TypeId} {fr : Nat × Nat} (h : Lst S W v l) (k : Only X W W') (hX : W.heap[X]? = some (.cells cs T fr)) (h1 : T ≠ 3) : Lst S W' v l :=
  h.keptT k.by_ fun Y e => by
    cases e
    exact ⟨_, hX, fun cs fr e => (by simp only [Obj.cells.injEq] at e; exact h1 e.2.1)⟩
theorem Lst.spot (h : Lst S W v l) : SpotAt W v (fun i => l.getD i 0) l.length := by
  obtain ⟨a, c, h1, h2, h3⟩ := h
  rcases h3 with ⟨rfl, rfl, rfl⟩ | ⟨g, cs, fr, rfl, hS, hg, hc⟩
  · exact ⟨none, 0, 0, 0, h1, h2, fun h => absurd h (by simp), fun j hj => absurd hj (by simp)⟩
  · exact ⟨_, g, 0, c, h1, h2, fun _ => rfl, fun j hj => by rw [Nat.zero_add]; exact cell_in hg (hc j hj)⟩
theorem Lst.shape (h : Lst S W v l) : ∃ a c, v = .slice a l.length c ∧ l.length ≤ c := by
  obtain ⟨a, c, h1, h2, _⟩ := h
  exact ⟨a, c, h1, h2⟩
theorem Lst.cell (h : Lst S W v l) {j : Nat} (hj : j < l.length) : ∃ g c, v = .slice (some ⟨g, 0, none⟩) l.length c ∧ W.cell? ⟨g, j, none⟩ = some (.int .i64 (l.getD j 0)) := by
  obtain ⟨a, c, rfl, h2, h3⟩ := h
  rcases h3 with ⟨rfl, rfl, rfl⟩ | ⟨g, cs, fr, rfl, hS, hg, hc⟩
  · simp at hj
  · exact ⟨g, c, rfl, cell_in hg (hc j hj)⟩
end
theorem Ints.lst {B : Nat} {v : Value} {l : List Int} {w : World} (h : Ints B v l w) : Lst (fun g => B ≤ g) w v l := by
  obtain ⟨h1, _⟩ := h
  obtain ⟨_, h2⟩ := h1
  rcases h2 with ⟨rfl, h3⟩ | ⟨g, cap, cur, fz, rfl, hB, hg, h5, h6, h7, h8⟩
  · obtain rfl := List.eq_nil_of_length_eq_zero h3
    exact ⟨none, 0, rfl, Nat.le_refl _, .inl ⟨rfl, rfl, rfl⟩⟩
  · refine ⟨_, cap, rfl, h6, .inr ⟨g, cur, fz, rfl, hB, hg, fun j hj => ?_⟩⟩
    have hu := iv_at l j hj
    rw [← h8.2, List.getElem?_take_of_lt (by omega), Array.getElem?_toList] at hu
    exact hu
theorem Owns.lst {B : Nat} {v : Value} {l : List Int} {w : World} (h : Owns B v l w) : Lst (fun g => B ≤ g) w v l := h.ints.lst
/-- A list that the statement lays itself. -/
theorem lst_lit {w : World} {n : Nat} (cs : Array Value) (l : List Int) (hc : cs.toList = iv l) (hn : n = l.length) : Lst (fun _ => True) (w.alloc (.cells cs 3)) (.slice (some ⟨w.heap.size, 0, none⟩) n n) l := by
  subst hn
  refine ⟨_, _, rfl, Nat.le_refl _, .inr ⟨_, cs, (0, 0), rfl, trivial, heap_alloc_last _ _, fun j hj => ?_⟩⟩
  rw [← Array.getElem?_toList, hc]
  exact iv_at l j hj
/-- 'l[:k]'. -/
theorem lst_take {S : Nat → Prop} {W : World} {a : Option Addr} {c : Nat} {l : List Int} (h : Lst S W (.slice a l.length c) l) (k : Nat) (hk : k ≤ l.length) :
    Lst S W (.slice a k c) (l.take k) ∧ ∀ w, (Instr.slice 31 (.slice a l.length c) none (some (.int .i64 (k : Int))) none).run Try.prog w = .ok (.slice a k c) w := by
  obtain ⟨a', c', e, h2, h3⟩ := h
  simp only [Value.slice.injEq, true_and] at e
  obtain ⟨rfl, rfl⟩ := e
  have hlen : (l.take k).length = k := by rw [List.length_take]; omega
  refine ⟨⟨a, c, by rw [hlen], by omega, ?_⟩, fun w => ?_⟩
  · rcases h3 with ⟨rfl, rfl, rfl⟩ | ⟨g, cs, fr, rfl, hS, hg, hc⟩
    · exact .inl ⟨rfl, by simp, rfl⟩
    · refine .inr ⟨g, cs, fr, rfl, hS, hg, fun j hj => ?_⟩
      rw [hlen] at hj
      rw [hc j (by omega), List.getD_eq_getElem?_getD, List.getD_eq_getElem?_getD, List.getElem?_take_of_lt hj]
  · rcases h3 with ⟨rfl, rfl, rfl⟩ | ⟨g, cs, fr, rfl, hS, hg, hc⟩
    · obtain rfl : k = 0 := by simpa using hk
      have hu : Try.prog.underlying 31 = some (.slice (Try.prog.elem 31)) := by kernel_rfl
      have hs : (sizeOf (Try.prog.elem 31)).run Try.prog w = .ok 1 w := by
        have e : Try.prog.elem 31 = 3 := by kernel_rfl
        rw [e]
        obtain ⟨i, hi, _, h1, _⟩ := info_parts int_info
        simp [sizeOf, typeInfo, hi, h1]
      rw [run_slice_h w _ _ _ _ hu _ _ (by simp) (by simp), hs]
      rfl
    · exact ints_cut _ _ _ _ (by omega) w
/-- 'append(out, list..)' where out is just laid and empty. -/
theorem lst_copy {ops : Array Oper} {rest : List Oper} {o : Oper} {a : Act} {Q : Exit → Act → World → Prop} {w : World} {S : Nat → Prop} (hgd : o.guard = none) (s x : Operand)
    (ho : o.op = .call { callee := .builtin .append, args := #[s, x], argTypes := #[31, 31] }) {v : Value} {l : List Int} (hs : a.eval s = .slice (some ⟨w.heap.size, 0, none⟩) 0 0) (hx : a.eval x = v) (hl : Lst S w v l) (hlen : l.length ≤ 1000000)
    (h : ∀ v' w', Owns w.heap.size v' l w' → Below w.heap.size w w' → wpList Try.prog ops Q rest (a.put o.dst v') w') : wpList Try.prog ops Q (o :: rest) a (w.alloc (.cells #[] 3)) := by
  have hI0 : Owns w.heap.size (.slice (some ⟨w.heap.size, 0, none⟩) 0 0) [] (w.alloc (.cells #[] 3)) := Owns.lit (Nat.le_refl _) #[] [] rfl (by simp)
  have hl' := hl.later (Below.newly' w (.cells #[] 3))
  obtain ⟨ap, c, rfl, h2, h3⟩ := hl'
  rcases h3 with ⟨rfl, rfl, rfl⟩ | ⟨g, cs, fr, rfl, hS, hg, hc⟩
  · obtain ⟨i, hi, hz, h1, h2⟩ := info_parts int_info
    refine wpList_append_own_none hgd s x 31 ho w.heap.size 3 i 1 Try.underlying31 hi _ 0 [] hs (World.ownsRow_lit (base := w.heap.size) (e := 3) (size := 1) w #[] 0 (Nat.le_refl _) (by unfold maxLen; omega) rfl) hx ?_
    exact h _ _ hI0 (Below.newly' _ _)
  · refine owns_append hgd s x ho hs hI0 l ⟨g, 0, none⟩ c hx (fun j u hu => ?_) (by simp; omega) fun v' w' h1 hg' => h v' w' (by simpa using h1) ((Below.newly' w _).grown hg' (by simp) (fun k e => by cases e; exact Nat.le_refl _))
    have hj := (List.getElem?_eq_some_iff.1 hu).1
    rw [iv_len] at hj
    rw [iv_at _ _ hj] at hu
    rw [add_at, Nat.zero_add, ← hu]
    exact cell_in hg (hc j hj)
theorem Lst.old {S : Nat → Prop} {W : World} {v : Value} {l : List Int} (h : Lst S W v l) : Lst (fun g => S g ∧ g < W.heap.size) W v l := by
  obtain ⟨a, c, h1, h2, h3⟩ := h
  refine ⟨a, c, h1, h2, h3.imp_right ?_⟩
  rintro ⟨g, cs, fr, e, hS, hgg, hc⟩
  exact ⟨g, cs, fr, e, ⟨hS, (Array.getElem?_eq_some_iff.1 hgg).1⟩, hgg, hc⟩
theorem Lst.keptE {S : Nat → Prop} {W W' : World} {v : Value} {l : List Int} {row : Option Nat} {e : TypeId} (h : Lst S W v l) (hg : W.grownBy W' row) (h1 : e ≠ 3) (hT : ∀ X, row = some X → ∃ cs fr, W.heap[X]? = some (.cells cs e fr)) : Lst S W' v l :=
  h.keptT hg fun X ex => by
    obtain ⟨cs, fr, hX⟩ := hT X ex
    exact ⟨_, hX, fun cs fr ee => (by simp only [Obj.cells.injEq] at ee; exact h1 ee.2.1)⟩
theorem Lst.one {S : Nat → Prop} {W : World} {v : Value} {l : List Int} (h : Lst S W v l) : (#[v] : Array Value).all (·.oneCell') = true := by
  obtain ⟨a, c, rfl, _⟩ := h.shape
  simp [Value.oneCell']
end Go.Proofs.Ytldemoflgahdgaa
