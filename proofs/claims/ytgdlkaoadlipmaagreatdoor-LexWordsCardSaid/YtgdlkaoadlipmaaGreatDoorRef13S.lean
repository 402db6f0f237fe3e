/- Lists of tokens that are read; the document's Same of lex. (written by tools/gen13/ref13s.py) -/
import Derived.Test.YtgdlkaoadlipmaaGreatDoorRef13A
import Derived.Test.YtgdlkaoadlipmaaGreatDoorPkC
import Derived.Deep.QuietTactic
import Derived.BigQuiet
namespace Go.Proofs.YtgdlkaoadlipmaaGreatDoor
open Go.RowKit
set_option maxRecDepth 1000000
set_option linter.unusedSimpArgs false

/-- v is a list that reads as these tokens: nil, or at the head of a block of the type T. -/
def TkL (T : TypeId) (w : World) (v : Value) (l : List Tok) : Prop := ∃ (a : Option Addr) (c : Nat), v = .slice a l.length c ∧ l.length ≤ maxLen ∧
  (0 < l.length → ∃ (g : Nat) (cs : Array Value) (fr : Nat × Nat), a = some ⟨g, 0, none⟩ ∧ w.heap[g]? = some (.cells cs T fr) ∧ ∀ j (h : j < l.length) (k : Nat) (u : Value), (tokC l[j])[k]? = some u → cs[j * 5 + k]? = some u)
section
variable {T : TypeId} {w w' : World} {v : Value} {l : List Tok}
theorem TkL.kept {row : Option Nat} (h : TkL T w v l) (hg : w.grownBy w' row) (hT : ∀ X, row = some X → ∀ cs fr, w.heap[X]? ≠ some (.cells cs T fr)) : TkL T w' v l := by
  obtain ⟨a, c, h1, h2, h3⟩ := h
  refine ⟨a, c, h1, h2, fun h0 => ?_⟩
  obtain ⟨g, cs, fr, h4, h5, h6⟩ := h3 h0
  exact ⟨g, cs, fr, h4, (hg.block g (Array.getElem?_eq_some_iff.1 h5).1 (fun e => hT g e.symm cs fr h5)).trans h5, h6⟩
theorem TkL.later (h : TkL T w v l) (hb : Below w.heap.size w w') : TkL T w' v l := h.kept (row := none) ⟨hb.os, hb.tape, hb.output, hb.size, fun k hk _ => hb.block k hk⟩ (fun X e => by cases e)
theorem TkL.but {X : Nat} {cs : Array Value} {U : TypeId} {fr : Nat × Nat} (h : TkL T w v l) (k : Only X w w') (hX : w.heap[X]? = some (.cells cs U fr)) (hT : U ≠ T) : TkL T w' v l := h.kept k.by_ (fun Y e cs' fr' h' => by
  cases e
  rw [hX] at h'
  simp only [Option.some.injEq, Obj.cells.injEq] at h'
  exact hT h'.2.1)
theorem TkL.shape (h : TkL T w v l) : ∃ a c, v = .slice a l.length c ∧ l.length ≤ maxLen := by
  obtain ⟨a, c, h1, h2, _⟩ := h
  exact ⟨a, c, h1, h2⟩
theorem TkL.row (h : TkL T w v l) {j : Nat} (hj : j < l.length) : ∃ g c, v = .slice (some ⟨g, 0, none⟩) l.length c ∧ w.rangeAt g (j * 5) (tokC l[j]).toList := by
  obtain ⟨a, c, h1, _, h3⟩ := h
  obtain ⟨g, cs, fr, rfl, h5, h6⟩ := h3 (by omega)
  refine ⟨g, c, h1, fun k u hu => cell_in h5 (h6 j hj k u ?_)⟩
  rw [← Array.getElem?_toList]
  exact hu
theorem TkL.nil (T : TypeId) (w : World) : TkL T w (.slice none 0 0) [] := ⟨none, 0, rfl, Nat.zero_le _, fun h => absurd h (by simp)⟩
theorem RowsOwn.tkl {B : Nat} (h : RowsOwn B T 5 v (l.map tokC) w) : TkL T w v l := by
  have hr := h
  obtain ⟨⟨_, h2⟩, _, _⟩ := h
  rw [List.length_map] at h2
  rcases h2 with ⟨rfl, h0⟩ | ⟨g, cap, cur, fz, rfl, _, hg, _, h3, h4, _, _⟩
  · exact ⟨none, 0, by rw [h0], by omega, fun h => by omega⟩
  · refine ⟨_, cap, rfl, by omega, fun _ => ⟨g, cur, fz, rfl, hg, fun j hj k u hu => ?_⟩⟩
    have h := hr.read rfl (i := j) (c := tokC l[j]) (by rw [List.getElem?_map, List.getElem?_eq_getElem hj]; rfl) k u (by rw [Array.getElem?_toList]; exact hu)
    rw [cell_of_row w g _ cur T fz hg] at h
    exact h
end
theorem neq_tok (c : Tok) (w : World) : (binOp .neq 25 (.agg (tokC c)) (.agg (tokC c))).run Tryz.prog w = .ok (.bool false) w := by
  have hu : Tryz.prog.underlying 25 = some (.struct (Tryz.prog.fieldsOf 25)) := by kernel_rfl
  have hp : Tryz.prog.stoodInHeld 25 = false := by kernel_rfl
  rw [run_neq_struct, run_equalIn_agg w 9999 _ _ _ hu hp]
  simp [Program.fieldsOf, Tryz.underlying25, Op.eqFields, tokC, go_sem]
end Go.Proofs.YtgdlkaoadlipmaaGreatDoor
