/- The contracts of the document's own canonical quotes, and of names. -/
import Derived.Test.YtgdlkaoadlipmaaGreatDoorRef02Unquote
namespace Go.Proofs.YtgdlkaoadlipmaaGreatDoor
open Go.RowKit

theorem unqS_len (l : List UInt8) (k : Nat) (o : List UInt8) : (unqS l k o).1.length ≤ o.length + l.length := by
  fun_induction unqS l k o
  all_goals (simp only [List.length_append, List.length_cons, List.length_nil] at *; try omega)
theorem unquoteS_len (l : List UInt8) : (unquoteS l).1.length ≤ l.length := by
  unfold unquoteS
  split
  · simp
  · split
    · simp
    · have := unqS_len ‹_› 1 []
      simp only [List.length_cons, List.length_nil] at *
      omega
/-- A byte that may stand there in a name. -/
def okS (j : Nat) (c : UInt8) : Bool := letS c || (!(j == 0) && digS c)
/-- That, of the byte's number. -/
def OkP (j : Nat) (x : Int) : Prop := (97 ≤ x ∧ x ≤ 122 ∨ 65 ≤ x ∧ x ≤ 90 ∨ x = 95) ∨ (j ≠ 0 ∧ 48 ≤ x ∧ x ≤ 57)
theorem okS_iff (j : Nat) (c : UInt8) : okS j c = true ↔ OkP j (c.toNat : Int) := by
  unfold okS letS digS OkP
  simp only [Bool.or_eq_true, Bool.and_eq_true, Bool.not_eq_true', beq_eq_false_iff_ne, ne_eq, decide_eq_true_eq]
  omega
theorem name_all (l : List UInt8) : nameS l = (decide (0 < l.length) && decide (∀ j (h : j < l.length), okS j l[j] = true)) := by
  cases l with
  | nil => rfl
  | cons c r =>
    have h1 : decide (0 < (c :: r).length) = true := decide_eq_true (by simp)
    rw [h1, Bool.true_and]
    show (letS c && r.all fun c => letS c || digS c) = _
    rw [Bool.eq_iff_iff, decide_eq_true_eq, Bool.and_eq_true, List.all_eq_true]
    constructor
    · rintro ⟨h2, h3⟩ j hj
      cases j with
      | zero => simp [okS, h2]
      | succ j =>
        have hj' : j < r.length := by simpa using hj
        have := h3 r[j] (List.getElem_mem _)
        simpa [okS] using this
    · intro h2
      refine ⟨?_, fun x hx => ?_⟩
      · have h4 : okS 0 c = true := h2 0 (by simp)
        simpa [okS] using h4
      · obtain ⟨j, hj, rfl⟩ := List.getElem_of_mem hx
        have h4 : okS (j + 1) r[j] = true := h2 (j + 1) (by simpa using hj)
        simpa [okS] using h4
theorem name_bad (s : ByteArray) (k : Nat) (h : k < s.size) (hb : okS k s[k] = false) : nameS s.data.toList = false := by
  rw [name_all, Bool.and_eq_false_iff]
  refine .inr (decide_eq_false fun hall => ?_)
  have := hall k (by rw [len_bytes]; exact h)
  rw [show s.data.toList[k]'(by rw [len_bytes]; exact h) = s[k] from rfl] at this
  rw [hb] at this; cases this
theorem name_good (s : ByteArray) (h : ∀ j (h : j < s.size), okS j s[j] = true) : nameS s.data.toList = decide (0 < s.size) := by
  have : decide (∀ j (h : j < s.data.toList.length), okS j s.data.toList[j] = true) = true := decide_eq_true fun j hj => h j (by rw [← len_bytes]; exact hj)
  rw [name_all, this, Bool.and_true, decide_eq_decide, len_bytes]
end Go.Proofs.YtgdlkaoadlipmaaGreatDoor
