/- The contracts of the document's own canonical quotes, and of names. -/
import Derived.Test.YtgdlkaoadlipmaaDoorRef02Unquote
namespace Go.Proofs.YtgdlkaoadlipmaaDoor
open Go.RowKit

theorem unqS_len (l : List UInt8) (k : Nat) (o : List UInt8) : (unqS l k o).1.length ≤ o.length + l.length := by
  fun_induction unqS l k o
  all_goals (simp only [List.length_append, List.length_cons, List.length_nil] at *; try omega)
theorem unquoteS_len (l : List UInt8) : (unquoteS l).1.length ≤ l.length := by
  unfold unquoteS
  split
  · simp
  · split
    · simp
    · have := unqS_len ‹_› 1 []
      simp only [List.length_cons, List.length_nil] at *
      omega
/-- A byte that may stand there in a name. -/
def okS (j : Nat) (c : UInt8) : Bool := letS c || (!(j == 0) && digS c)
/-- That, of the byte's number. -/
def OkP (j : Nat) (x : Int) : Prop := (97 ≤ x ∧ x ≤ 122 ∨ 65 ≤ x ∧ x ≤ 90 ∨ x = 95) ∨ (j ≠ 0 ∧ 48 ≤ x ∧ x ≤ 57)
theorem okS_iff (j : Nat) (c : UInt8) : okS j c = true ↔ OkP j (c.toNat : Int) := by
  unfold okS letS digS OkP
  simp only [Bool.or_eq_true, Bool.and_eq_true, Bool.not_eq_true', beq_eq_false_iff_ne, ne_eq, decide_eq_true_eq]
  omega
theorem name_all (l : List UInt8) : nameS l = (decide (0 < l.length) && decide (∀ j (h : j < l.length), okS j l[j] = true)) := by
  cases l with
  | nil => rfl
  | cons c r =>
    have h1 : decide (0 < (c :: r).length) = true := decide_eq_true (by simp)
    rw [h1, Bool.true_and]
    show (letS c && r.all fun c => letS c || digS c) = _
    rw [Bool.eq_iff_iff, decide_eq_true_eq, Bool.and_eq_true, List.all_eq_true]
    constructor
    · rintro ⟨h2, h3⟩ j hj
      cases j with
      | zero => simp [okS, h2]
      | succ j =>
        have hj' : j < r.length := by simpa using hj
        have := h3 r[j] (List.getElem_mem _)
        simpa [okS] using this
    · intro h2
      refine ⟨?_, fun x hx => ?_⟩
      · have h4 : okS 0 c = true := h2 0 (by simp)
        simpa [okS] using h4
      · obtain ⟨j, hj, rfl⟩ := List.getElem_of_mem hx
        have h4 : okS (j + 1) r[j] = true := h2 (j + 1) (by simpa using hj)
        simpa [okS] using h4
theorem name_bad (s : ByteArray) (k : Nat) (h : k < s.size) (hb : okS k s[k] = false) : nameS s.data.toList = false := by
  rw [name_all, Bool.and_eq_false_iff]
  refine .inr (decide_eq_false fun hall => ?_)
  have := hall k (by rw [len_bytes]; exact h)
  rw [show s.data.toList[k]'(by rw [len_bytes]; exact h) = s[k] from rfl] at this
  rw [hb] at this; cases this
theorem name_good (s : ByteArray) (h : ∀ j (h : j < s.size), okS j s[j] = true) : nameS s.data.toList = decide (0 < s.size) := by
  have : decide (∀ j (h : j < s.data.toList.length), okS j s.data.toList[j] = true) = true := decide_eq_true fun j hj => h j (by rw [← len_bytes]; exact hj)
  rw [name_all, this, Bool.and_true, decide_eq_decide, len_bytes]
set_option maxRecDepth 100000 in
set_option maxHeartbeats 2000000 in
theorem ref_Name (s : ByteArray) (w : World) (hs : s.size ≤ 10000) : Calls Tryd.prog 31 #[.string s] w fun e w' => e = .returned (.bool (nameS s.data.toList)) ∧ Below w.heap.size w w' := by
  go_enter Tryd.func31, Tryd.ntmps31
  go_wp2_with fail
  go_loopw [8] (fun i wr => ∃ k : Nat, k ≤ s.size ∧ i = .int .i64 (k : Int) ∧ (∀ j (h : j < s.size), j < k → okS j s[j] = true) ∧ Below w.heap.size w wr) (fun i _ => s.size - (intOf i).toNat)
  case atStart => exact ⟨0, Nat.zero_le _, rfl, fun j _ h => absurd h (Nat.not_lt_zero _), Below.refl _ _⟩
  case round =>
    obtain ⟨k, hk, rfl, hok, hbw⟩ := hrel
    have HO := Lib.hid hok
    have HW := Lib.hid hbw
    clear hok hbw
    by_cases hlt : k < s.size
    · have hlt2 : (k : Int) < s.size := by omega
      obtain ⟨x, hx⟩ : ∃ x : Int, (s[k].toNat : Int) = x := ⟨_, rfl⟩
      have HX := Lib.hid hx
      have HBad : Hid (¬ OkP k x → nameS s.data.toList = false) := fun h => name_bad s k hlt (by rw [← Bool.not_eq_true, okS_iff, hx]; exact h)
      have HG : Hid (OkP k x → ∀ j (h : j < s.size), j < k + 1 → okS j s[j] = true) := fun h j h1 h2 => by
        rcases Nat.lt_or_ge j k with h3 | h3
        · exact HO.out j h1 h3
        · obtain rfl : j = k := by omega
          rw [okS_iff, hx]; exact h
      go_wp2
      all_goals first
        | (go_ret
           refine ⟨?_, HW.out⟩
           rw [HBad.out (by unfold OkP; simp only [Bool.not_eq_eq_eq_not, Bool.not_true, decide_eq_false_iff_not, beq_iff_eq, beq_eq_false_iff_ne, ne_eq] at *; omega)]
           rfl)
        | (refine ⟨⟨k + 1, by omega, congrArg (Value.int IntKind.i64) (by omega), HG.out (by unfold OkP; simp only [Bool.not_eq_eq_eq_not, Bool.not_false, decide_eq_true_eq, beq_iff_eq, beq_eq_false_iff_ne, ne_eq] at *; omega), HW.out⟩, ?_⟩
           simp [intOf]; omega)
    · have hke : k = s.size := by omega
      have HF : Hid (nameS s.data.toList = decide (0 < s.size)) := name_good s (fun j h => HO.out j h (by omega))
      go_wp2_with fail
      go_ret
      refine ⟨?_, HW.out⟩
      rw [HF.out]
      exact congrArg (fun b => Ending.returned (.bool b)) (by first | rfl | (rw [decide_eq_decide]; omega))
end Go.Proofs.YtgdlkaoadlipmaaDoor
