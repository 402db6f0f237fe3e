/- The contracts of the document's own answers for layer 1: sums, products, quotients, places. -/
import Derived.Test.YtldemoflgahdgaaNumWalks
import Derived.Deep.QuietTactic
import Derived.BigQuiet
namespace Go.Proofs.Ytldemoflgahdgaa
open Go.RowKit

theorem prod_pp {a b : Int} (ha : 0 < a) (hb : 0 < b) : 0 < a * b := Int.mul_pos ha hb
theorem prod_pn {a b : Int} (ha : 0 < a) (hb : b < 0) : a * b < 0 := Int.mul_neg_of_pos_of_neg ha hb
theorem prod_np {a b : Int} (ha : a < 0) (hb : 0 < b) : a * b < 0 := Int.mul_neg_of_neg_of_pos ha hb
theorem prod_nn {a b : Int} (ha : a < 0) (hb : b < 0) : 0 < a * b := Int.mul_pos_of_neg_of_neg ha hb
/-- Where both are above nought. -/
theorem mul_pp {a b : Int} (ha : 0 < a) (hb : 0 < b) : InR (a * b) ↔ a ≤ 9223372036854775807 / b := by
  rw [Int.le_ediv_iff_mul_le hb]
  have := prod_pp ha hb
  unfold InR; omega
/-- Where the one is above, the other one below: by how often the divisor goes into the least. -/
theorem mul_pn {a b : Int} (ha : 0 < a) (hb : b < 0) : InR (a * b) ↔ wrap64 (-Int.tdiv 9223372036854775808 a) ≤ b := by
  have h1 := prod_pn ha hb
  have h3 : Int.tdiv 9223372036854775808 a = 9223372036854775808 / a := Int.tdiv_eq_ediv_of_nonneg (by decide)
  have h5 : 0 ≤ (9223372036854775808 : Int) / a := Int.ediv_nonneg (by decide) (by omega)
  have h6 : (9223372036854775808 : Int) / a ≤ 9223372036854775808 := Int.ediv_le_self _ (by decide)
  have h4 : (-b) * a ≤ 9223372036854775808 ↔ -b ≤ 9223372036854775808 / a := (Int.le_ediv_iff_mul_le ha).symm
  have h7 : (-b) * a = -(a * b) := by rw [Int.neg_mul, Int.mul_comm]
  rw [h7] at h4
  rw [h3, wrap_in _ (by unfold InR; omega)]
  unfold InR; omega
theorem mul_nn {a b : Int} (ha : a < 0) (ha2 : InR a) (ha3 : ¬ a = -9223372036854775808) (hb : b < 0) (hb2 : InR b) (hb3 : ¬ b = -9223372036854775808) :
    InR (a * b) ↔ wrap64 (-a) ≤ wrap64 (Int.tdiv 9223372036854775807 (wrap64 (-b))) := by
  have h1 := prod_nn ha hb
  have hb4 : wrap64 (-b) = -b := wrap_in _ (by unfold InR at *; omega)
  have ha4 : wrap64 (-a) = -a := wrap_in _ (by unfold InR at *; omega)
  have h3 : Int.tdiv 9223372036854775807 (-b) = 9223372036854775807 / (-b) := Int.tdiv_eq_ediv_of_nonneg (by decide)
  have h5 : 0 ≤ (9223372036854775807 : Int) / (-b) := Int.ediv_nonneg (by decide) (by omega)
  have h6 : (9223372036854775807 : Int) / (-b) ≤ 9223372036854775807 := Int.ediv_le_self _ (by decide)
  have h4 : (-a) * (-b) ≤ 9223372036854775807 ↔ -a ≤ 9223372036854775807 / (-b) := (Int.le_ediv_iff_mul_le (by omega)).symm
  rw [Int.neg_mul_neg] at h4
  rw [hb4, ha4, h3, wrap_in _ (by unfold InR; omega)]
  unfold InR; omega
theorem mul_least_l {b : Int} (hb : b < 0) : ¬ InR (-9223372036854775808 * b) := by unfold InR; omega
theorem mul_least_r {a : Int} (ha : a < 0) : ¬ InR (a * -9223372036854775808) := by unfold InR; omega


theorem us_t {a b : Int} (h : (a < 0 ∧ 0 < b) ∨ (0 < a ∧ b < 0)) : us a b = true := decide_eq_true h
theorem us_f {a b : Int} (h : ¬ ((a < 0 ∧ 0 < b) ∨ (0 < a ∧ b < 0))) : us a b = false := decide_eq_false h
theorem pm_f {a b : Int} (h : ¬ (a = -9223372036854775808 ∧ b = -1)) : pm a b = false := decide_eq_false h
theorem pm_ne {a b : Int} (h : pm a b = false) : (a == -9223372036854775808 && b == -1) = false := by
  have := of_decide_eq_false h
  by_cases h1 : a = -9223372036854775808
  · have h2 : ¬ b = -1 := fun h2 => this ⟨h1, h2⟩
    simp [h2]
  · simp [h1]

/-- Nothing but draws. -/
def Quiet (w w' : World) : Prop := ∃ n, w' = w.drewN n
theorem Quiet.below {w w' : World} (h : Quiet w w') : Below w.heap.size w w' := by
  obtain ⟨n, rfl⟩ := h
  exact ⟨rfl, rfl, rfl, Nat.le_refl _, fun _ _ => rfl⟩


theorem fmod_neg1 (a : Int) : a.fmod (-1) = 0 := by
  have := (fmod_bd a (-1) (by decide)).2 (by decide)
  omega

set_option maxHeartbeats 400000 in
theorem ref_edge (i n : Int) (w : World) (hi : InR i) (hn : InR n) (h0 : 0 ≤ n) : Calls Try.prog 55 #[.int .i64 i, .int .i64 n] w fun e w' => e = .returned (.int .i64 (edS i n)) ∧ w = w' := by
  obtain ⟨hi1, hi2⟩ := hi
  obtain ⟨hn1, hn2⟩ := hn
  go_enter Try.func55, Try.ntmps55
  go_wp2
  all_goals go_ret
  all_goals
    refine ⟨ret_int ?_, rfl⟩
    unfold edS
    first | (rw [if_pos (by omega)]; omega) | (rw [if_neg (by omega)]; omega)
set_option maxHeartbeats 400000 in
theorem ref_Cut (lo hi n : Int) (w : World) (hl : InR lo) (hh : InR hi) (hn : InR n) : Calls Try.prog 50 #[.int .i64 lo, .int .i64 hi, .int .i64 n] w fun e w' => e = .returned (.tuple #[.int .i64 (cutS lo hi n).1, .int .i64 (cutS lo hi n).2]) ∧ w = w' := by
  have hn' : InR (max n 0) := by unfold InR at *; omega
  have h0 : 0 ≤ max n 0 := by omega
  have H := Lib.hid (show cutS lo hi n = (edS lo (max n 0), max (edS lo (max n 0)) (edS hi (max n 0))) from rfl)
  go_enter Try.func50, Try.ntmps50
  go_wp2_with (first
    | (go_at_call 55; refine (ref_edge _ _ _ (by assumption) hn' h0).mono ?_; rintro e w' ⟨rfl, rfl⟩))
  go_ret2
  exact ⟨by rw [H.out]; rfl, rfl⟩
end Go.Proofs.Ytldemoflgahdgaa
