/- The contracts of the document's own answers for layer 1: sums, products, quotients, places. -/
import Derived.Test.YtjfnodpchjkkmaaDoorNumWalks
import Derived.Deep.QuietTactic
import Derived.BigQuiet
namespace Go.Proofs.YtjfnodpchjkkmaaDoor
open Go.RowKit

theorem prod_pp {a b : Int} (ha : 0 < a) (hb : 0 < b) : 0 < a * b := Int.mul_pos ha hb
theorem prod_pn {a b : Int} (ha : 0 < a) (hb : b < 0) : a * b < 0 := Int.mul_neg_of_pos_of_neg ha hb
theorem prod_np {a b : Int} (ha : a < 0) (hb : 0 < b) : a * b < 0 := Int.mul_neg_of_neg_of_pos ha hb
theorem prod_nn {a b : Int} (ha : a < 0) (hb : b < 0) : 0 < a * b := Int.mul_pos_of_neg_of_neg ha hb
/-- Where both are above nought. -/
theorem mul_pp {a b : Int} (ha : 0 < a) (hb : 0 < b) : InR (a * b) ↔ a ≤ 9223372036854775807 / b := by
  rw [Int.le_ediv_iff_mul_le hb]
  have := prod_pp ha hb
  unfold InR; omega
/-- Where the one is above, the other one below: by how often the divisor goes into the least. -/
theorem mul_pn {a b : Int} (ha : 0 < a) (hb : b < 0) : InR (a * b) ↔ wrap64 (-Int.tdiv 9223372036854775808 a) ≤ b := by
  have h1 := prod_pn ha hb
  have h3 : Int.tdiv 9223372036854775808 a = 9223372036854775808 / a := Int.tdiv_eq_ediv_of_nonneg (by decide)
  have h5 : 0 ≤ (9223372036854775808 : Int) / a := Int.ediv_nonneg (by decide) (by omega)
  have h6 : (9223372036854775808 : Int) / a ≤ 9223372036854775808 := Int.ediv_le_self _ (by decide)
  have h4 : (-b) * a ≤ 9223372036854775808 ↔ -b ≤ 9223372036854775808 / a := (Int.le_ediv_iff_mul_le ha).symm
  have h7 : (-b) * a = -(a * b) := by rw [Int.neg_mul, Int.mul_comm]
  rw [h7] at h4
  rw [h3, wrap_in _ (by unfold InR; omega)]
  unfold InR; omega
theorem mul_nn {a b : Int} (ha : a < 0) (ha2 : InR a) (ha3 : ¬ a = -9223372036854775808) (hb : b < 0) (hb2 : InR b) (hb3 : ¬ b = -9223372036854775808) :
    InR (a * b) ↔ wrap64 (-a) ≤ wrap64 (Int.tdiv 9223372036854775807 (wrap64 (-b))) := by
  have h1 := prod_nn ha hb
  have hb4 : wrap64 (-b) = -b := wrap_in _ (by unfold InR at *; omega)
  have ha4 : wrap64 (-a) = -a := wrap_in _ (by unfold InR at *; omega)
  have h3 : Int.tdiv 9223372036854775807 (-b) = 9223372036854775807 / (-b) := Int.tdiv_eq_ediv_of_nonneg (by decide)
  have h5 : 0 ≤ (9223372036854775807 : Int) / (-b) := Int.ediv_nonneg (by decide) (by omega)
  have h6 : (9223372036854775807 : Int) / (-b) ≤ 9223372036854775807 := Int.ediv_le_self _ (by decide)
  have h4 : (-a) * (-b) ≤ 9223372036854775807 ↔ -a ≤ 9223372036854775807 / (-b) := (Int.le_ediv_iff_mul_le (by omega)).symm
  rw [Int.neg_mul_neg] at h4
  rw [hb4, ha4, h3, wrap_in _ (by unfold InR; omega)]
  unfold InR; omega
theorem mul_least_l {b : Int} (hb : b < 0) : ¬ InR (-9223372036854775808 * b) := by unfold InR; omega
theorem mul_least_r {a : Int} (ha : a < 0) : ¬ InR (a * -9223372036854775808) := by unfold InR; omega

set_option maxHeartbeats 400000 in
theorem ref_Add (a b : Int) (w : World) (ha : InR a) (hb : InR b) : Calls Tryd.prog 11 #[.int .i64 a, .int .i64 b] w fun e w' => e = .returned (.tuple #[.int .i64 (addS a b).1, .int .i64 (addS a b).2]) ∧ w = w' := by
  go_enter Tryd.func11, Tryd.ntmps11
  go_wp2
  all_goals
    go_ret2
    first
      | exact ⟨by rw [addS_in (by unfold InR at *; (try unfold wrap64 at *); omega)]; rfl, rfl⟩
      | exact ⟨by rw [addS_out (by unfold InR at *; (try unfold wrap64 at *); omega)]; rfl, rfl⟩
set_option maxHeartbeats 400000 in
theorem ref_Sub (a b : Int) (w : World) (ha : InR a) (hb : InR b) : Calls Tryd.prog 13 #[.int .i64 a, .int .i64 b] w fun e w' => e = .returned (.tuple #[.int .i64 (subS a b).1, .int .i64 (subS a b).2]) ∧ w = w' := by
  go_enter Tryd.func13, Tryd.ntmps13
  go_wp2
  all_goals
    go_ret2
    first
      | exact ⟨by rw [subS_in (by unfold InR at *; (try unfold wrap64 at *); omega)]; rfl, rfl⟩
      | exact ⟨by rw [subS_out (by unfold InR at *; (try unfold wrap64 at *); omega)]; rfl, rfl⟩
set_option maxHeartbeats 1000000 in
theorem ref_Mul (a b : Int) (w : World) (ha : InR a) (hb : InR b) : Calls Tryd.prog 16 #[.int .i64 a, .int .i64 b] w fun e w' => e = .returned (.tuple #[.int .i64 (mulS a b).1, .int .i64 (mulS a b).2]) ∧ w = w' := by
  by_cases hz : a = 0 ∨ b = 0
  · have H : Hid (mulS a b = (0, 0) ∧ wrap64 (a * b) = 0) := by
      rcases hz with rfl | rfl
      · exact ⟨by unfold mulS; rw [Int.zero_mul]; exact chk_in (by unfold InR; omega), by rw [Int.zero_mul]; exact wrap_in 0 (by unfold InR; omega)⟩
      · exact ⟨mulS_zero a, by rw [Int.mul_zero]; exact wrap_in 0 (by unfold InR; omega)⟩
    have HZ := Lib.hid hz; clear hz
    go_enter Tryd.func16, Tryd.ntmps16
    go_wp2
    all_goals
      first
        | (exfalso; have := HZ.out; omega)
        | (go_ret2; exact ⟨by rw [H.out.1, ← H.out.2]; rfl, rfl⟩)
  · have ha0 : ¬ a = 0 := fun h => hz (.inl h)
    have hb0 : ¬ b = 0 := fun h => hz (.inr h)
    clear hz
    by_cases h1 : 0 < a <;> by_cases h2 : 0 < b
    · have H := Lib.hid (mul_pp h1 h2)
      go_enter Tryd.func16, Tryd.ntmps16
      go_wp2
      all_goals
        go_ret2
        first
          | exact ⟨by rw [mulS_in (H.out.2 (by omega))]; rfl, rfl⟩
          | exact ⟨by rw [mulS_out (fun h => by have := H.out.1 h; omega)]; rfl, rfl⟩
    · have h3 : b < 0 := by omega
      have H := Lib.hid (mul_pn h1 h3)
      clear h2
      go_enter Tryd.func16, Tryd.ntmps16
      go_wp2
      all_goals
        go_ret2
        first
          | exact ⟨by rw [mulS_in (H.out.2 (by assumption))]; rfl, rfl⟩
          | exact ⟨by rw [mulS_out (fun h => by have := H.out.1 h; omega)]; rfl, rfl⟩
    · have h3 : a < 0 := by omega
      have h4 := mul_pn h2 h3
      rw [Int.mul_comm] at h4
      have H := Lib.hid h4
      clear h1 h4
      go_enter Tryd.func16, Tryd.ntmps16
      go_wp2
      all_goals
        go_ret2
        first
          | exact ⟨by rw [mulS_in (H.out.2 (by assumption))]; rfl, rfl⟩
          | exact ⟨by rw [mulS_out (fun h => by have := H.out.1 h; omega)]; rfl, rfl⟩
    · have h3 : a < 0 := by omega
      have h4 : b < 0 := by omega
      clear h1 h2
      by_cases h5 : a = -9223372036854775808
      · subst h5
        have H := Lib.hid (mulS_out (mul_least_l h4))
        go_enter Tryd.func16, Tryd.ntmps16
        go_wp2
        go_ret2
        exact ⟨by rw [H.out]; rfl, rfl⟩
      · by_cases h6 : b = -9223372036854775808
        · subst h6
          have H := Lib.hid (mulS_out (mul_least_r h3))
          have h7 : (a == -9223372036854775808) = false := beq_eq_false_iff_ne.2 h5
          go_enter Tryd.func16, Tryd.ntmps16
          go_wp2
          go_ret2
          exact ⟨by rw [H.out]; rfl, rfl⟩
        · have H := Lib.hid (mul_nn h3 ha h5 h4 hb h6)
          have h7 : (a == -9223372036854775808) = false := beq_eq_false_iff_ne.2 h5
          have h8 : (b == -9223372036854775808) = false := beq_eq_false_iff_ne.2 h6
          have h9 : ¬ wrap64 (-b) = 0 := by unfold wrap64; unfold InR at hb; omega
          clear h5 h6
          go_enter Tryd.func16, Tryd.ntmps16
          go_wp2
          all_goals
            go_ret2
            first
              | exact ⟨by rw [mulS_in (H.out.2 (by assumption))]; rfl, rfl⟩
              | exact ⟨by rw [mulS_out (fun h => by have := H.out.1 h; omega)]; rfl, rfl⟩

theorem us_t {a b : Int} (h : (a < 0 ∧ 0 < b) ∨ (0 < a ∧ b < 0)) : us a b = true := decide_eq_true h
theorem us_f {a b : Int} (h : ¬ ((a < 0 ∧ 0 < b) ∨ (0 < a ∧ b < 0))) : us a b = false := decide_eq_false h
theorem pm_f {a b : Int} (h : ¬ (a = -9223372036854775808 ∧ b = -1)) : pm a b = false := decide_eq_false h
theorem pm_ne {a b : Int} (h : pm a b = false) : (a == -9223372036854775808 && b == -1) = false := by
  have := of_decide_eq_false h
  by_cases h1 : a = -9223372036854775808
  · have h2 : ¬ b = -1 := fun h2 => this ⟨h1, h2⟩
    simp [h2]
  · simp [h1]

/-- Nothing but draws. -/
def Quiet (w w' : World) : Prop := ∃ n, w' = w.drewN n
theorem Quiet.below {w w' : World} (h : Quiet w w') : Below w.heap.size w w' := by
  obtain ⟨n, rfl⟩ := h
  exact ⟨rfl, rfl, rfl, Nat.le_refl _, fun _ _ => rfl⟩

set_option maxHeartbeats 1000000 in
theorem ref_Div (a b : Int) (w : World) (ha : InR a) (hb : InR b) : Calls Tryd.prog 18 #[.int .i64 a, .int .i64 b] w fun e w' => e = .returned (.tuple #[.int .i64 (divS a b).1, .int .i64 (divS a b).2]) ∧ Quiet w w' := by
  by_cases h0 : b = 0
  · subst h0
    have H := Lib.hid (divS_zero a)
    go_enter Tryd.func18, Tryd.ntmps18
    go_wp2
    go_ret2
    exact ⟨by rw [H.out]; rfl, 0, rfl⟩
  · have hb0 : (b == 0) = false := beq_eq_false_iff_ne.2 h0
    by_cases hp : a = -9223372036854775808 ∧ b = -1
    · obtain ⟨rfl, rfl⟩ := hp
      have H := Lib.hid (divS_pm (a := -9223372036854775808) (b := -1) (by decide))
      go_enter Tryd.func18, Tryd.ntmps18
      go_wp2
      go_ret2
      exact ⟨by rw [H.out]; rfl, 0, rfl⟩
    · have HP := pm_f hp
      have HF : Hid (∀ s t : Bool, s = decide (a.tmod b < 0) → t = decide (b < 0) →
          ((a.tmod b = 0 ∨ (a.tmod b != 0) = false ∨ (!s == t) = false) → divS a b = (wrap64 (a.tdiv b), 0)) ∧
          ((a.tmod b != 0) = true ∧ (!s == t) = true → divS a b = (wrap64 (wrap64 (a.tdiv b) - 1), 0))) := by
        rintro s t rfl rfl
        constructor
        · intro h
          refine divS_like ha h0 HP (us_f fun h' => ?_)
          rcases h with h | h | h
          · omega
          · have : a.tmod b = 0 := by simpa using h
            omega
          · by_cases h2 : b < 0 <;> by_cases h3 : a.tmod b < 0 <;> simp [h2, h3] at h <;> omega
        · rintro ⟨h4, h⟩
          have h5 : a.tmod b ≠ 0 := by simpa using h4
          refine divS_us ha h0 HP (us_t ?_)
          by_cases h2 : b < 0 <;> by_cases h3 : a.tmod b < 0 <;> simp [h2, h3] at h <;> omega
      by_cases h2 : b = -1
      · have h1 : (a == -9223372036854775808) = false := beq_eq_false_iff_ne.2 fun h => hp ⟨h, h2⟩
        clear hp HP h2
        go_enter Tryd.func18, Tryd.ntmps18
        go_wp2
        go_quiet (fail)
        go_wp2
        all_goals go_ret2
        · exact ⟨by rw [(HF.out _ _ rfl rfl).1 (.inl (by assumption))]; rfl, _, rfl⟩
        · exact ⟨by rw [(HF.out _ _ rfl rfl).2 (by assumption)]; rfl, _, rfl⟩
        · exact ⟨by rw [(HF.out _ _ rfl rfl).1 (.inr (by assumption))]; rfl, _, rfl⟩
      · have h2' : (b == -1) = false := beq_eq_false_iff_ne.2 h2
        obtain ⟨c, hc⟩ : ∃ c : Bool, (a == -9223372036854775808) = c := ⟨_, rfl⟩
        clear hp HP h2
        go_enter Tryd.func18, Tryd.ntmps18
        go_wp2
        all_goals go_quiet (fail)
        all_goals go_wp2
        all_goals go_ret2
        all_goals
          first
            | exact ⟨by rw [(HF.out _ _ rfl rfl).1 (.inl (by assumption))]; rfl, _, rfl⟩
            | exact ⟨by rw [(HF.out _ _ rfl rfl).2 (by assumption)]; rfl, _, rfl⟩
            | exact ⟨by rw [(HF.out _ _ rfl rfl).1 (.inr (by assumption))]; rfl, _, rfl⟩

theorem fmod_neg1 (a : Int) : a.fmod (-1) = 0 := by
  have := (fmod_bd a (-1) (by decide)).2 (by decide)
  omega
set_option maxHeartbeats 1000000 in
theorem ref_Mod (a b : Int) (w : World) (hb : InR b) : Calls Tryd.prog 20 #[.int .i64 a, .int .i64 b] w fun e w' => e = .returned (.tuple #[.int .i64 (modS a b).1, .int .i64 (modS a b).2]) ∧ w = w' := by
  by_cases h0 : b = 0
  · subst h0
    have H := Lib.hid (modS_zero a)
    go_enter Tryd.func20, Tryd.ntmps20
    go_wp2
    go_ret2
    exact ⟨by rw [H.out]; rfl, rfl⟩
  · have hb0 : (b == 0) = false := beq_eq_false_iff_ne.2 h0
    by_cases h1 : b = -1
    · subst h1
      have H := Lib.hid (show modS a (-1) = (0, 0) by unfold modS; rw [if_neg (by decide), fmod_neg1])
      go_enter Tryd.func20, Tryd.ntmps20
      go_wp2
      go_ret2
      exact ⟨by rw [H.out]; rfl, rfl⟩
    · have h1' : (b == -1) = false := beq_eq_false_iff_ne.2 h1
      have HF : Hid (∀ s t : Bool, s = decide (a.tmod b < 0) → t = decide (b < 0) →
          ((a.tmod b = 0 ∨ (a.tmod b != 0) = false ∨ (!s == t) = false) → modS a b = (a.tmod b, 0)) ∧
          ((a.tmod b != 0) = true ∧ (!s == t) = true → modS a b = (wrap64 (a.tmod b + b), 0))) := by
        rintro s t rfl rfl
        constructor
        · intro h
          refine modS_like h0 (us_f fun h' => ?_)
          rcases h with h | h | h
          · omega
          · have : a.tmod b = 0 := by simpa using h
            omega
          · by_cases h2 : b < 0 <;> by_cases h3 : a.tmod b < 0 <;> simp [h2, h3] at h <;> omega
        · rintro ⟨h4, h⟩
          have h5 : a.tmod b ≠ 0 := by simpa using h4
          refine modS_us hb h0 (us_t ?_)
          by_cases h2 : b < 0 <;> by_cases h3 : a.tmod b < 0 <;> simp [h2, h3] at h <;> omega
      clear h1
      go_enter Tryd.func20, Tryd.ntmps20
      go_wp2
      all_goals go_ret2
      all_goals
        first
          | exact ⟨by rw [(HF.out _ _ rfl rfl).1 (.inl (by assumption)), show a.tmod b = 0 from by assumption]; rfl, rfl⟩
          | exact ⟨by rw [(HF.out _ _ rfl rfl).2 (by assumption)]; rfl, rfl⟩
          | exact ⟨by rw [(HF.out _ _ rfl rfl).1 (.inr (by assumption))]; rfl, rfl⟩

set_option maxHeartbeats 400000 in
theorem ref_Place (i n : Int) (w : World) (hi : InR i) (hn : InR n) : Calls Tryd.prog 30 #[.int .i64 i, .int .i64 n] w fun e w' => e = .returned (.tuple #[.int .i64 (plS i n).1, .bool (plS i n).2]) ∧ w = w' := by
  obtain ⟨hi1, hi2⟩ := hi
  obtain ⟨hn1, hn2⟩ := hn
  go_enter Tryd.func30, Tryd.ntmps30
  go_wp2
  all_goals
    go_ret2
    first
      | exact ⟨by unfold plS; rw [if_pos (by omega)]; rfl, rfl⟩
      | exact ⟨by unfold plS; rw [if_neg (by omega), if_pos (by omega)]; rfl, rfl⟩
      | exact ⟨by unfold plS; rw [if_neg (by omega), if_neg (by omega)]; rfl, rfl⟩
set_option maxHeartbeats 400000 in
theorem ref_edge (i n : Int) (w : World) (hi : InR i) (hn : InR n) (h0 : 0 ≤ n) : Calls Tryd.prog 40 #[.int .i64 i, .int .i64 n] w fun e w' => e = .returned (.int .i64 (edS i n)) ∧ w = w' := by
  obtain ⟨hi1, hi2⟩ := hi
  obtain ⟨hn1, hn2⟩ := hn
  go_enter Tryd.func40, Tryd.ntmps40
  go_wp2
  all_goals go_ret
  all_goals
    refine ⟨ret_int ?_, rfl⟩
    unfold edS
    first | (rw [if_pos (by omega)]; omega) | (rw [if_neg (by omega)]; omega)
set_option maxHeartbeats 400000 in
theorem ref_Cut (lo hi n : Int) (w : World) (hl : InR lo) (hh : InR hi) (hn : InR n) : Calls Tryd.prog 32 #[.int .i64 lo, .int .i64 hi, .int .i64 n] w fun e w' => e = .returned (.tuple #[.int .i64 (cutS lo hi n).1, .int .i64 (cutS lo hi n).2]) ∧ w = w' := by
  have hn' : InR (max n 0) := by unfold InR at *; omega
  have h0 : 0 ≤ max n 0 := by omega
  have H := Lib.hid (show cutS lo hi n = (edS lo (max n 0), max (edS lo (max n 0)) (edS hi (max n 0))) from rfl)
  go_enter Tryd.func32, Tryd.ntmps32
  go_wp2_with (first
    | (go_at_call 40; refine (ref_edge _ _ _ (by assumption) hn' h0).mono ?_; rintro e w' ⟨rfl, rfl⟩))
  go_ret2
  exact ⟨by rw [H.out]; rfl, rfl⟩
end Go.Proofs.YtjfnodpchjkkmaaDoor
