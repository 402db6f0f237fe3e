/- The contracts of package quote's canonical quotes, names, digits read back, and equal beginnings. -/
import Derived.Test.YtdepgbolabepoaaDoorQt5
import Derived.Test.YtdepgbolabepoaaDoorRef02Canon
import Derived.Test.YtdepgbolabepoaaDoorLaw02Live
namespace Go.Proofs.YtdepgbolabepoaaDoor
open Go.RowKit

set_option maxRecDepth 100000 in
set_option maxHeartbeats 2000000 in
theorem q_Canon (s : ByteArray) (w : World) (hs : s.size ≤ 20000) (hT : Esc w) : Calls Tryd.prog 21 #[.string s] w fun e w' => e = .returned (.bool (canonS s.data.toList)) ∧ Below w.heap.size w w' := by
  have HT := Lib.hid hT
  have HU := Lib.hid (fun w h => q_Unquote s w hs h)
  have hl := unquoteS_len s.data.toList
  obtain ⟨a, ha⟩ : ∃ a, (unquoteS s.data.toList).1 = a := ⟨_, rfl⟩
  obtain ⟨n, hn⟩ : ∃ n, (unquoteS s.data.toList).2.1 = n := ⟨_, rfl⟩
  obtain ⟨e, he⟩ : ∃ e, (unquoteS s.data.toList).2.2 = e := ⟨_, rfl⟩
  have H : Hid (canonS s.data.toList = (e == 0 && n == s.size && quoteS a == s.data.toList)) := by
    show _ = _
    unfold canonS
    rw [ha, hn, he, len_bytes]
  have HV : Hid (unquoteS s.data.toList = (a, n, e)) := by
    show _ = _
    rw [← ha, ← hn, ← he]
  rw [ha, len_bytes] at hl
  have HQ := Lib.hid (fun w h => q_Quote ⟨a.toArray⟩ w (by show a.toArray.size ≤ 20000; simp; omega) h)
  rw [HV.out] at HU
  clear ha hn he hl hT
  go_enter Tryd.func21, Tryd.ntmps21
  go_wp2_with fail
  refine (HU.out _ HT.out).mono ?_
  rintro e1 w1 ⟨rfl, hb⟩
  have HW := Lib.hid hb
  clear hb
  go_wp2_with fail
  · refine (HQ.out _ (HT.out.below HW.out)).mono ?_
    rintro e2 w2 ⟨rfl, hb2⟩
    have HW2 := Lib.hid hb2
    clear hb2
    go_wp2_with fail
    go_ret
    refine ⟨?_, Below.after HW.out HW2.out⟩
    rw [H.out, ← ByteArray.toList_eq]
    have h1 : (n == s.size) = true := beq_iff_eq.2 (by omega)
    have h2 : (e == 0) = true := beq_iff_eq.2 (by omega)
    rw [h1, h2]
    rfl
  · go_ret
    refine ⟨?_, HW.out⟩
    rw [H.out]
    have : (n == s.size) = false := beq_eq_false_iff_ne.2 (by omega)
    rw [this]; simp
  · go_ret
    refine ⟨?_, HW.out⟩
    rw [H.out]
    have : (e == 0) = false := beq_eq_false_iff_ne.2 (by omega)
    rw [this]; simp
def alpS (c : UInt8) : Bool := decide (97 ≤ c.toNat ∧ c.toNat ≤ 122 ∨ 65 ≤ c.toNat ∧ c.toNat ≤ 90)
theorem let_alp (c : UInt8) : letS c = (alpS c || c.toNat == 95) := by
  unfold letS alpS
  rw [Bool.eq_iff_iff]
  simp only [decide_eq_true_eq, Bool.or_eq_true, beq_iff_eq]
  omega
theorem ret_b {x y : Bool} (h : x = y) : Ending.returned (.bool x) = .returned (.bool y) := by rw [h]
theorem q_isDigit (c : UInt8) (w : World) : Calls Tryd.prog 36 #[.int .u8 (c.toNat : Int)] w fun e w' => e = .returned (.bool (digS c)) ∧ w = w' := by
  go_enter Tryd.func36, Tryd.ntmps36
  go_wp2
  all_goals
    go_ret
    refine ⟨ret_b ?_, rfl⟩
    unfold digS
    first
      | (rw [eq_comm, decide_eq_true_eq]; omega)
      | (rw [eq_comm, decide_eq_false_iff_not]; omega)
      | (rw [decide_eq_decide]; omega)
theorem q_isLetter (c : UInt8) (w : World) : Calls Tryd.prog 37 #[.int .u8 (c.toNat : Int)] w fun e w' => e = .returned (.bool (alpS c)) ∧ w = w' := by
  go_enter Tryd.func37, Tryd.ntmps37
  go_wp2
  all_goals
    go_ret
    refine ⟨ret_b ?_, rfl⟩
    unfold alpS
    first
      | (rw [eq_comm, decide_eq_true_eq]; omega)
      | (rw [eq_comm, decide_eq_false_iff_not]; omega)
      | (rw [decide_eq_decide]; omega)
      | (rw [Bool.eq_iff_iff]; simp only [Bool.or_eq_true, decide_eq_true_eq]; omega)
theorem okS_dig {k : Nat} {c : UInt8} (h : digS c = true) (hk : k ≠ 0) : okS k c = true := by
  unfold okS; rw [h]; simp [hk]
theorem okS_let {k : Nat} {c : UInt8} (h : letS c = true) : okS k c = true := by unfold okS; rw [h]; rfl
theorem okS_not {k : Nat} {c : UInt8} (h : digS c = false) (h2 : alpS c = false) (h3 : (c.toNat : Int) ≠ 95) : okS k c = false := by
  unfold okS
  rw [let_alp, h, h2]
  have : (c.toNat == 95) = false := beq_eq_false_iff_ne.2 (by omega)
  rw [this]; simp
theorem dig_not {c : UInt8} (h : digS c = true) : okS 0 c = false := by
  unfold okS letS digS at *
  simp at *
  omega
set_option maxRecDepth 100000 in
set_option maxHeartbeats 2000000 in
theorem q_Name (s : ByteArray) (w : World) (hs : s.size ≤ 20000) : Calls Tryd.prog 25 #[.string s] w fun e w' => e = .returned (.bool (nameS s.data.toList)) ∧ w = w' := by
  by_cases h0 : 0 < s.size
  · have hn2 : s.toList.isEmpty = false := by rw [toL_empty]; exact decide_eq_false (by omega)
    have H0 := Lib.hid (fun w => q_isDigit s[0] w)
    cases hd0 : digS s[0] with
    | true =>
      rw [hd0] at H0
      have HF : Hid (nameS s.data.toList = false) := name_bad s 0 h0 (dig_not hd0)
      clear hd0
      go_enter Tryd.func25, Tryd.ntmps25
      go_wp2_with fail
      refine (H0.out _).mono ?_
      rintro e w1 ⟨rfl, rfl⟩
      go_wp2_with fail
      go_ret
      exact ⟨by rw [HF.out]; rfl, rfl⟩
    | false =>
      rw [hd0] at H0
      have HD0 := Lib.hid hd0
      clear hd0
      go_enter Tryd.func25, Tryd.ntmps25
      go_wp2_with fail
      refine (H0.out _).mono ?_
      rintro e w1 ⟨rfl, rfl⟩
      go_wp2_with fail
      go_loop [13] (fun i => ∃ k : Nat, k ≤ s.size ∧ i = .int .i64 (k : Int) ∧ (∀ j (h : j < s.size), j < k → okS j s[j] = true)) (fun i => s.size - (intOf i).toNat)
      case atStart => exact ⟨0, Nat.zero_le _, rfl, fun j _ h => absurd h (Nat.not_lt_zero _)⟩
      case round =>
        obtain ⟨k, hk, rfl, hok⟩ := hrel
        have HO := Lib.hid hok
        clear hok hn2 H0
        by_cases hlt : k < s.size
        · have hlt2 : (k : Int) < s.size := by omega
          have HD := Lib.hid (fun w => q_isDigit s[k] w)
          have HL := Lib.hid (fun w => q_isLetter s[k] w)
          have HG : Hid (okS k s[k] = true → ∀ j (h : j < s.size), j < k + 1 → okS j s[j] = true) := fun h j h1 h2 => by
            rcases Nat.lt_or_ge j k with h3 | h3
            · exact HO.out j h1 h3
            · obtain rfl : j = k := by omega
              exact h
          cases hd : digS s[k] with
          | true =>
            rw [hd] at HD
            have HOK : Hid (okS k s[k] = true) := okS_dig hd (fun e => by
              subst e
              have := HD0.out
              rw [hd] at this; cases this)
            clear hd
            go_wp2_with fail
            refine (HD.out _).mono ?_
            rintro e w1 ⟨rfl, rfl⟩
            go_wp2_with fail
            go_round
            case rel => exact ⟨k + 1, by omega, by go_num, HG.out HOK.out⟩
            case measure => simp [intOf]; omega
          | false =>
            rw [hd] at HD
            cases hl : alpS s[k] with
            | true =>
              rw [hl] at HL
              have HOK : Hid (okS k s[k] = true) := okS_let (by rw [let_alp, hl]; rfl)
              clear hd hl
              go_wp2_with fail
              refine (HD.out _).mono ?_
              rintro e w1 ⟨rfl, rfl⟩
              go_wp2_with fail
              refine (HL.out _).mono ?_
              rintro e w1 ⟨rfl, rfl⟩
              go_wp2_with fail
              go_round
              case rel => exact ⟨k + 1, by omega, by go_num, HG.out HOK.out⟩
              case measure => simp [intOf]; omega
            | false =>
              rw [hl] at HL
              by_cases hu : (s[k].toNat : Int) = 95
              · have HOK : Hid (okS k s[k] = true) := okS_let (by rw [let_alp, hl, show (s[k].toNat == 95) = true from beq_iff_eq.2 (by omega)]; rfl)
                have hu' : ((s[k].toNat : Int) != 95) = false := bne_eq_false_iff_eq.2 hu
                clear hd hl hu
                go_wp2_with fail
                refine (HD.out _).mono ?_
                rintro e w1 ⟨rfl, rfl⟩
                go_wp2_with fail
                refine (HL.out _).mono ?_
                rintro e w1 ⟨rfl, rfl⟩
                go_wp2_with fail
                go_round
                case rel => exact ⟨k + 1, by omega, by go_num, HG.out HOK.out⟩
                case measure => simp [intOf]; omega
              · have HF : Hid (nameS s.data.toList = false) := name_bad s k hlt (okS_not hd hl hu)
                have hu' : ((s[k].toNat : Int) != 95) = true := by rw [bne_iff_ne]; exact hu
                clear hd hl hu
                go_wp2_with fail
                refine (HD.out _).mono ?_
                rintro e w1 ⟨rfl, rfl⟩
                go_wp2_with fail
                refine (HL.out _).mono ?_
                rintro e w1 ⟨rfl, rfl⟩
                go_wp2_with fail
                go_ret
                exact ⟨by rw [HF.out]; rfl, rfl⟩
        · have HF : Hid (nameS s.data.toList = true) := by
            show _ = _
            rw [name_good s (fun j h => HO.out j h (by omega))]
            exact decide_eq_true h0
          go_wp2_with fail
          go_ret
          exact ⟨by rw [HF.out]; rfl, rfl⟩
  · have HF : Hid (nameS s.data.toList = false) := by
      show _ = _
      have : s.data.toList = [] := List.eq_nil_of_length_eq_zero (by rw [len_bytes]; omega)
      rw [this]; rfl
    have hn2 : s.toList.isEmpty = true := by rw [toL_empty]; exact decide_eq_true (by omega)
    clear h0
    go_enter Tryd.func25, Tryd.ntmps25
    go_wp2_with fail
    go_ret
    exact ⟨by rw [HF.out]; rfl, rfl⟩
end Go.Proofs.YtdepgbolabepoaaDoor
