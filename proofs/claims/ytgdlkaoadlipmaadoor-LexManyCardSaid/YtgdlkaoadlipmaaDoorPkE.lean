/- Texts put together: Ref01Walks Ref01Parse Ref01Bytes Ref01Text. -/
import Derived.Test.YtgdlkaoadlipmaaDoorPkB
import Derived.Deep.QuietTactic
import Derived.BigQuiet
import Derived.WalkLawsBesides
import Derived.Deep.RegionWith
import Derived.Handy
import Derived.Lib.ItoaLen

/- The contracts of the document's own answers for layer 1: sums, products, quotients, places. -/
namespace Go.Proofs.YtgdlkaoadlipmaaDoor
open Go.RowKit

theorem prod_pp {a b : Int} (ha : 0 < a) (hb : 0 < b) : 0 < a * b := Int.mul_pos ha hb
theorem prod_pn {a b : Int} (ha : 0 < a) (hb : b < 0) : a * b < 0 := Int.mul_neg_of_pos_of_neg ha hb
theorem prod_np {a b : Int} (ha : a < 0) (hb : 0 < b) : a * b < 0 := Int.mul_neg_of_neg_of_pos ha hb
theorem prod_nn {a b : Int} (ha : a < 0) (hb : b < 0) : 0 < a * b := Int.mul_pos_of_neg_of_neg ha hb
/-- Where both are above nought. -/
theorem mul_pp {a b : Int} (ha : 0 < a) (hb : 0 < b) : InR (a * b) ↔ a ≤ 9223372036854775807 / b := by
  rw [Int.le_ediv_iff_mul_le hb]
  have := prod_pp ha hb
  unfold InR; omega
/-- Where the one is above, the other one below: by how often the divisor goes into the least. -/
theorem mul_pn {a b : Int} (ha : 0 < a) (hb : b < 0) : InR (a * b) ↔ wrap64 (-Int.tdiv 9223372036854775808 a) ≤ b := by
  have h1 := prod_pn ha hb
  have h3 : Int.tdiv 9223372036854775808 a = 9223372036854775808 / a := Int.tdiv_eq_ediv_of_nonneg (by decide)
  have h5 : 0 ≤ (9223372036854775808 : Int) / a := Int.ediv_nonneg (by decide) (by omega)
  have h6 : (9223372036854775808 : Int) / a ≤ 9223372036854775808 := Int.ediv_le_self _ (by decide)
  have h4 : (-b) * a ≤ 9223372036854775808 ↔ -b ≤ 9223372036854775808 / a := (Int.le_ediv_iff_mul_le ha).symm
  have h7 : (-b) * a = -(a * b) := by rw [Int.neg_mul, Int.mul_comm]
  rw [h7] at h4
  rw [h3, wrap_in _ (by unfold InR; omega)]
  unfold InR; omega
theorem mul_nn {a b : Int} (ha : a < 0) (ha2 : InR a) (ha3 : ¬ a = -9223372036854775808) (hb : b < 0) (hb2 : InR b) (hb3 : ¬ b = -9223372036854775808) :
    InR (a * b) ↔ wrap64 (-a) ≤ wrap64 (Int.tdiv 9223372036854775807 (wrap64 (-b))) := by
  have h1 := prod_nn ha hb
  have hb4 : wrap64 (-b) = -b := wrap_in _ (by unfold InR at *; omega)
  have ha4 : wrap64 (-a) = -a := wrap_in _ (by unfold InR at *; omega)
  have h3 : Int.tdiv 9223372036854775807 (-b) = 9223372036854775807 / (-b) := Int.tdiv_eq_ediv_of_nonneg (by decide)
  have h5 : 0 ≤ (9223372036854775807 : Int) / (-b) := Int.ediv_nonneg (by decide) (by omega)
  have h6 : (9223372036854775807 : Int) / (-b) ≤ 9223372036854775807 := Int.ediv_le_self _ (by decide)
  have h4 : (-a) * (-b) ≤ 9223372036854775807 ↔ -a ≤ 9223372036854775807 / (-b) := (Int.le_ediv_iff_mul_le (by omega)).symm
  rw [Int.neg_mul_neg] at h4
  rw [hb4, ha4, h3, wrap_in _ (by unfold InR; omega)]
  unfold InR; omega
theorem mul_least_l {b : Int} (hb : b < 0) : ¬ InR (-9223372036854775808 * b) := by unfold InR; omega
theorem mul_least_r {a : Int} (ha : a < 0) : ¬ InR (a * -9223372036854775808) := by unfold InR; omega


theorem us_t {a b : Int} (h : (a < 0 ∧ 0 < b) ∨ (0 < a ∧ b < 0)) : us a b = true := decide_eq_true h
theorem us_f {a b : Int} (h : ¬ ((a < 0 ∧ 0 < b) ∨ (0 < a ∧ b < 0))) : us a b = false := decide_eq_false h
theorem pm_f {a b : Int} (h : ¬ (a = -9223372036854775808 ∧ b = -1)) : pm a b = false := decide_eq_false h
theorem pm_ne {a b : Int} (h : pm a b = false) : (a == -9223372036854775808 && b == -1) = false := by
  have := of_decide_eq_false h
  by_cases h1 : a = -9223372036854775808
  · have h2 : ¬ b = -1 := fun h2 => this ⟨h1, h2⟩
    simp [h2]
  · simp [h1]

/-- Nothing but draws. -/
def Quiet (w w' : World) : Prop := ∃ n, w' = w.drewN n
theorem Quiet.below {w w' : World} (h : Quiet w w') : Below w.heap.size w w' := by
  obtain ⟨n, rfl⟩ := h
  exact ⟨rfl, rfl, rfl, Nat.le_refl _, fun _ _ => rfl⟩


theorem fmod_neg1 (a : Int) : a.fmod (-1) = 0 := by
  have := (fmod_bd a (-1) (by decide)).2 (by decide)
  omega

end Go.Proofs.YtgdlkaoadlipmaaDoor

/- Layer 1: the document's own reading of digits. -/
namespace Go.Proofs.YtgdlkaoadlipmaaDoor
open Go.RowKit

/-- A whole number's digits. -/
def okN (l : List UInt8) : Bool :=
  match l with
  | [] => false
  | c :: r => if c.toNat = 45 then plainS r && r != [48] else plainS (c :: r)
def offS (l : List UInt8) : Nat := match l with | [] => 0 | c :: _ => if c.toNat = 45 then 1 else 0
theorem parseS_ok (l : List UInt8) (h : okN l = true) : parseS l = signedS (l.drop (offS l)) (offS l == 1) := by
  cases l with
  | nil => simp [okN] at h
  | cons c r =>
    rw [parseS_cons]
    simp only [okN, offS] at h ⊢
    by_cases hc : c.toNat = 45
    · rw [if_pos hc] at h
      simp only [Bool.and_eq_true, bne_iff_ne] at h
      rw [if_pos hc, if_pos hc, if_neg h.2, if_pos h.1]; rfl
    · rw [if_neg hc] at h
      rw [if_neg hc, if_neg hc, if_pos h]; rfl
theorem parseS_no (l : List UInt8) (h : okN l = false) : parseS l = (0, 2) := by
  cases l with
  | nil => rfl
  | cons c r =>
    rw [parseS_cons]
    simp only [okN] at h
    by_cases hc : c.toNat = 45
    · rw [if_pos hc] at h
      rw [if_pos hc]
      by_cases h48 : r = [48]
      · rw [if_pos h48]
      · rw [if_neg h48]
        have : plainS r = false := by
          rw [Bool.and_eq_false_iff] at h
          rcases h with h | h
          · exact h
          · simp [h48] at h
        rw [this]; rfl
    · rw [if_neg hc] at h
      rw [if_neg hc, h]; rfl
theorem okS_all (l : List UInt8) (h : okN l = true) : (l.drop (offS l)).all dgt = true := by
  cases l with
  | nil => rfl
  | cons c r =>
    simp only [okN, offS] at h ⊢
    by_cases hc : c.toNat = 45
    · rw [if_pos hc] at h ⊢
      simp only [Bool.and_eq_true] at h
      exact plainS_all h.1
    · rw [if_neg hc] at h ⊢
      exact plainS_all h
/-- Behind a hyphen. -/
theorem okN_neg (s : ByteArray) (h0 : 0 < s.size) (hc : s[0].toNat = 45) : okN s.data.toList = ((s.extract 1 s.size).data.toList.all dgt && (match (s.extract 1 s.size).data.toList with | [] => false | d :: _ => d.toNat != 48)) := by
  rw [cons_tail s h0]
  simp only [okN]
  rw [if_pos hc]
  cases hr : (s.extract 1 s.size).data.toList with
  | nil => rfl
  | cons d r =>
    have he : (some d == some (48 : UInt8)) = (d.toNat == 48) := by
      rw [Bool.eq_iff_iff]; simp
      exact ⟨fun e => by rw [e]; rfl, fun e => UInt8.toNat_inj.1 e⟩
    unfold plainS
    simp only [List.isEmpty_cons, Bool.not_false, Bool.true_and, List.head?_cons, he]
    by_cases hd : d.toNat = 48
    · have hd' : d = 48 := UInt8.toNat_inj.1 hd
      cases r with
      | nil => simp [hd']
      | cons e r => simp [hd]
    · have hd' : d ≠ 48 := fun e => hd (by rw [e]; rfl)
      have h1 : (d.toNat == 48) = false := beq_eq_false_iff_ne.2 hd
      have h2 : (d :: r != [48]) = true := by
        rw [bne_iff_ne]; intro e; injection e with e1 _; exact hd' e1
      have h3 : (d.toNat != 48) = true := bne_iff_ne.2 hd
      rw [h1, h2, h3]; simp
theorem okN_pos (s : ByteArray) (h0 : 0 < s.size) (hc : ¬ s[0].toNat = 45) : okN s.data.toList = plainS s.data.toList := by
  rw [cons_tail s h0]
  simp only [okN]
  rw [if_neg hc]
theorem get_tail (s : ByteArray) (h : 1 < s.size) : (s.extract 1 s.size).data.toList = s[1] :: s.data.toList.drop 2 := by
  have h1 := cons_tail s (by omega)
  have h2 : (s.extract 1 s.size).data.toList = s.data.toList.drop 1 := by rw [h1]; rfl
  rw [h2]
  have h3 : 1 < s.data.toList.length := by rw [len_toList]; exact h
  exact List.drop_eq_getElem_cons h3
theorem mem_get (s : ByteArray) (k : Nat) (h : k < s.size) (p : UInt8 → Bool) (j : Nat) (hj : j ≤ k) (ha : (s.data.toList.drop j).all p = true) : p s[k] = true := by
  rw [List.all_eq_true] at ha
  refine ha _ ?_
  have h1 : k < s.data.toList.length := by rw [len_toList]; exact h
  have h2 : s[k] = s.data.toList[k] := rfl
  rw [h2, List.mem_iff_getElem]
  exact ⟨k - j, by rw [List.length_drop]; omega, by rw [List.getElem_drop]; congr 1; omega⟩
theorem take_drop_snoc (s : ByteArray) (j k : Nat) (hj : j ≤ k) (h : k < s.size) : (s.data.toList.take (k + 1)).drop j = (s.data.toList.take k).drop j ++ [s[k]] := by
  rw [take_snoc s k h, List.drop_append_of_le_length]
  rw [List.length_take, len_toList]; omega

set_option maxHeartbeats 1000000 in
/-- The loop: from j on all are digits. -/
theorem ref_word_pos (s : ByteArray) (w : World) (hs : s.size ≤ maxLen) (h0 : 0 < s.size) (hc : ¬ s[0].toNat = 45) : Calls Tryd.prog 56 #[.string s] w fun e w' => e = .returned (.bool (okN s.data.toList)) ∧ w = w' := by
  unfold maxLen at hs
  rw [okN_pos s h0 hc]
  have hc1 : ((s[0].toNat : Int) == 45) = false := beq_eq_false_iff_ne.2 (by omega)
  have hc2 : ¬ (s[0].toNat : Int) = 45 := by omega
  have hz : ((s.size : Int) == 0) = false := beq_eq_false_iff_ne.2 (by omega)
  have hz2 : ((0 : Int) == s.size) = false := beq_eq_false_iff_ne.2 (by omega)
  by_cases h1 : s[0].toNat = 48 ∧ 1 < s.size
  · have H : Hid (plainS s.data.toList = false) := by
      show _ = _
      rw [plainS_of s h0, h1.1]; simp [h1.2]
    obtain ⟨h1, h2⟩ := h1
    have h1' : (s[0].toNat : Int) = 48 := by omega
    clear h1 hc
    go_enter Tryd.func56, Tryd.ntmps56
    go_wp2
    all_goals
      go_ret
      exact ⟨by rw [H.out]; rfl, rfl⟩
  · have H : Hid (plainS s.data.toList = (s.data.toList.drop 0).all dgt) := by
      show _ = _
      rw [List.drop_zero, plainS_of s h0]
      by_cases h2 : s[0].toNat = 48
      · simp [show ¬ 1 < s.size from fun h => h1 ⟨h2, h⟩]
      · simp [h2]
    have HC : Hid ((s[0].toNat : Int) = 48 ∧ s.size ≤ 1 ∨ ¬ (s[0].toNat : Int) = 48) := by
      show _ ∨ _
      by_cases h2 : s[0].toNat = 48
      · exact .inl ⟨by omega, by omega⟩
      · exact .inr (by omega)
    clear h1 hc
    rcases HC.out with ⟨h1, h2⟩ | h1
    all_goals
      clear HC
      go_enter Tryd.func56, Tryd.ntmps56
      go_wp2
      go_loop [4] (fun i => ∃ k : Nat, 0 ≤ k ∧ k ≤ s.size ∧ i = .int .i64 k ∧ ((s.data.toList.take k).drop 0).all dgt = true) (fun i => s.size - (intOf i).toNat)
      case atStart => exact ⟨0, Nat.le_refl _, by omega, rfl, by rw [List.drop_eq_nil_of_le (by rw [List.length_take]; omega)]; rfl⟩
      case round =>
        obtain ⟨k, hj, hk, rfl, hall⟩ := hrel
        have HA := Lib.hid hall
        clear hall
        by_cases hlt : k < s.size
        · have hts := take_drop_snoc s 0 k hj hlt
          by_cases hd : 48 ≤ (s[k].toNat : Int) ∧ (s[k].toNat : Int) ≤ 57
          · have HS : Hid (((s.data.toList.take (k + 1)).drop 0).all dgt = true) := by
              show _ = _
              rw [hts, List.all_append, HA.out]; simp; exact (dgt_iff _).2 hd
            obtain ⟨hd1, hd2⟩ := hd
            clear hts
            go_wp2
            go_round
            case rel => exact ⟨k + 1, by omega, by omega, by go_num, HS.out⟩
            case measure => simp [intOf]; omega
          · have HS : Hid ((s.data.toList.drop 0).all dgt = false) := by
              show _ = _
              rw [Bool.eq_false_iff]
              intro h
              exact hd ((dgt_iff _).1 (mem_get s k hlt dgt 0 hj h))
            clear hts
            by_cases hd1 : 48 ≤ (s[k].toNat : Int)
            · have hd2 : 57 < (s[k].toNat : Int) := by omega
              clear hd
              go_wp2
              go_ret
              exact ⟨by rw [H.out, HS.out]; rfl, rfl⟩
            · have hd2 : (s[k].toNat : Int) < 48 := by omega
              clear hd hd1
              go_wp2
              go_ret
              exact ⟨by rw [H.out, HS.out]; rfl, rfl⟩
        · have HS : Hid ((s.data.toList.drop 0).all dgt = true) := by
            show _ = _
            have := HA.out
            rwa [List.take_of_length_le (by rw [len_toList]; omega)] at this
          go_wp2
          go_ret
          exact ⟨by rw [H.out, HS.out]; rfl, rfl⟩

set_option maxHeartbeats 1000000 in
theorem ref_word_neg (s : ByteArray) (w : World) (hs : s.size ≤ maxLen) (h0 : 0 < s.size) (hc : s[0].toNat = 45) : Calls Tryd.prog 56 #[.string s] w fun e w' => e = .returned (.bool (okN s.data.toList)) ∧ w = w' := by
  unfold maxLen at hs
  have hc1 : (s[0].toNat : Int) = 45 := by omega
  have H0 := okN_neg s h0 hc
  clear hc
  by_cases h1 : 1 < s.size
  · rw [get_tail s h1] at H0
    have hz : ((1 : Int) == s.size) = false := beq_eq_false_iff_ne.2 (by omega)
    by_cases h2 : s[1].toNat = 48
    · have H : Hid (okN s.data.toList = false) := by
        show _ = _
        rw [H0]; simp [h2]
      have h2' : (s[1].toNat : Int) = 48 := by omega
      clear h2 H0
      go_enter Tryd.func56, Tryd.ntmps56
      go_wp2
      all_goals
        go_ret
        exact ⟨by rw [H.out]; rfl, rfl⟩
    · have H : Hid (okN s.data.toList = (s.data.toList.drop 1).all dgt) := by
        show _ = _
        have h3 : (s.data.toList.drop 1) = s[1] :: s.data.toList.drop 2 := by
          rw [← get_tail s h1]
          have := cons_tail s h0
          rw [this]; rfl
        rw [H0, h3]; simp [h2]
      have h2' : ¬ (s[1].toNat : Int) = 48 := by omega
      clear h2 H0
      go_enter Tryd.func56, Tryd.ntmps56
      go_wp2
      go_loop [4] (fun i => ∃ k : Nat, 1 ≤ k ∧ k ≤ s.size ∧ i = .int .i64 k ∧ ((s.data.toList.take k).drop 1).all dgt = true) (fun i => s.size - (intOf i).toNat)
      case atStart => exact ⟨1, Nat.le_refl _, by omega, rfl, by rw [List.drop_eq_nil_of_le (by rw [List.length_take]; omega)]; rfl⟩
      case round =>
        obtain ⟨k, hj, hk, rfl, hall⟩ := hrel
        have HA := Lib.hid hall
        clear hall
        by_cases hlt : k < s.size
        · have hts := take_drop_snoc s 1 k hj hlt
          by_cases hd : 48 ≤ (s[k].toNat : Int) ∧ (s[k].toNat : Int) ≤ 57
          · have HS : Hid (((s.data.toList.take (k + 1)).drop 1).all dgt = true) := by
              show _ = _
              rw [hts, List.all_append, HA.out]; simp; exact (dgt_iff _).2 hd
            obtain ⟨hd1, hd2⟩ := hd
            clear hts
            go_wp2
            go_round
            case rel => exact ⟨k + 1, by omega, by omega, by go_num, HS.out⟩
            case measure => simp [intOf]; omega
          · have HS : Hid ((s.data.toList.drop 1).all dgt = false) := by
              show _ = _
              rw [Bool.eq_false_iff]
              intro h
              exact hd ((dgt_iff _).1 (mem_get s k hlt dgt 1 hj h))
            clear hts
            by_cases hd1 : 48 ≤ (s[k].toNat : Int)
            · have hd2 : 57 < (s[k].toNat : Int) := by omega
              clear hd
              go_wp2
              go_ret
              exact ⟨by rw [H.out, HS.out]; rfl, rfl⟩
            · have hd2 : (s[k].toNat : Int) < 48 := by omega
              clear hd hd1
              go_wp2
              go_ret
              exact ⟨by rw [H.out, HS.out]; rfl, rfl⟩
        · have HS : Hid ((s.data.toList.drop 1).all dgt = true) := by
            show _ = _
            have := HA.out
            rwa [List.take_of_length_le (by rw [len_toList]; omega)] at this
          go_wp2
          go_ret
          exact ⟨by rw [H.out, HS.out]; rfl, rfl⟩
  · have H : Hid (okN s.data.toList = false) := by
      show _ = _
      have h2 : (s.extract 1 s.size).data.toList = [] := List.eq_nil_of_length_eq_zero (by rw [len_toList, ByteArray.size_extract]; omega)
      rw [H0, h2]; rfl
    have hz : (s.size : Int) = 1 := by omega
    have hz2 : ((1 : Int) == s.size) = true := beq_iff_eq.2 (by omega)
    clear h1 H0
    go_enter Tryd.func56, Tryd.ntmps56
    go_wp2
    all_goals
      go_ret
      exact ⟨by rw [H.out]; rfl, rfl⟩

set_option maxHeartbeats 1000000 in
theorem ref_word (s : ByteArray) (w : World) (hs : s.size ≤ maxLen) : Calls Tryd.prog 56 #[.string s] w fun e w' => e = .returned (.bool (okN s.data.toList)) ∧ w = w' := by
  by_cases h0 : 0 < s.size
  · by_cases hc : s[0].toNat = 45
    · exact ref_word_neg s w hs h0 hc
    · exact ref_word_pos s w hs h0 hc
  · have H : Hid (okN s.data.toList = false) := by
      show _ = _
      have : s.data.toList = [] := List.eq_nil_of_length_eq_zero (by rw [len_toList]; omega)
      rw [this]; rfl
    have hz : (s.size : Int) = 0 := by omega
    have hz2 : s.size = 0 := by omega
    clear h0 hs
    go_enter Tryd.func56, Tryd.ntmps56
    go_wp2
    all_goals
      go_ret
      exact ⟨by rw [H.out]; rfl, rfl⟩

theorem tdiv10 (n d : Int) (h1 : 0 ≤ d) (h2 : d ≤ 9) : (-9223372036854775808 + d).tdiv 10 ≤ -n ↔ 10 * n + d ≤ 9223372036854775808 := by
  have h : (-9223372036854775808 + d).tdiv 10 = -((9223372036854775808 - d) / 10) := by
    rw [show -9223372036854775808 + d = -(9223372036854775808 - d) by omega, Int.neg_tdiv, Int.tdiv_eq_ediv_of_nonneg (by omega)]
  rw [h]; omega
theorem offS_get (s : ByteArray) (h0 : 0 < s.size) : offS s.data.toList = if s[0].toNat = 45 then 1 else 0 := by
  rw [cons_tail s h0]; rfl
set_option maxHeartbeats 2000000 in
theorem ref_Parse_ok (s : ByteArray) (w : World) (hs : s.size ≤ maxLen) (hok : okN s.data.toList = true) : Calls Tryd.prog 46 #[.string s] w fun e w' => e = .returned (.tuple #[.int .i64 (parseS s.data.toList).1, .int .i64 (parseS s.data.toList).2]) ∧ w = w' := by
  have hs2 := hs
  unfold maxLen at hs2
  have h0 : 0 < s.size := by
    rcases Nat.eq_zero_or_pos s.size with h | h
    · have : s.data.toList = [] := List.eq_nil_of_length_eq_zero (by rw [len_toList]; exact h)
      rw [this] at hok; cases hok
    · exact h
  have HO := Lib.hid (offS_get s h0)
  have HD := Lib.hid (okS_all _ hok)
  have HP := Lib.hid (parseS_ok _ hok)
  have HW := Lib.hid (ref_word s w hs)
  have hok2 := hok
  clear hok hs
  obtain ⟨j, hj⟩ : ∃ j, offS s.data.toList = j := ⟨_, rfl⟩
  rw [hj] at HO HD HP
  clear hj
  go_enter Tryd.func46, Tryd.ntmps46
  go_wp2_with fail
  refine HW.out.mono ?_
  rintro e w' ⟨rfl, rfl⟩
  go_wp2_with fail
  go_loop [4, 12] (fun n i => ∃ k : Nat, k ≤ s.size ∧ i = .int .i64 k ∧ n = .int .i64 (-numS ((s.data.toList.take k).drop j)) ∧ InR (-numS ((s.data.toList.take k).drop j))) (fun _ i => s.size - (intOf i).toNat)
  case atStart => exact ⟨0, Nat.zero_le _, rfl, by simp [numS], by simp [numS, InR]⟩
  case round =>
    obtain ⟨k, hk, rfl, rfl, hin⟩ := hrel
    by_cases hlt : k < s.size
    · by_cases hc : (s[k].toNat : Int) = 45
      · have hk0 : k + 1 ≤ j := by
          by_cases h : k + 1 ≤ j
          · exact h
          · exfalso
            have := (dgt_iff _).1 (mem_get s k hlt dgt j (by omega) HD.out)
            omega
        have HN : Hid (numS ((s.data.toList.take (k + 1)).drop j) = numS ((s.data.toList.take k).drop j)) := by
          show _ = _
          rw [List.drop_eq_nil_of_le (by rw [List.length_take]; omega), List.drop_eq_nil_of_le (by rw [List.length_take]; omega)]
        go_wp2_with fail
        go_round
        case rel => exact ⟨k + 1, by omega, by go_num, by rw [HN.out], by rw [HN.out]; exact hin⟩
        case measure => simp [intOf]; omega
      · have hkj : j ≤ k := by
          by_cases h : j ≤ k
          · exact h
          · exfalso
            have := HO.out
            split at this
            · have hk0 : k = 0 := by omega
              subst hk0
              omega
            · omega
        have hts := take_drop_snoc s j k hkj hlt
        have HC : Hid (48 ≤ (s[k].toNat : Int) ∧ (s[k].toNat : Int) ≤ 57) := (dgt_iff _).1 (mem_get s k hlt dgt j hkj HD.out)
        have HS : Hid (numS ((s.data.toList.take (k + 1)).drop j) = 10 * numS ((s.data.toList.take k).drop j) + ((s[k].toNat : Int) - 48)) := by
          show _ = _
          rw [hts, numS_snoc]
        clear hts
        obtain ⟨n, hn⟩ : ∃ n, numS ((s.data.toList.take k).drop j) = n := ⟨_, rfl⟩
        rw [hn] at HS hin ⊢
        have HE := Lib.hid hn
        clear hn
        have hc1 := HC.out.1
        have hc2 := HC.out.2
        have hu : IntKind.u8.wrap ((s[k].toNat : Int) - 48) = (s[k].toNat : Int) - 48 := by rw [IntKind.wrap_u8]; omega
        have HNN : Hid (0 ≤ n) := by
          show 0 ≤ n
          rw [← HE.out]
          refine numS_nn _ ?_
          have h := HD.out
          rw [List.all_eq_true] at h ⊢
          intro x hx
          refine h x ?_
          rw [List.drop_take] at hx
          exact List.mem_of_mem_take hx
        have HT := Lib.hid (tdiv10 n ((s[k].toNat : Int) - 48) (by omega) (by omega))
        by_cases hB : 10 * n + ((s[k].toNat : Int) - 48) ≤ 9223372036854775808
        · have ht := HT.out.2 hB
          have HB : Hid (InR (-(10 * n + ((s[k].toNat : Int) - 48)))) := by
            have := HNN.out
            show InR _
            unfold InR; omega
          have hm1 : wrap64 (10 * -n) = 10 * -n := by
            have := HNN.out
            exact wrap_in _ (by unfold InR; omega)
          have hm2 : wrap64 (10 * -n - ((s[k].toNat : Int) - 48)) = 10 * -n - ((s[k].toNat : Int) - 48) := by
            have := HNN.out
            exact wrap_in _ (by unfold InR; omega)
          clear hB
          go_wp2_with fail
          go_round
          case rel =>
            have hx := HS.out
            exact ⟨k + 1, by omega, by go_num, by rw [hx, hm2]; congr 1; omega, by rw [hx]; exact HB.out⟩
          case measure => simp [intOf]; omega
        · have ht : -n < (-9223372036854775808 + ((s[k].toNat : Int) - 48)).tdiv 10 := by
            have := HT.out
            omega
          have HF : Hid (parseS s.data.toList = (0, 4)) := by
            show _ = _
            rw [HP.out]
            refine signedS_out _ HD.out (fun h => hB ?_) _
            have h1 : numS ((s.data.toList.take (k + 1)).drop j) ≤ numS (s.data.toList.drop j) := by
              have h2 : s.data.toList.drop j = (s.data.toList.take (k + 1)).drop j ++ s.data.toList.drop (k + 1) := by
                conv => lhs; rw [← List.take_append_drop (k + 1) s.data.toList]
                rw [List.drop_append_of_le_length (by rw [List.length_take, len_toList]; omega)]
              have h3 := HD.out
              rw [h2, List.all_append, Bool.and_eq_true] at h3
              rw [h2]
              exact numS_app _ _ h3.1 h3.2
            have := HS.out
            unfold InR at h; omega
          clear hB
          go_wp2_with fail
          go_ret2
          exact ⟨by rw [HF.out]; rfl, rfl⟩
    · have hl : s.data.toList.take k = s.data.toList := List.take_of_length_le (by rw [len_toList]; omega)
      rw [hl] at hin ⊢
      clear hl
      obtain ⟨n, hn⟩ : ∃ n, numS (s.data.toList.drop j) = n := ⟨_, rfl⟩
      rw [hn] at hin ⊢
      have HE := Lib.hid hn
      clear hn
      have HNN : Hid (0 ≤ n) := by
        show 0 ≤ n
        rw [← HE.out]; exact numS_nn _ HD.out
      by_cases hc : s[0].toNat = 45
      · have hc1 : (s[0].toNat : Int) = 45 := by omega
        have HF : Hid (parseS s.data.toList = (-n, 0)) := by
          show _ = _
          have := HO.out
          rw [if_pos hc] at this
          rw [HP.out, this]
          show chk _ = _
          rw [← this, HE.out]; exact chk_in hin
        clear hc
        go_wp2_with fail
        go_ret2
        exact ⟨by rw [HF.out]; rfl, rfl⟩
      · have hc1 : ((s[0].toNat : Int) == 45) = false := beq_eq_false_iff_ne.2 (by omega)
        have HJ : Hid (parseS s.data.toList = chk n) := by
          show _ = _
          have := HO.out
          rw [if_neg hc] at this
          rw [HP.out, this]
          show chk _ = _
          rw [← this, HE.out]
        have hc2 : ¬ (s[0].toNat : Int) = 45 := by omega
        clear hc
        by_cases hm : n = 9223372036854775808
        · subst hm
          have HF : Hid (chk 9223372036854775808 = (0, 4)) := chk_out (by unfold InR; omega)
          go_wp2_with fail
          go_ret2
          exact ⟨by rw [HJ.out, HF.out]; rfl, rfl⟩
        · have hm1 : (-n == -9223372036854775808) = false := beq_eq_false_iff_ne.2 (by omega)
          have hm3 : (n == 9223372036854775808) = false := beq_eq_false_iff_ne.2 hm
          have HI : Hid (InR n) := by
            have := HNN.out
            show InR n
            unfold InR at *; omega
          have hm2 : wrap64 n = n := wrap_in _ HI.out
          have HF : Hid (chk n = (n, 0)) := chk_in HI.out
          go_wp2_with fail
          go_ret2
          exact ⟨by rw [HJ.out, HF.out]; rfl, rfl⟩

set_option maxHeartbeats 1000000 in
theorem ref_Parse (s : ByteArray) (w : World) (hs : s.size ≤ maxLen) : Calls Tryd.prog 46 #[.string s] w fun e w' => e = .returned (.tuple #[.int .i64 (parseS s.data.toList).1, .int .i64 (parseS s.data.toList).2]) ∧ w = w' := by
  by_cases hok : okN s.data.toList = true
  · exact ref_Parse_ok s w hs hok
  · have hok2 : okN s.data.toList = false := by simpa using hok
    have H := Lib.hid (parseS_no _ hok2)
    have HW := Lib.hid (ref_word s w hs)
    clear hok hs
    go_enter Tryd.func46, Tryd.ntmps46
    go_wp2_with fail
    refine HW.out.mono ?_
    rintro e w' ⟨rfl, rfl⟩
    go_wp2_with fail
    go_ret2
    exact ⟨by rw [H.out]; rfl, rfl⟩
end Go.Proofs.YtgdlkaoadlipmaaDoor

/- Layer 1: the document's own bytes; bytes are in the numbers' order; there and back. -/
namespace Go.Proofs.YtgdlkaoadlipmaaDoor
open Go.RowKit

/-- The number of these bytes, by weights. -/
def wS : List UInt8 → Int
  | [] => 0
  | c :: r => (c.toNat : Int) * 256 ^ r.length + wS r
theorem wS_bd (l : List UInt8) : 0 ≤ wS l ∧ wS l < 256 ^ l.length := by
  induction l with
  | nil => exact ⟨Int.le_refl _, by decide⟩
  | cons c r ih =>
    have hc : (c.toNat : Int) ≤ 255 := by have := c.toNat_lt; omega
    have hc0 : (0 : Int) ≤ (c.toNat : Int) := by omega
    have hp : (0 : Int) < 256 ^ r.length := Int.pow_pos (by decide)
    have h1 : (c.toNat : Int) * 256 ^ r.length ≤ 255 * 256 ^ r.length := Int.mul_le_mul_of_nonneg_right hc (Int.le_of_lt hp)
    have h2 : 0 ≤ (c.toNat : Int) * 256 ^ r.length := Int.mul_nonneg hc0 (Int.le_of_lt hp)
    simp only [wS, List.length_cons, Int.pow_succ]
    omega
theorem fold_wS (l : List UInt8) : ∀ n : Int, l.foldl (fun n c => n * 256 + (c.toNat : Int)) n = n * 256 ^ l.length + wS l := by
  induction l with
  | nil => intro n; simp [wS]
  | cons c r ih =>
    intro n
    simp only [List.foldl_cons, wS, List.length_cons, Int.pow_succ]
    rw [ih, Int.add_mul, Int.mul_assoc, Int.mul_comm 256]
    omega
theorem valS_eq (l : List UInt8) : valS l = wS l := by unfold valS; rw [fold_wS]; simp
theorem wS_step (c d : UInt8) (l r : List UInt8) (h : l.length = r.length) : (c.toNat < d.toNat → wS (c :: l) < wS (d :: r)) ∧ (c.toNat = d.toNat → (wS (c :: l) < wS (d :: r) ↔ wS l < wS r)) := by
  have h1 := wS_bd l
  have h2 := wS_bd r
  simp only [wS]
  rw [h] at h1 ⊢
  constructor
  · intro hcd
    have hp : (0 : Int) < 256 ^ r.length := Int.pow_pos (by decide)
    have h3 : ((c.toNat : Int) + 1) * 256 ^ r.length ≤ (d.toNat : Int) * 256 ^ r.length := Int.mul_le_mul_of_nonneg_right (by omega) (Int.le_of_lt hp)
    rw [Int.add_mul] at h3
    omega
  · intro hcd
    rw [hcd]; omega
/-- Of one length, texts are in the order of their numbers. -/
theorem lt_wS : ∀ (l r : List UInt8), l.length = r.length → (l < r ↔ wS l < wS r)
  | [], [], _ => by simp [wS]
  | [], _ :: _, h => by simp at h
  | _ :: _, [], h => by simp at h
  | c :: l, d :: r, h => by
    have h' : l.length = r.length := by simpa using h
    have hs := wS_step c d l r h'
    have hs2 := wS_step d c r l h'.symm
    rw [List.cons_lt_cons_iff, UInt8.lt_iff_toNat_lt, lt_wS l r h']
    constructor
    · rintro (h1 | ⟨rfl, h1⟩)
      · exact hs.1 h1
      · exact (hs.2 rfl).2 h1
    · intro h1
      rcases Nat.lt_trichotomy c.toNat d.toNat with h2 | h2 | h2
      · exact .inl h2
      · exact .inr ⟨UInt8.toNat_inj.1 h2, (hs.2 h2).1 h1⟩
      · have := hs2.1 h2; omega
theorem eq_wS : ∀ (l r : List UInt8), l.length = r.length → wS l = wS r → l = r
  | [], [], _, _ => rfl
  | [], _ :: _, h, _ => by simp at h
  | _ :: _, [], h, _ => by simp at h
  | c :: l, d :: r, h, he => by
    have h' : l.length = r.length := by simpa using h
    have hs := wS_step c d l r h'
    have hs2 := wS_step d c r l h'.symm
    rcases Nat.lt_trichotomy c.toNat d.toNat with h2 | h2 | h2
    · have := hs.1 h2; omega
    · have h3 : wS l = wS r := by
        simp only [wS] at he
        rw [h2, h'] at he; omega
      rw [UInt8.toNat_inj.1 h2, eq_wS l r h' h3]
    · have := hs2.1 h2; omega
theorem bytesS_len (n : Int) : (bytesS n).length = 8 := rfl
theorem bytesS_wS (n : Int) (h : InR n) : wS (bytesS n) = n + 9223372036854775808 := by
  unfold InR at h
  simp only [wS, bytesS, bt8_toNat, List.length_cons, List.length_nil, Nat.reduceAdd, Int.reducePow]
  omega
theorem bytesS_lt (a b : Int) (ha : InR a) (hb : InR b) : (bytesS a < bytesS b) ↔ a < b := by
  rw [lt_wS (bytesS a) (bytesS b) rfl, bytesS_wS a ha, bytesS_wS b hb]; omega
theorem unbytes_bytes (n : Int) (h : InR n) : unbytesS (bytesS n) = (n, 0) := by
  unfold unbytesS
  rw [if_pos (bytesS_len n), valS_eq, bytesS_wS n h]
  congr 1; omega
theorem unbytesS_in (l : List UInt8) : InR (unbytesS l).1 := by
  unfold unbytesS
  split
  · rename_i h
    have := wS_bd l
    rw [h] at this
    simp only [Int.reducePow] at this
    rw [valS_eq]; unfold InR; simp only; omega
  · unfold InR; simp only; omega
theorem bytes_unbytes (l : List UInt8) (h : (unbytesS l).2 = 0) : bytesS (unbytesS l).1 = l := by
  have hin := unbytesS_in l
  have h8 : l.length = 8 := by
    unfold unbytesS at h
    split at h
    · assumption
    · simp at h
  refine eq_wS _ _ (by rw [h8]; rfl) ?_
  rw [bytesS_wS _ hin]
  unfold unbytesS
  rw [if_pos h8, valS_eq]; simp only; omega

def up0 (c : UInt8) : Int := IntKind.u64.wrap (IntKind.u64.wrap (c.toNat : Int))
def up2 (x : Int) (c : UInt8) : Int := IntKind.u64.wrap (IntKind.u64.wrap (256 * x) + IntKind.u64.wrap (c.toNat : Int))
theorem up2_eq (x : Int) (c : UInt8) (h0 : 0 ≤ x) (h1 : x < 72057594037927936) : up2 x c = x * 256 + c.toNat := by
  have hc : c.toNat < 256 := c.toNat_lt
  unfold up2
  rw [u64_in (256 * x) (by omega) (by omega), u64_in (c.toNat : Int) (by omega) (by omega), u64_in _ (by omega) (by omega)]
  omega
theorem up0_eq (c : UInt8) : up0 c = c.toNat := by
  have hc : c.toNat < 256 := c.toNat_lt
  unfold up0
  rw [u64_in (c.toNat : Int) (by omega) (by omega), u64_in (c.toNat : Int) (by omega) (by omega)]
theorem up8 (c0 c1 c2 c3 c4 c5 c6 c7 : UInt8) :
    wrap64 (IntKind.u64.wrap (up2 (up2 (up2 (up2 (up2 (up2 (up2 (up0 c0) c1) c2) c3) c4) c5) c6) c7 - 9223372036854775808)) = valS [c0, c1, c2, c3, c4, c5, c6, c7] - 9223372036854775808 := by
  have h0 : c0.toNat < 256 := c0.toNat_lt
  have h1 : c1.toNat < 256 := c1.toNat_lt
  have h2 : c2.toNat < 256 := c2.toNat_lt
  have h3 : c3.toNat < 256 := c3.toNat_lt
  have h4 : c4.toNat < 256 := c4.toNat_lt
  have h5 : c5.toNat < 256 := c5.toNat_lt
  have h6 : c6.toNat < 256 := c6.toNat_lt
  have h7 : c7.toNat < 256 := c7.toNat_lt
  rw [up0_eq, up2_eq _ c1 (by omega) (by omega), up2_eq _ c2 (by omega) (by omega), up2_eq _ c3 (by omega) (by omega), up2_eq _ c4 (by omega) (by omega),
    up2_eq _ c5 (by omega) (by omega), up2_eq _ c6 (by omega) (by omega), up2_eq _ c7 (by omega) (by omega)]
  simp only [valS, List.foldl_cons, List.foldl_nil]
  rw [IntKind.wrap_u64]
  unfold wrap64
  omega
end Go.Proofs.YtgdlkaoadlipmaaDoor

/- Layer 1: the document's own digits, and its own reading of them. -/
namespace Go.Proofs.YtgdlkaoadlipmaaDoor
open Go.RowKit

/-- A list of one byte as a text: by what its cell holds. -/
theorem old_cell {W w1 : World} (hb : Below W.heap.size W w1) (b o : Nat) (h : b < W.heap.size) : w1.cell? ⟨b, o, none⟩ = W.cell? ⟨b, o, none⟩ := hb.cell (p := ⟨b, o, none⟩) h
noncomputable def cv1X (w : World) (a : Addr) : Result Value := (convert 45 9 (.slice (some a) 1 1)).run Tryd.prog w
open Classical in
noncomputable def cv1 (w : World) (a : Addr) (c : Option Value) : Result Value := if ∃ v, 0 ≤ v ∧ v < 256 ∧ c = some (.int .u8 v) then
  match c with
  | some (.int .u8 v) => .ok (.string ⟨#[bt8 v]⟩) w
  | _ => cv1X w a
  else cv1X w a
theorem cv1_run (w : World) (a : Addr) : (convert 45 9 (.slice (some a) 1 1)).run Tryd.prog w = cv1 w a (w.cell? a) := by
  unfold cv1
  split
  · rename_i h
    obtain ⟨v, h0, h1, hc⟩ := h
    rw [hc]
    have := run_convert_bytes_back (P := Tryd.prog) w 45 9 5 a 1 [bt8 v] Tryd.underlying45 Tryd.underlying5 Tryd.underlying9 (fun j hj => by
      have hj' : j = 0 := by simp at hj; exact hj
      subst hj'
      rw [show a.add 0 = a from by simp [Addr.add], hc]
      simp [bt8_toNat]; omega)
    exact this
  · rfl
theorem cv1_at (w : World) (a : Addr) (v : Int) (h0 : 0 ≤ v) (h1 : v < 256) : cv1 w a (some (.int .u8 v)) = .ok (.string ⟨#[bt8 v]⟩) w := by
  unfold cv1
  rw [if_pos ⟨v, h0, h1, rfl⟩]

theorem bt8_dch (d : Nat) (h : d < 10) : bt8 (48 + (d : Int)) = dch d := by
  refine UInt8.toNat_inj.1 ?_
  have := bt8_toNat (48 + (d : Int))
  rw [dch_toNat d h]; omega

theorem itoa_small (n : Int) (h0 : 0 ≤ n) (h1 : n < 10) : Lib.itoa n = [bt8 (48 + n)] := by
  obtain ⟨d, rfl⟩ := Int.eq_ofNat_of_zero_le h0
  unfold Lib.itoa
  rw [if_neg (by omega), Int.toNat_natCast, dec_small d (by omega), bt8_dch d (by omega)]
theorem itoa_big (q r : Int) (h0 : 1 ≤ q) (h1 : 0 ≤ r) (h2 : r < 10) : Lib.itoa (10 * q + r) = Lib.itoa q ++ [bt8 (48 + r)] := by
  obtain ⟨k, rfl⟩ := Int.eq_ofNat_of_zero_le (show 0 ≤ q by omega)
  obtain ⟨d, rfl⟩ := Int.eq_ofNat_of_zero_le h1
  unfold Lib.itoa
  rw [if_neg (by omega), if_neg (by omega), show (10 * (k : Int) + (d : Int)).toNat = 10 * k + d by omega, Int.toNat_natCast, dec_big _ (by omega), bt8_dch d (by omega),
    show (10 * k + d) / 10 = k by omega, show (10 * k + d) % 10 = d by omega]
theorem itoa_neg (n : Int) (h : n < 0) : Lib.itoa n = 45 :: Lib.itoa (-n) := by
  unfold Lib.itoa
  rw [if_pos h, if_neg (by omega), show (-n).toNat = n.natAbs by omega]
theorem cat_mk (l r : List UInt8) : (⟨l.toArray⟩ : ByteArray) ++ ⟨r.toArray⟩ = ⟨(l ++ r).toArray⟩ := by
  apply ByteArray.ext
  simp [ByteArray.data_append]

end Go.Proofs.YtgdlkaoadlipmaaDoor
