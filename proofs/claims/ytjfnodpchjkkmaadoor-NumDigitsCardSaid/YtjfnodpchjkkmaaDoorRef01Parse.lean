/- Layer 1: the document's own reading of digits. -/
import Derived.Test.YtjfnodpchjkkmaaDoorTextPure
import Derived.Test.YtjfnodpchjkkmaaDoorRef01Walks
namespace Go.Proofs.YtjfnodpchjkkmaaDoor
open Go.RowKit

/-- A whole number's digits. -/
def okS (l : List UInt8) : Bool :=
  match l with
  | [] => false
  | c :: r => if c.toNat = 45 then plainS r && r != [48] else plainS (c :: r)
def offS (l : List UInt8) : Nat := match l with | [] => 0 | c :: _ => if c.toNat = 45 then 1 else 0
theorem parseS_ok (l : List UInt8) (h : okS l = true) : parseS l = signedS (l.drop (offS l)) (offS l == 1) := by
  cases l with
  | nil => simp [okS] at h
  | cons c r =>
    rw [parseS_cons]
    simp only [okS, offS] at h ⊢
    by_cases hc : c.toNat = 45
    · rw [if_pos hc] at h
      simp only [Bool.and_eq_true, bne_iff_ne] at h
      rw [if_pos hc, if_pos hc, if_neg h.2, if_pos h.1]; rfl
    · rw [if_neg hc] at h
      rw [if_neg hc, if_neg hc, if_pos h]; rfl
theorem parseS_no (l : List UInt8) (h : okS l = false) : parseS l = (0, 2) := by
  cases l with
  | nil => rfl
  | cons c r =>
    rw [parseS_cons]
    simp only [okS] at h
    by_cases hc : c.toNat = 45
    · rw [if_pos hc] at h
      rw [if_pos hc]
      by_cases h48 : r = [48]
      · rw [if_pos h48]
      · rw [if_neg h48]
        have : plainS r = false := by
          rw [Bool.and_eq_false_iff] at h
          rcases h with h | h
          · exact h
          · simp [h48] at h
        rw [this]; rfl
    · rw [if_neg hc] at h
      rw [if_neg hc, h]; rfl
theorem okS_all (l : List UInt8) (h : okS l = true) : (l.drop (offS l)).all dgt = true := by
  cases l with
  | nil => rfl
  | cons c r =>
    simp only [okS, offS] at h ⊢
    by_cases hc : c.toNat = 45
    · rw [if_pos hc] at h ⊢
      simp only [Bool.and_eq_true] at h
      exact plainS_all h.1
    · rw [if_neg hc] at h ⊢
      exact plainS_all h
/-- Behind a hyphen. -/
theorem okS_neg (s : ByteArray) (h0 : 0 < s.size) (hc : s[0].toNat = 45) : okS s.data.toList = ((s.extract 1 s.size).data.toList.all dgt && (match (s.extract 1 s.size).data.toList with | [] => false | d :: _ => d.toNat != 48)) := by
  rw [cons_tail s h0]
  simp only [okS]
  rw [if_pos hc]
  cases hr : (s.extract 1 s.size).data.toList with
  | nil => rfl
  | cons d r =>
    have he : (some d == some (48 : UInt8)) = (d.toNat == 48) := by
      rw [Bool.eq_iff_iff]; simp
      exact ⟨fun e => by rw [e]; rfl, fun e => UInt8.toNat_inj.1 e⟩
    unfold plainS
    simp only [List.isEmpty_cons, Bool.not_false, Bool.true_and, List.head?_cons, he]
    by_cases hd : d.toNat = 48
    · have hd' : d = 48 := UInt8.toNat_inj.1 hd
      cases r with
      | nil => simp [hd']
      | cons e r => simp [hd]
    · have hd' : d ≠ 48 := fun e => hd (by rw [e]; rfl)
      have h1 : (d.toNat == 48) = false := beq_eq_false_iff_ne.2 hd
      have h2 : (d :: r != [48]) = true := by
        rw [bne_iff_ne]; intro e; injection e with e1 _; exact hd' e1
      have h3 : (d.toNat != 48) = true := bne_iff_ne.2 hd
      rw [h1, h2, h3]; simp
theorem okS_pos (s : ByteArray) (h0 : 0 < s.size) (hc : ¬ s[0].toNat = 45) : okS s.data.toList = plainS s.data.toList := by
  rw [cons_tail s h0]
  simp only [okS]
  rw [if_neg hc]
theorem get_tail (s : ByteArray) (h : 1 < s.size) : (s.extract 1 s.size).data.toList = s[1] :: s.data.toList.drop 2 := by
  have h1 := cons_tail s (by omega)
  have h2 : (s.extract 1 s.size).data.toList = s.data.toList.drop 1 := by rw [h1]; rfl
  rw [h2]
  have h3 : 1 < s.data.toList.length := by rw [len_toList]; exact h
  exact List.drop_eq_getElem_cons h3
theorem mem_get (s : ByteArray) (k : Nat) (h : k < s.size) (p : UInt8 → Bool) (j : Nat) (hj : j ≤ k) (ha : (s.data.toList.drop j).all p = true) : p s[k] = true := by
  rw [List.all_eq_true] at ha
  refine ha _ ?_
  have h1 : k < s.data.toList.length := by rw [len_toList]; exact h
  have h2 : s[k] = s.data.toList[k] := rfl
  rw [h2, List.mem_iff_getElem]
  exact ⟨k - j, by rw [List.length_drop]; omega, by rw [List.getElem_drop]; congr 1; omega⟩
theorem take_drop_snoc (s : ByteArray) (j k : Nat) (hj : j ≤ k) (h : k < s.size) : (s.data.toList.take (k + 1)).drop j = (s.data.toList.take k).drop j ++ [s[k]] := by
  rw [take_snoc s k h, List.drop_append_of_le_length]
  rw [List.length_take, len_toList]; omega

set_option maxHeartbeats 1000000 in
/-- The loop: from j on all are digits. -/
theorem ref_word_pos (s : ByteArray) (w : World) (hs : s.size ≤ maxLen) (h0 : 0 < s.size) (hc : ¬ s[0].toNat = 45) : Calls Tryd.prog 37 #[.string s] w fun e w' => e = .returned (.bool (okS s.data.toList)) ∧ w = w' := by
  unfold maxLen at hs
  rw [okS_pos s h0 hc]
  have hc1 : ((s[0].toNat : Int) == 45) = false := beq_eq_false_iff_ne.2 (by omega)
  have hc2 : ¬ (s[0].toNat : Int) = 45 := by omega
  have hz : ((s.size : Int) == 0) = false := beq_eq_false_iff_ne.2 (by omega)
  have hz2 : ((0 : Int) == s.size) = false := beq_eq_false_iff_ne.2 (by omega)
  by_cases h1 : s[0].toNat = 48 ∧ 1 < s.size
  · have H : Hid (plainS s.data.toList = false) := by
      show _ = _
      rw [plainS_of s h0, h1.1]; simp [h1.2]
    obtain ⟨h1, h2⟩ := h1
    have h1' : (s[0].toNat : Int) = 48 := by omega
    clear h1 hc
    go_enter Tryd.func37, Tryd.ntmps37
    go_wp2
    all_goals
      go_ret
      exact ⟨by rw [H.out]; rfl, rfl⟩
  · have H : Hid (plainS s.data.toList = (s.data.toList.drop 0).all dgt) := by
      show _ = _
      rw [List.drop_zero, plainS_of s h0]
      by_cases h2 : s[0].toNat = 48
      · simp [show ¬ 1 < s.size from fun h => h1 ⟨h2, h⟩]
      · simp [h2]
    have HC : Hid ((s[0].toNat : Int) = 48 ∧ s.size ≤ 1 ∨ ¬ (s[0].toNat : Int) = 48) := by
      show _ ∨ _
      by_cases h2 : s[0].toNat = 48
      · exact .inl ⟨by omega, by omega⟩
      · exact .inr (by omega)
    clear h1 hc
    rcases HC.out with ⟨h1, h2⟩ | h1
    all_goals
      clear HC
      go_enter Tryd.func37, Tryd.ntmps37
      go_wp2
      go_loop [4] (fun i => ∃ k : Nat, 0 ≤ k ∧ k ≤ s.size ∧ i = .int .i64 k ∧ ((s.data.toList.take k).drop 0).all dgt = true) (fun i => s.size - (intOf i).toNat)
      case atStart => exact ⟨0, Nat.le_refl _, by omega, rfl, by rw [List.drop_eq_nil_of_le (by rw [List.length_take]; omega)]; rfl⟩
      case round =>
        obtain ⟨k, hj, hk, rfl, hall⟩ := hrel
        have HA := Lib.hid hall
        clear hall
        by_cases hlt : k < s.size
        · have hts := take_drop_snoc s 0 k hj hlt
          by_cases hd : 48 ≤ (s[k].toNat : Int) ∧ (s[k].toNat : Int) ≤ 57
          · have HS : Hid (((s.data.toList.take (k + 1)).drop 0).all dgt = true) := by
              show _ = _
              rw [hts, List.all_append, HA.out]; simp; exact (dgt_iff _).2 hd
            obtain ⟨hd1, hd2⟩ := hd
            clear hts
            go_wp2
            go_round
            case rel => exact ⟨k + 1, by omega, by omega, by go_num, HS.out⟩
            case measure => simp [intOf]; omega
          · have HS : Hid ((s.data.toList.drop 0).all dgt = false) := by
              show _ = _
              rw [Bool.eq_false_iff]
              intro h
              exact hd ((dgt_iff _).1 (mem_get s k hlt dgt 0 hj h))
            clear hts
            by_cases hd1 : 48 ≤ (s[k].toNat : Int)
            · have hd2 : 57 < (s[k].toNat : Int) := by omega
              clear hd
              go_wp2
              go_ret
              exact ⟨by rw [H.out, HS.out]; rfl, rfl⟩
            · have hd2 : (s[k].toNat : Int) < 48 := by omega
              clear hd hd1
              go_wp2
              go_ret
              exact ⟨by rw [H.out, HS.out]; rfl, rfl⟩
        · have HS : Hid ((s.data.toList.drop 0).all dgt = true) := by
            show _ = _
            have := HA.out
            rwa [List.take_of_length_le (by rw [len_toList]; omega)] at this
          go_wp2
          go_ret
          exact ⟨by rw [H.out, HS.out]; rfl, rfl⟩

set_option maxHeartbeats 1000000 in
theorem ref_word_neg (s : ByteArray) (w : World) (hs : s.size ≤ maxLen) (h0 : 0 < s.size) (hc : s[0].toNat = 45) : Calls Tryd.prog 37 #[.string s] w fun e w' => e = .returned (.bool (okS s.data.toList)) ∧ w = w' := by
  unfold maxLen at hs
  have hc1 : (s[0].toNat : Int) = 45 := by omega
  have H0 := okS_neg s h0 hc
  clear hc
  by_cases h1 : 1 < s.size
  · rw [get_tail s h1] at H0
    have hz : ((1 : Int) == s.size) = false := beq_eq_false_iff_ne.2 (by omega)
    by_cases h2 : s[1].toNat = 48
    · have H : Hid (okS s.data.toList = false) := by
        show _ = _
        rw [H0]; simp [h2]
      have h2' : (s[1].toNat : Int) = 48 := by omega
      clear h2 H0
      go_enter Tryd.func37, Tryd.ntmps37
      go_wp2
      all_goals
        go_ret
        exact ⟨by rw [H.out]; rfl, rfl⟩
    · have H : Hid (okS s.data.toList = (s.data.toList.drop 1).all dgt) := by
        show _ = _
        have h3 : (s.data.toList.drop 1) = s[1] :: s.data.toList.drop 2 := by
          rw [← get_tail s h1]
          have := cons_tail s h0
          rw [this]; rfl
        rw [H0, h3]; simp [h2]
      have h2' : ¬ (s[1].toNat : Int) = 48 := by omega
      clear h2 H0
      go_enter Tryd.func37, Tryd.ntmps37
      go_wp2
      go_loop [4] (fun i => ∃ k : Nat, 1 ≤ k ∧ k ≤ s.size ∧ i = .int .i64 k ∧ ((s.data.toList.take k).drop 1).all dgt = true) (fun i => s.size - (intOf i).toNat)
      case atStart => exact ⟨1, Nat.le_refl _, by omega, rfl, by rw [List.drop_eq_nil_of_le (by rw [List.length_take]; omega)]; rfl⟩
      case round =>
        obtain ⟨k, hj, hk, rfl, hall⟩ := hrel
        have HA := Lib.hid hall
        clear hall
        by_cases hlt : k < s.size
        · have hts := take_drop_snoc s 1 k hj hlt
          by_cases hd : 48 ≤ (s[k].toNat : Int) ∧ (s[k].toNat : Int) ≤ 57
          · have HS : Hid (((s.data.toList.take (k + 1)).drop 1).all dgt = true) := by
              show _ = _
              rw [hts, List.all_append, HA.out]; simp; exact (dgt_iff _).2 hd
            obtain ⟨hd1, hd2⟩ := hd
            clear hts
            go_wp2
            go_round
            case rel => exact ⟨k + 1, by omega, by omega, by go_num, HS.out⟩
            case measure => simp [intOf]; omega
          · have HS : Hid ((s.data.toList.drop 1).all dgt = false) := by
              show _ = _
              rw [Bool.eq_false_iff]
              intro h
              exact hd ((dgt_iff _).1 (mem_get s k hlt dgt 1 hj h))
            clear hts
            by_cases hd1 : 48 ≤ (s[k].toNat : Int)
            · have hd2 : 57 < (s[k].toNat : Int) := by omega
              clear hd
              go_wp2
              go_ret
              exact ⟨by rw [H.out, HS.out]; rfl, rfl⟩
            · have hd2 : (s[k].toNat : Int) < 48 := by omega
              clear hd hd1
              go_wp2
              go_ret
              exact ⟨by rw [H.out, HS.out]; rfl, rfl⟩
        · have HS : Hid ((s.data.toList.drop 1).all dgt = true) := by
            show _ = _
            have := HA.out
            rwa [List.take_of_length_le (by rw [len_toList]; omega)] at this
          go_wp2
          go_ret
          exact ⟨by rw [H.out, HS.out]; rfl, rfl⟩
  · have H : Hid (okS s.data.toList = false) := by
      show _ = _
      have h2 : (s.extract 1 s.size).data.toList = [] := List.eq_nil_of_length_eq_zero (by rw [len_toList, ByteArray.size_extract]; omega)
      rw [H0, h2]; rfl
    have hz : (s.size : Int) = 1 := by omega
    have hz2 : ((1 : Int) == s.size) = true := beq_iff_eq.2 (by omega)
    clear h1 H0
    go_enter Tryd.func37, Tryd.ntmps37
    go_wp2
    all_goals
      go_ret
      exact ⟨by rw [H.out]; rfl, rfl⟩

set_option maxHeartbeats 1000000 in
theorem ref_word (s : ByteArray) (w : World) (hs : s.size ≤ maxLen) : Calls Tryd.prog 37 #[.string s] w fun e w' => e = .returned (.bool (okS s.data.toList)) ∧ w = w' := by
  by_cases h0 : 0 < s.size
  · by_cases hc : s[0].toNat = 45
    · exact ref_word_neg s w hs h0 hc
    · exact ref_word_pos s w hs h0 hc
  · have H : Hid (okS s.data.toList = false) := by
      show _ = _
      have : s.data.toList = [] := List.eq_nil_of_length_eq_zero (by rw [len_toList]; omega)
      rw [this]; rfl
    have hz : (s.size : Int) = 0 := by omega
    have hz2 : s.size = 0 := by omega
    clear h0 hs
    go_enter Tryd.func37, Tryd.ntmps37
    go_wp2
    all_goals
      go_ret
      exact ⟨by rw [H.out]; rfl, rfl⟩

theorem tdiv10 (n d : Int) (h1 : 0 ≤ d) (h2 : d ≤ 9) : (-9223372036854775808 + d).tdiv 10 ≤ -n ↔ 10 * n + d ≤ 9223372036854775808 := by
  have h : (-9223372036854775808 + d).tdiv 10 = -((9223372036854775808 - d) / 10) := by
    rw [show -9223372036854775808 + d = -(9223372036854775808 - d) by omega, Int.neg_tdiv, Int.tdiv_eq_ediv_of_nonneg (by omega)]
  rw [h]; omega
theorem offS_get (s : ByteArray) (h0 : 0 < s.size) : offS s.data.toList = if s[0].toNat = 45 then 1 else 0 := by
  rw [cons_tail s h0]; rfl
set_option maxHeartbeats 2000000 in
theorem ref_Parse_ok (s : ByteArray) (w : World) (hs : s.size ≤ maxLen) (hok : okS s.data.toList = true) : Calls Tryd.prog 22 #[.string s] w fun e w' => e = .returned (.tuple #[.int .i64 (parseS s.data.toList).1, .int .i64 (parseS s.data.toList).2]) ∧ w = w' := by
  have hs2 := hs
  unfold maxLen at hs2
  have h0 : 0 < s.size := by
    rcases Nat.eq_zero_or_pos s.size with h | h
    · have : s.data.toList = [] := List.eq_nil_of_length_eq_zero (by rw [len_toList]; exact h)
      rw [this] at hok; cases hok
    · exact h
  have HO := Lib.hid (offS_get s h0)
  have HD := Lib.hid (okS_all _ hok)
  have HP := Lib.hid (parseS_ok _ hok)
  have HW := Lib.hid (ref_word s w hs)
  have hok2 := hok
  clear hok hs
  obtain ⟨j, hj⟩ : ∃ j, offS s.data.toList = j := ⟨_, rfl⟩
  rw [hj] at HO HD HP
  clear hj
  go_enter Tryd.func22, Tryd.ntmps22
  go_wp2_with fail
  refine HW.out.mono ?_
  rintro e w' ⟨rfl, rfl⟩
  go_wp2_with fail
  go_loop [4, 12] (fun n i => ∃ k : Nat, k ≤ s.size ∧ i = .int .i64 k ∧ n = .int .i64 (-numS ((s.data.toList.take k).drop j)) ∧ InR (-numS ((s.data.toList.take k).drop j))) (fun _ i => s.size - (intOf i).toNat)
  case atStart => exact ⟨0, Nat.zero_le _, rfl, by simp [numS], by simp [numS, InR]⟩
  case round =>
    obtain ⟨k, hk, rfl, rfl, hin⟩ := hrel
    by_cases hlt : k < s.size
    · by_cases hc : (s[k].toNat : Int) = 45
      · have hk0 : k + 1 ≤ j := by
          by_cases h : k + 1 ≤ j
          · exact h
          · exfalso
            have := (dgt_iff _).1 (mem_get s k hlt dgt j (by omega) HD.out)
            omega
        have HN : Hid (numS ((s.data.toList.take (k + 1)).drop j) = numS ((s.data.toList.take k).drop j)) := by
          show _ = _
          rw [List.drop_eq_nil_of_le (by rw [List.length_take]; omega), List.drop_eq_nil_of_le (by rw [List.length_take]; omega)]
        go_wp2_with fail
        go_round
        case rel => exact ⟨k + 1, by omega, by go_num, by rw [HN.out], by rw [HN.out]; exact hin⟩
        case measure => simp [intOf]; omega
      · have hkj : j ≤ k := by
          by_cases h : j ≤ k
          · exact h
          · exfalso
            have := HO.out
            split at this
            · have hk0 : k = 0 := by omega
              subst hk0
              omega
            · omega
        have hts := take_drop_snoc s j k hkj hlt
        have HC : Hid (48 ≤ (s[k].toNat : Int) ∧ (s[k].toNat : Int) ≤ 57) := (dgt_iff _).1 (mem_get s k hlt dgt j hkj HD.out)
        have HS : Hid (numS ((s.data.toList.take (k + 1)).drop j) = 10 * numS ((s.data.toList.take k).drop j) + ((s[k].toNat : Int) - 48)) := by
          show _ = _
          rw [hts, numS_snoc]
        clear hts
        obtain ⟨n, hn⟩ : ∃ n, numS ((s.data.toList.take k).drop j) = n := ⟨_, rfl⟩
        rw [hn] at HS hin ⊢
        have HE := Lib.hid hn
        clear hn
        have hc1 := HC.out.1
        have hc2 := HC.out.2
        have hu : IntKind.u8.wrap ((s[k].toNat : Int) - 48) = (s[k].toNat : Int) - 48 := by rw [IntKind.wrap_u8]; omega
        have HNN : Hid (0 ≤ n) := by
          show 0 ≤ n
          rw [← HE.out]
          refine numS_nn _ ?_
          have h := HD.out
          rw [List.all_eq_true] at h ⊢
          intro x hx
          refine h x ?_
          rw [List.drop_take] at hx
          exact List.mem_of_mem_take hx
        have HT := Lib.hid (tdiv10 n ((s[k].toNat : Int) - 48) (by omega) (by omega))
        by_cases hB : 10 * n + ((s[k].toNat : Int) - 48) ≤ 9223372036854775808
        · have ht := HT.out.2 hB
          have HB : Hid (InR (-(10 * n + ((s[k].toNat : Int) - 48)))) := by
            have := HNN.out
            show InR _
            unfold InR; omega
          have hm1 : wrap64 (10 * -n) = 10 * -n := by
            have := HNN.out
            exact wrap_in _ (by unfold InR; omega)
          have hm2 : wrap64 (10 * -n - ((s[k].toNat : Int) - 48)) = 10 * -n - ((s[k].toNat : Int) - 48) := by
            have := HNN.out
            exact wrap_in _ (by unfold InR; omega)
          clear hB
          go_wp2_with fail
          go_round
          case rel =>
            have hx := HS.out
            exact ⟨k + 1, by omega, by go_num, by rw [hx, hm2]; congr 1; omega, by rw [hx]; exact HB.out⟩
          case measure => simp [intOf]; omega
        · have ht : -n < (-9223372036854775808 + ((s[k].toNat : Int) - 48)).tdiv 10 := by
            have := HT.out
            omega
          have HF : Hid (parseS s.data.toList = (0, 4)) := by
            show _ = _
            rw [HP.out]
            refine signedS_out _ HD.out (fun h => hB ?_) _
            have h1 : numS ((s.data.toList.take (k + 1)).drop j) ≤ numS (s.data.toList.drop j) := by
              have h2 : s.data.toList.drop j = (s.data.toList.take (k + 1)).drop j ++ s.data.toList.drop (k + 1) := by
                conv => lhs; rw [← List.take_append_drop (k + 1) s.data.toList]
                rw [List.drop_append_of_le_length (by rw [List.length_take, len_toList]; omega)]
              have h3 := HD.out
              rw [h2, List.all_append, Bool.and_eq_true] at h3
              rw [h2]
              exact numS_app _ _ h3.1 h3.2
            have := HS.out
            unfold InR at h; omega
          clear hB
          go_wp2_with fail
          go_ret2
          exact ⟨by rw [HF.out]; rfl, rfl⟩
    · have hl : s.data.toList.take k = s.data.toList := List.take_of_length_le (by rw [len_toList]; omega)
      rw [hl] at hin ⊢
      clear hl
      obtain ⟨n, hn⟩ : ∃ n, numS (s.data.toList.drop j) = n := ⟨_, rfl⟩
      rw [hn] at hin ⊢
      have HE := Lib.hid hn
      clear hn
      have HNN : Hid (0 ≤ n) := by
        show 0 ≤ n
        rw [← HE.out]; exact numS_nn _ HD.out
      by_cases hc : s[0].toNat = 45
      · have hc1 : (s[0].toNat : Int) = 45 := by omega
        have HF : Hid (parseS s.data.toList = (-n, 0)) := by
          show _ = _
          have := HO.out
          rw [if_pos hc] at this
          rw [HP.out, this]
          show chk _ = _
          rw [← this, HE.out]; exact chk_in hin
        clear hc
        go_wp2_with fail
        go_ret2
        exact ⟨by rw [HF.out]; rfl, rfl⟩
      · have hc1 : ((s[0].toNat : Int) == 45) = false := beq_eq_false_iff_ne.2 (by omega)
        have HJ : Hid (parseS s.data.toList = chk n) := by
          show _ = _
          have := HO.out
          rw [if_neg hc] at this
          rw [HP.out, this]
          show chk _ = _
          rw [← this, HE.out]
        have hc2 : ¬ (s[0].toNat : Int) = 45 := by omega
        clear hc
        by_cases hm : n = 9223372036854775808
        · subst hm
          have HF : Hid (chk 9223372036854775808 = (0, 4)) := chk_out (by unfold InR; omega)
          go_wp2_with fail
          go_ret2
          exact ⟨by rw [HJ.out, HF.out]; rfl, rfl⟩
        · have hm1 : (-n == -9223372036854775808) = false := beq_eq_false_iff_ne.2 (by omega)
          have hm3 : (n == 9223372036854775808) = false := beq_eq_false_iff_ne.2 hm
          have HI : Hid (InR n) := by
            have := HNN.out
            show InR n
            unfold InR at *; omega
          have hm2 : wrap64 n = n := wrap_in _ HI.out
          have HF : Hid (chk n = (n, 0)) := chk_in HI.out
          go_wp2_with fail
          go_ret2
          exact ⟨by rw [HJ.out, HF.out]; rfl, rfl⟩

set_option maxHeartbeats 1000000 in
theorem ref_Parse (s : ByteArray) (w : World) (hs : s.size ≤ maxLen) : Calls Tryd.prog 22 #[.string s] w fun e w' => e = .returned (.tuple #[.int .i64 (parseS s.data.toList).1, .int .i64 (parseS s.data.toList).2]) ∧ w = w' := by
  by_cases hok : okS s.data.toList = true
  · exact ref_Parse_ok s w hs hok
  · have hok2 : okS s.data.toList = false := by simpa using hok
    have H := Lib.hid (parseS_no _ hok2)
    have HW := Lib.hid (ref_word s w hs)
    clear hok hs
    go_enter Tryd.func22, Tryd.ntmps22
    go_wp2_with fail
    refine HW.out.mono ?_
    rintro e w' ⟨rfl, rfl⟩
    go_wp2_with fail
    go_ret2
    exact ⟨by rw [H.out]; rfl, rfl⟩
end Go.Proofs.YtjfnodpchjkkmaaDoor
