/- Layer 1: each law's walk: it returns true. -/
import Derived.Test.YtjfnodpchjkkmaaDoorLaw01Live
import Derived.Test.YtjfnodpchjkkmaaDoorRef01Bytes
import Derived.Test.YtjfnodpchjkkmaaDoorTextPure
import Derived.Sort.Walk0
namespace Go.Proofs.YtjfnodpchjkkmaaDoor
open Go.RowKit

set_option maxHeartbeats 2000000 in
theorem numSums_walk (a b : Int) (ha : InR a) (hb : InR b) (w : World) (htab : Tab w) : Calls Tryd.prog 3 #[.int .i64 a, .int .i64 b] w fun e w' => e = .returned (.bool true) ∧ Below w.heap.size w w' := by
  have HT := Lib.hid htab
  clear htab
  go_enter Tryd.func3, Tryd.ntmps3
  go_wp2_with (first
    | (go_at_call 10; refine (num_Add _ _ _ ha hb).mono ?_; rintro e w' ⟨rfl, rfl⟩)
    | (go_at_call 11; refine (ref_Add _ _ _ ha hb).mono ?_; rintro e w' ⟨rfl, rfl⟩)
    | (go_at_call 12; refine (num_Sub _ _ _ ha hb).mono ?_; rintro e w' ⟨rfl, rfl⟩)
    | (go_at_call 13; refine (ref_Sub _ _ _ ha hb).mono ?_; rintro e w' ⟨rfl, rfl⟩)
    | (go_at_call 14; refine (live_any _ HT.out).mono ?_; rintro e w1 ⟨rfl, hb1⟩; have H1 := Lib.hid hb1; clear hb1))
  go_ret
  exact ⟨rfl, H1.out⟩

theorem Quiet.chain {w w1 w2 : World} (h1 : Quiet w w1) (h2 : Below w1.heap.size w1 w2) : Below w.heap.size w w2 := Below.chain h1.below h2
theorem Tab.quiet {w w1 : World} (h : Tab w) (h1 : Quiet w w1) : Tab w1 := h.below h1.below

set_option maxHeartbeats 2000000 in
theorem numProducts_walk (a b : Int) (ha : InR a) (hb : InR b) (w : World) (htab : Tab w) : Calls Tryd.prog 4 #[.int .i64 a, .int .i64 b] w fun e w' => e = .returned (.bool true) ∧ Below w.heap.size w w' := by
  have HT := Lib.hid htab
  clear htab
  go_enter Tryd.func4, Tryd.ntmps4
  go_wp2_with (first
    | (go_at_call 15; refine (num_Mul _ _ _ ha hb).mono ?_; rintro e w' ⟨rfl, rfl⟩)
    | (go_at_call 16; refine (ref_Mul _ _ _ ha hb).mono ?_; rintro e w' ⟨rfl, rfl⟩)
    | (go_at_call 17; refine (num_Div _ _ _ ha hb).mono ?_; rintro e w' ⟨rfl, rfl⟩)
    | (go_at_call 18; refine (ref_Div _ _ _ ha hb).mono ?_; rintro e w1 ⟨rfl, hq⟩; have HQ := Lib.hid hq; clear hq)
    | (go_at_call 19; refine (num_Mod _ _ _ hb).mono ?_; rintro e w' ⟨rfl, rfl⟩)
    | (go_at_call 20; refine (ref_Mod _ _ _ hb).mono ?_; rintro e w' ⟨rfl, rfl⟩)
    | (go_at_call 14; refine (live_any _ (HT.out.quiet HQ.out)).mono ?_; rintro e w2 ⟨rfl, hb1⟩; have H1 := Lib.hid hb1; clear hb1))
  go_ret
  exact ⟨rfl, HQ.out.chain H1.out⟩

set_option maxHeartbeats 2000000 in
theorem numPlaces_walk (i n lo hi : Int) (h1 : InR i) (h2 : InR n) (h3 : InR lo) (h4 : InR hi) (w : World) (htab : Tab w) : Calls Tryd.prog 9 #[.int .i64 i, .int .i64 n, .agg #[.int .i64 lo, .int .i64 hi]] w fun e w' => e = .returned (.bool true) ∧ Below w.heap.size w w' := by
  have HT := Lib.hid htab
  clear htab
  have HB : Hid (∀ o, Below w.heap.size w (w.alloc o)) := fun o => (Below.refl _ _).alloc (Nat.le_refl _) o
  go_enter Tryd.func9, Tryd.ntmps9
  go_wp2_with (first
    | (go_at_call 29; refine (num_Place _ _ _ h1 h2).mono ?_; rintro e w' ⟨rfl, rfl⟩)
    | (go_at_call 30; refine (ref_Place _ _ _ h1 h2).mono ?_; rintro e w' ⟨rfl, rfl⟩)
    | (go_at_call 31; refine (num_Cut _ _ _ _ h3 h4 h2).mono ?_; rintro e w' ⟨rfl, rfl⟩)
    | (go_at_call 32; refine (ref_Cut _ _ _ _ h3 h4 h2).mono ?_; rintro e w' ⟨rfl, rfl⟩)
    | (go_at_call 14; refine (live_any _ (HT.out.below (HB.out _))).mono ?_; rintro e w2 ⟨rfl, hb1⟩; have H1 := Lib.hid hb1; clear hb1))
  go_ret
  exact ⟨rfl, Below.chain (HB.out _) H1.out⟩

theorem parts_eq (a b q m : Int) (ha : InR a) (h : q * b + m = a) : wrap64 (wrap64 (q * b) + m) = a := by
  have h1 : wrap64 (wrap64 (q * b) + m) = wrap64 (q * b + m) := by unfold wrap64; omega
  rw [h1, h, wrap_in a ha]
/-- Quotient and remainder of a divisor that is not nought. -/
theorem parts_of (a b : Int) (ha : InR a) (h0 : ¬ b = 0) : ∃ m, modS a b = (m, 0) ∧ (0 < b → 0 ≤ m ∧ m < b) ∧ (b < 0 → b < m ∧ m ≤ 0) ∧
    ((∃ q, divS a b = (q, 0) ∧ wrap64 (wrap64 (q * b) + m) = a) ∨ (divS a b = (0, 4) ∧ a = -9223372036854775808 ∧ b = -1)) := by
  refine ⟨a.fmod b, if_neg h0, (fmod_bd a b h0).1, (fmod_bd a b h0).2, ?_⟩
  by_cases hp : pm a b = true
  · exact .inr ⟨divS_pm hp, of_decide_eq_true hp⟩
  · have hp1 : pm a b = false := by simpa using hp
    have hin : InR (a.fdiv b) := by
      by_cases hu : us (a.tmod b) b = true
      · have := tdiv_us a b ha h0 hp1 hu
        rw [this.2]; exact this.1
      · have hu1 : us (a.tmod b) b = false := by simpa using hu
        rw [fdiv_of_tdiv a b h0, if_neg (of_decide_eq_false hu1)]
        exact tdiv_in a b ha h0 (of_decide_eq_false hp1)
    refine .inl ⟨a.fdiv b, ?_, ?_⟩
    · unfold divS; rw [if_neg h0]; exact chk_in hin
    · refine parts_eq a b _ _ ha ?_
      have := Int.mul_fdiv_add_fmod a b
      rw [Int.mul_comm] at this
      exact this

set_option maxHeartbeats 2000000 in
theorem numParts_walk (a b : Int) (ha : InR a) (hb : InR b) (w : World) (htab : Tab w) : Calls Tryd.prog 5 #[.int .i64 a, .int .i64 b] w fun e w' => e = .returned (.bool true) ∧ Below w.heap.size w w' := by
  have HT := Lib.hid htab
  clear htab
  by_cases h0 : b = 0
  · subst h0
    have hd : divS a 0 = (0, 9) := divS_zero a
    have hm : modS a 0 = (0, 9) := modS_zero a
    go_enter Tryd.func5, Tryd.ntmps5
    go_wp2_with (first
      | (go_at_call 17; refine (num_Div _ _ _ ha hb).mono ?_; rintro e w' ⟨rfl, rfl⟩)
      | (go_at_call 19; refine (num_Mod _ _ _ hb).mono ?_; rintro e w' ⟨rfl, rfl⟩))
    refine (live_any _ HT.out).mono ?_
    rintro e w1 ⟨rfl, hb1⟩
    have H1 := Lib.hid hb1; clear hb1
    go_wp2_with fail
    refine (live_any _ (HT.out.below H1.out)).mono ?_
    rintro e w2 ⟨rfl, hb2⟩
    have H2 := Lib.hid hb2; clear hb2
    go_wp2_with fail
    go_ret
    exact ⟨rfl, Below.chain H1.out H2.out⟩
  · obtain ⟨m, hm, hp, hn, hq⟩ := parts_of a b ha h0
    have hb0 : (b == 0) = false := beq_eq_false_iff_ne.2 h0
    rcases hq with ⟨q, hd, hw⟩ | ⟨hd, ha2, hb2⟩
    · by_cases h1 : 0 < b
      · obtain ⟨m1, m2⟩ := hp h1
        clear hn hp h0
        go_enter Tryd.func5, Tryd.ntmps5
        go_wp2_with (first
          | (go_at_call 17; refine (num_Div _ _ _ ha hb).mono ?_; rintro e w' ⟨rfl, rfl⟩)
          | (go_at_call 19; refine (num_Mod _ _ _ hb).mono ?_; rintro e w' ⟨rfl, rfl⟩)
          | (go_at_call 14; refine (live_any _ HT.out).mono ?_; rintro e w2 ⟨rfl, hb1⟩; have H1 := Lib.hid hb1; clear hb1))
        go_ret
        exact ⟨rfl, H1.out⟩
      · have h2 : b < 0 := by omega
        obtain ⟨m1, m2⟩ := hn h2
        clear hn hp h0 h1
        go_enter Tryd.func5, Tryd.ntmps5
        go_wp2_with (first
          | (go_at_call 17; refine (num_Div _ _ _ ha hb).mono ?_; rintro e w' ⟨rfl, rfl⟩)
          | (go_at_call 19; refine (num_Mod _ _ _ hb).mono ?_; rintro e w' ⟨rfl, rfl⟩)
          | (go_at_call 14; refine (live_any _ HT.out).mono ?_; rintro e w2 ⟨rfl, hb1⟩; have H1 := Lib.hid hb1; clear hb1))
        go_ret
        exact ⟨rfl, H1.out⟩
    · subst ha2
      subst hb2
      obtain ⟨m1, m2⟩ := hn (by omega)
      clear hn hp h0
      go_enter Tryd.func5, Tryd.ntmps5
      go_wp2_with (first
        | (go_at_call 17; refine (num_Div _ _ _ ha hb).mono ?_; rintro e w' ⟨rfl, rfl⟩)
        | (go_at_call 19; refine (num_Mod _ _ _ hb).mono ?_; rintro e w' ⟨rfl, rfl⟩)
        | (go_at_call 14; refine (live_any _ HT.out).mono ?_; rintro e w2 ⟨rfl, hb1⟩; have H1 := Lib.hid hb1; clear hb1))
      go_ret
      exact ⟨rfl, H1.out⟩

set_option maxHeartbeats 2000000 in
theorem numBytes_walk (a b : Int) (s : ByteArray) (ha : InR a) (hb : InR b) (hs : s.size ≤ maxLen) (w : World) (htab : Tab w) : Calls Tryd.prog 8 #[.int .i64 a, .int .i64 b, .string s] w fun e w' => e = .returned (.bool true) ∧ Below w.heap.size w w' := by
  have HT := Lib.hid htab
  clear htab
  have hs2 := hs
  unfold maxLen at hs2
  have HS := Lib.hid hs
  clear hs
  by_cases hl : (200 : Int) < s.size
  · go_enter Tryd.func8, Tryd.ntmps8
    go_wp2_with fail
    refine (live_any _ HT.out).mono ?_
    rintro e w1 ⟨rfl, hb1⟩
    have H1 := Lib.hid hb1; clear hb1
    go_wp2_with fail
    refine (live_any _ (HT.out.below H1.out)).mono ?_
    rintro e w2 ⟨rfl, hb2⟩
    have H2 := Lib.hid hb2; clear hb2
    go_wp2_with fail
    go_ret
    exact ⟨rfl, Below.chain H1.out H2.out⟩
  · go_enter Tryd.func8, Tryd.ntmps8
    go_wp2_with fail
    refine (live_any _ HT.out).mono ?_
    rintro e w1 ⟨rfl, hb1⟩
    have H1 := Lib.hid hb1; clear hb1
    go_wp2_with fail
    refine (num_Unbytes _ _ HS.out).mono ?_
    rintro e w' ⟨rfl, rfl⟩
    go_wp2_with fail
    refine (ref_Unbytes _ _ HS.out).mono ?_
    rintro e w' ⟨rfl, rfl⟩
    go_wp2_with fail
    refine (num_Bytes _ _ ha).mono ?_
    rintro e w2 ⟨rfl, hb2⟩
    have H2 := Lib.hid hb2; clear hb2
    go_wp2_with fail
    refine (ref_Bytes _ _ ha).mono ?_
    rintro e w3 ⟨rfl, hb3⟩
    have H3 := Lib.hid hb3; clear hb3
    go_wp2_with fail
    refine (num_Bytes _ _ ha).mono ?_
    rintro e w4 ⟨rfl, hb4⟩
    have H4 := Lib.hid hb4; clear hb4
    go_wp2_with fail
    refine (num_Bytes _ _ hb).mono ?_
    rintro e w5 ⟨rfl, hb5⟩
    have H5 := Lib.hid hb5; clear hb5
    go_wp2_with fail
    go_ret
    refine ⟨ret_bool ?_, Below.chain H1.out (Below.chain H2.out (Below.chain H3.out (Below.chain H4.out H5.out)))⟩
    rw [bytesLess_eq, show decide (bytesS a < bytesS b) = decide (a < b) from decide_eq_decide.2 (bytesS_lt a b ha hb)]
    exact beq_self_eq_true _

theorem bytes_eta (s : ByteArray) : (⟨s.data.toList.toArray⟩ : ByteArray) = s := by cases s; simp
theorem parseS_in (l : List UInt8) : InR (parseS l).1 := by
  have h0 : InR 0 := by unfold InR; omega
  have hc : ∀ n, InR (chk n).1 := fun n => by unfold chk; split <;> assumption
  cases l with
  | nil => exact h0
  | cons c r =>
    rw [parseS_cons]
    split
    · split
      · exact h0
      · split
        · exact hc _
        · exact h0
    · split
      · exact hc _
      · exact h0
theorem parse_digits (n : Int) (w : World) (hn : InR n) : Calls Tryd.prog 21 #[.string ⟨(Lib.itoa n).toArray⟩] w fun e w' => e = .returned (.tuple #[.int .i64 n, .int .i64 0]) ∧ w = w' := by
  have hl := Lib.itoa_length_le n hn.1 hn.2
  have h := num_Parse ⟨(Lib.itoa n).toArray⟩ w (by unfold maxLen; simp only [ByteArray.size, List.size_toArray]; omega)
  rw [show (ByteArray.data ⟨(Lib.itoa n).toArray⟩).toList = Lib.itoa n from rfl, parse_itoa n hn] at h
  exact h
theorem bytes_back (n : Int) (w : World) (hn : InR n) : Calls Tryd.prog 25 #[.string ⟨(bytesS n).toArray⟩] w fun e w' => e = .returned (.tuple #[.int .i64 n, .int .i64 0]) ∧ w = w' := by
  have h := num_Unbytes ⟨(bytesS n).toArray⟩ w (by unfold maxLen; simp only [ByteArray.size, List.size_toArray, bytesS_len]; omega)
  rw [show (ByteArray.data ⟨(bytesS n).toArray⟩).toList = bytesS n from rfl, unbytes_bytes n hn] at h
  exact h
theorem digits_again (s : ByteArray) (w : World) (htab : Tab w) (h : (parseS s.data.toList).2 = 0) : Calls Tryd.prog 23 #[.int .i64 (parseS s.data.toList).1] w fun e w' => e = .returned (.string s) ∧ Below w.heap.size w w' := by
  have h1 := num_Digits (parseS s.data.toList).1 w (parseS_in _) htab
  rw [itoa_parse _ h, bytes_eta] at h1
  exact h1
theorem bytes_again (s : ByteArray) (w : World) (h : (unbytesS s.data.toList).2 = 0) : Calls Tryd.prog 26 #[.int .i64 (unbytesS s.data.toList).1] w fun e w' => e = .returned (.string s) ∧ Below w.heap.size w w' := by
  have h1 := num_Bytes (unbytesS s.data.toList).1 w (unbytesS_in _)
  rw [bytes_unbytes _ h, bytes_eta] at h1
  exact h1

set_option maxHeartbeats 4000000 in
theorem numBack_walk (n : Int) (s : ByteArray) (hn : InR n) (hs : s.size ≤ maxLen) (w : World) (htab : Tab w) : Calls Tryd.prog 7 #[.int .i64 n, .string s] w fun e w' => e = .returned (.bool true) ∧ Below w.heap.size w w' := by
  have HT := Lib.hid htab
  clear htab
  have hs2 := hs
  unfold maxLen at hs2
  have HS := Lib.hid hs
  clear hs
  by_cases hl : (200 : Int) < s.size
  · go_enter Tryd.func7, Tryd.ntmps7
    go_wp2_with fail
    refine (live_any _ HT.out).mono ?_
    rintro e w1 ⟨rfl, hb1⟩
    have H1 := Lib.hid hb1; clear hb1
    go_wp2_with fail
    refine (live_any _ (HT.out.below H1.out)).mono ?_
    rintro e w2 ⟨rfl, hb2⟩
    have H2 := Lib.hid hb2; clear hb2
    go_wp2_with fail
    go_ret
    exact ⟨rfl, Below.chain H1.out H2.out⟩
  · by_cases hg : (parseS s.data.toList).2 = 0 <;> by_cases hh : (unbytesS s.data.toList).2 = 0
    all_goals
      have HG := Lib.hid hg
      have HH := Lib.hid hh
      try (have hg' : ((parseS s.data.toList).2 != 0) = true := bne_iff_ne.2 hg; clear hg)
      try (have hh' : ((unbytesS s.data.toList).2 != 0) = true := bne_iff_ne.2 hh; clear hh)
      go_enter Tryd.func7, Tryd.ntmps7
      go_wp2_with fail
      refine (live_any _ HT.out).mono ?_
      rintro e w1 ⟨rfl, hb1⟩
      have H1 := Lib.hid hb1; clear hb1
      go_wp2_with fail
      refine (num_Digits _ _ hn (HT.out.below H1.out)).mono ?_
      rintro e w2 ⟨rfl, hb2⟩
      have H2 := Lib.hid hb2; clear hb2
      go_wp2_with fail
      refine (parse_digits _ _ hn).mono ?_
      rintro e w' ⟨rfl, rfl⟩
      go_wp2_with fail
      refine (num_Bytes _ _ hn).mono ?_
      rintro e w3 ⟨rfl, hb3⟩
      have H3 := Lib.hid hb3; clear hb3
      go_wp2_with fail
      refine (bytes_back _ _ hn).mono ?_
      rintro e w' ⟨rfl, rfl⟩
      go_wp2_with fail
      refine (num_Parse _ _ HS.out).mono ?_
      rintro e w' ⟨rfl, rfl⟩
      go_wp2_with fail
      refine (num_Unbytes _ _ HS.out).mono ?_
      rintro e w' ⟨rfl, rfl⟩
      go_wp2_with fail
    · refine (digits_again _ _ (((HT.out.below H1.out).below H2.out).below H3.out) HG.out).mono ?_
      rintro e w4 ⟨rfl, hb4⟩
      have H4 := Lib.hid hb4; clear hb4
      go_wp2_with fail
      refine (bytes_again _ _ HH.out).mono ?_
      rintro e w5 ⟨rfl, hb5⟩
      have H5 := Lib.hid hb5; clear hb5
      go_wp2_with fail
      go_ret
      exact ⟨rfl, Below.chain H1.out (Below.chain H2.out (Below.chain H3.out (Below.chain H4.out H5.out)))⟩
    · refine (digits_again _ _ (((HT.out.below H1.out).below H2.out).below H3.out) HG.out).mono ?_
      rintro e w4 ⟨rfl, hb4⟩
      have H4 := Lib.hid hb4; clear hb4
      go_wp2_with fail
      go_ret
      exact ⟨rfl, Below.chain H1.out (Below.chain H2.out (Below.chain H3.out H4.out))⟩
    · refine (bytes_again _ _ HH.out).mono ?_
      rintro e w5 ⟨rfl, hb5⟩
      have H5 := Lib.hid hb5; clear hb5
      go_wp2_with fail
      go_ret
      exact ⟨rfl, Below.chain H1.out (Below.chain H2.out (Below.chain H3.out H5.out))⟩
    · go_ret
      exact ⟨rfl, Below.chain H1.out (Below.chain H2.out H3.out)⟩
end Go.Proofs.YtjfnodpchjkkmaaDoor
