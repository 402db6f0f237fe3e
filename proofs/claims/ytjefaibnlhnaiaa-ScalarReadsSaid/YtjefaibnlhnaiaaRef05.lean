/- Layer 5: the document's own answers on scalars. -/
import Derived.Test.YtjefaibnlhnaiaaScalarPure
import Derived.Test.YtjefaibnlhnaiaaRef02Walks
import Derived.Test.YtjefaibnlhnaiaaMixTexts
import Derived.Test.YtjefaibnlhnaiaaBelow
import Derived.Deep.RegionHeld3
namespace Go.Proofs.Ytjefaibnlhnaiaa
open Go.RowKit
set_option maxRecDepth 1000000

/-- A scalar as a value. -/
abbrev scV (k n : Int) (t : ByteArray) : Value := .agg #[.int .i64 k, .int .i64 n, .string t]
theorem txt_empty (t : ByteArray) : t.data.toList = [] ↔ t = ⟨#[]⟩ := by
  constructor
  · intro h
    apply ByteArray.ext
    apply Array.toList_inj.1
    simpa using h
  · rintro rfl; rfl

theorem toL_isEmpty (t : ByteArray) : t.toList.isEmpty = decide (t.data.toList = []) := by
  rw [ByteArray.toList_eq]
  cases t.data.toList <;> simp
set_option maxHeartbeats 4000000 in
theorem ref_Check5 (k n : Int) (t : ByteArray) (w : World) :
    Calls Try.prog 13 #[scV k n t] w fun e w' => e = .returned (.int .i64 (chkSc (k, n, t.data.toList))) ∧ Below w.heap.size w w' := by
  have HN := Lib.hid (Below.newly' w (.cells #[.int .i64 k, .int .i64 n, .string t] 23))
  have te := toL_isEmpty t
  by_cases h1 : k < 0
  · clear te
    go_enter Try.func13, Try.ntmps13
    go_wp2
    go_ret
    exact ⟨ret_nat (by simp [chkSc, h1]), HN.out⟩
  by_cases h2 : 3 < k
  · clear te
    go_enter Try.func13, Try.ntmps13
    go_wp2
    go_ret
    exact ⟨ret_nat (by simp [chkSc, h2]), HN.out⟩
  by_cases ht0 : t.data.toList = []
  · rw [decide_eq_true ht0] at te
    have HT := Lib.hid ht0
    clear ht0
    rcases (show k = 0 ∨ k = 1 ∨ k = 2 ∨ k = 3 by omega) with rfl | rfl | rfl | rfl
    · by_cases hn : n = 0
      · subst hn
        go_enter Try.func13, Try.ntmps13
        go_wp2
        go_ret
        exact ⟨ret_nat (by rw [HT.out]; rfl), HN.out⟩
      · have hn' : (n != 0) = true := bne_iff_ne.2 hn
        go_enter Try.func13, Try.ntmps13
        go_wp2
        go_ret
        exact ⟨ret_nat (by simp [chkSc, hn]), HN.out⟩
    · by_cases hn : n = 0
      · subst hn
        go_enter Try.func13, Try.ntmps13
        go_wp2
        go_ret
        exact ⟨ret_nat (by rw [HT.out]; rfl), HN.out⟩
      · by_cases hm : n = 1
        · subst hm
          go_enter Try.func13, Try.ntmps13
          go_wp2
          go_ret
          exact ⟨ret_nat (by rw [HT.out]; rfl), HN.out⟩
        · have hn' : (n != 0) = true := bne_iff_ne.2 hn
          have hm' : (n != 1) = true := bne_iff_ne.2 hm
          go_enter Try.func13, Try.ntmps13
          go_wp2
          go_ret
          exact ⟨ret_nat (by rw [HT.out]; simp [chkSc, hn, hm]), HN.out⟩
    · go_enter Try.func13, Try.ntmps13
      go_wp2
      go_ret
      exact ⟨ret_nat (by rw [HT.out, chk_int]), HN.out⟩
    · by_cases hn : n = 0
      · subst hn
        go_enter Try.func13, Try.ntmps13
        go_wp2
        go_ret
        exact ⟨ret_nat (by rw [chk_text]), HN.out⟩
      · have hn' : (n != 0) = true := bne_iff_ne.2 hn
        go_enter Try.func13, Try.ntmps13
        go_wp2
        go_ret
        exact ⟨ret_nat (by simp [chkSc, hn]), HN.out⟩
  · rw [decide_eq_false ht0] at te
    have HT := Lib.hid ht0
    clear ht0
    by_cases h3 : k = 3
    · subst h3
      by_cases hn : n = 0
      · subst hn
        go_enter Try.func13, Try.ntmps13
        go_wp2
        go_ret
        exact ⟨ret_nat (by rw [chk_text]), HN.out⟩
      · have hn' : (n != 0) = true := bne_iff_ne.2 hn
        go_enter Try.func13, Try.ntmps13
        go_wp2
        go_ret
        exact ⟨ret_nat (by simp [chkSc, hn]), HN.out⟩
    · by_cases h0 : k = 0
      · subst h0
        by_cases hn : n = 0
        · subst hn
          go_enter Try.func13, Try.ntmps13
          go_wp2
          go_ret
          exact ⟨ret_nat (by simp only [chkSc]; simp [HT.out]), HN.out⟩
        · have hn' : (n != 0) = true := bne_iff_ne.2 hn
          go_enter Try.func13, Try.ntmps13
          go_wp2
          go_ret
          exact ⟨ret_nat (by simp [chkSc, hn]), HN.out⟩
      · have h3' : (k != 3) = true := bne_iff_ne.2 h3
        have h3'' : (k == 3) = false := beq_eq_false_iff_ne.2 h3
        have h0' : (k == 0) = false := beq_eq_false_iff_ne.2 h0
        have hk1 : 0 ≤ k := by omega
        have hk2 : k ≤ 3 := by omega
        have HC : Hid (chkSc (k, n, t.data.toList) = 1) := by
          show _ = _
          simp [chkSc, h1, h2, h3, h0, HT.out]
        clear h1 h2
        go_enter Try.func13, Try.ntmps13
        go_wp2
        go_ret
        exact ⟨ret_nat (by rw [HC.out]), HN.out⟩
set_option maxHeartbeats 4000000 in
theorem ref_Order5 (k n : Int) (t : ByteArray) (k' n' : Int) (t' : ByteArray) (w : World) (ht : t.size ≤ maxLen) :
    Calls Try.prog 17 #[scV k n t, scV k' n' t'] w fun e w' => e = .returned (.int .i64 (ordSc (k, n, t.data.toList) (k', n', t'.data.toList))) ∧ Below w.heap.size w w' := by
  have HN := Lib.hid (Below.more (Below.newly' w (.cells #[.int .i64 k, .int .i64 n, .string t] 23)) (.cells #[.int .i64 k', .int .i64 n', .string t'] 23))
  have HO := Lib.hid (fun W => ref_Order t t' W ht)
  clear ht
  by_cases h1 : k < k'
  · go_enter Try.func17, Try.ntmps17
    go_wp2_with fail
    go_ret
    exact ⟨ret_nat (by simp [ordSc, h1]), HN.out⟩
  by_cases h2 : k' < k
  · go_enter Try.func17, Try.ntmps17
    go_wp2_with fail
    go_ret
    exact ⟨ret_nat (by simp [ordSc, h1, h2]), HN.out⟩
  obtain rfl : k = k' := by omega
  by_cases h3 : n < n'
  · go_enter Try.func17, Try.ntmps17
    go_wp2_with fail
    go_ret
    exact ⟨ret_nat (by simp [ordSc, h3]), HN.out⟩
  by_cases h4 : n' < n
  · go_enter Try.func17, Try.ntmps17
    go_wp2_with fail
    go_ret
    exact ⟨ret_nat (by simp [ordSc, h3, h4]), HN.out⟩
  obtain rfl : n = n' := by omega
  go_enter Try.func17, Try.ntmps17
  go_wp2_with fail
  refine (HO.out _).mono ?_
  rintro e w1 ⟨rfl, hd⟩
  have HD := Lib.hid (HN.out.trans (hd.below.mono HN.out.size))
  clear hd
  go_wp2_with fail
  go_ret
  exact ⟨ret_nat (by simp [ordSc]), HD.out⟩
end Go.Proofs.Ytjefaibnlhnaiaa
