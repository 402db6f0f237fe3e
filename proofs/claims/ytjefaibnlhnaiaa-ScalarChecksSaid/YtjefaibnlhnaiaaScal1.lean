/- Package scalar's own Check, Same, Order: what they answer. -/
import Derived.Test.YtjefaibnlhnaiaaLaw05Spec
import Derived.Test.YtjefaibnlhnaiaaQtO
namespace Go.Proofs.Ytjefaibnlhnaiaa
open Go.RowKit
set_option maxRecDepth 1000000
set_option linter.unusedSimpArgs false

theorem nan_int (a : Int) (w : World) : Calls Try.prog 39 #[.int .i64 a] w fun e w' => e = .returned (.bool false) ∧ w = w' := by
  go_enter Try.func39, Try.ntmps39
  go_wp2
  go_ret
  exact ⟨by simp, rfl⟩
set_option maxHeartbeats 2000000 in
theorem cmp_int (a b : Int) (w : World) : Calls Try.prog 29 #[.int .i64 a, .int .i64 b] w fun e w' => e = .returned (.int .i64 (if a < b then -1 else if b < a then 1 else 0)) ∧ w = w' := by
  have HA := Lib.hid (fun W => nan_int a W)
  have HB := Lib.hid (fun W => nan_int b W)
  by_cases h1 : a < b
  · rw [if_pos h1]
    go_enter Try.func29, Try.ntmps29
    go_wp2_with fail
    refine (HA.out _).mono ?_
    rintro e w1 ⟨rfl, rfl⟩
    go_wp2_with fail
    refine (HB.out _).mono ?_
    rintro e w1 ⟨rfl, rfl⟩
    go_wp2_with fail
    go_ret
    exact ⟨rfl, rfl⟩
  · by_cases h2 : b < a
    · rw [if_neg h1, if_pos h2]
      go_enter Try.func29, Try.ntmps29
      go_wp2_with fail
      refine (HA.out _).mono ?_
      rintro e w1 ⟨rfl, rfl⟩
      go_wp2_with fail
      refine (HB.out _).mono ?_
      rintro e w1 ⟨rfl, rfl⟩
      go_wp2_with fail
      go_ret
      exact ⟨rfl, rfl⟩
    · rw [if_neg h1, if_neg h2]
      go_enter Try.func29, Try.ntmps29
      go_wp2_with fail
      refine (HA.out _).mono ?_
      rintro e w1 ⟨rfl, rfl⟩
      go_wp2_with fail
      refine (HB.out _).mono ?_
      rintro e w1 ⟨rfl, rfl⟩
      go_wp2_with fail
      go_ret
      exact ⟨rfl, rfl⟩
theorem nan_int64 (a : Int) (w : World) : Calls Try.prog 40 #[.int .i64 a] w fun e w' => e = .returned (.bool false) ∧ w = w' := by
  go_enter Try.func40, Try.ntmps40
  go_wp2
  go_ret
  exact ⟨by simp, rfl⟩
set_option maxHeartbeats 2000000 in
theorem cmp_int64 (a b : Int) (w : World) : Calls Try.prog 30 #[.int .i64 a, .int .i64 b] w fun e w' => e = .returned (.int .i64 (if a < b then -1 else if b < a then 1 else 0)) ∧ w = w' := by
  have HA := Lib.hid (fun W => nan_int64 a W)
  have HB := Lib.hid (fun W => nan_int64 b W)
  by_cases h1 : a < b
  · rw [if_pos h1]
    go_enter Try.func30, Try.ntmps30
    go_wp2_with fail
    refine (HA.out _).mono ?_
    rintro e w1 ⟨rfl, rfl⟩
    go_wp2_with fail
    refine (HB.out _).mono ?_
    rintro e w1 ⟨rfl, rfl⟩
    go_wp2_with fail
    go_ret
    exact ⟨rfl, rfl⟩
  · by_cases h2 : b < a
    · rw [if_neg h1, if_pos h2]
      go_enter Try.func30, Try.ntmps30
      go_wp2_with fail
      refine (HA.out _).mono ?_
      rintro e w1 ⟨rfl, rfl⟩
      go_wp2_with fail
      refine (HB.out _).mono ?_
      rintro e w1 ⟨rfl, rfl⟩
      go_wp2_with fail
      go_ret
      exact ⟨rfl, rfl⟩
    · rw [if_neg h1, if_neg h2]
      go_enter Try.func30, Try.ntmps30
      go_wp2_with fail
      refine (HA.out _).mono ?_
      rintro e w1 ⟨rfl, rfl⟩
      go_wp2_with fail
      refine (HB.out _).mono ?_
      rintro e w1 ⟨rfl, rfl⟩
      go_wp2_with fail
      go_ret
      exact ⟨rfl, rfl⟩
set_option maxHeartbeats 4000000 in
theorem sc_Check (k n : Int) (t : ByteArray) (w : World) :
    Calls Try.prog 12 #[scV k n t] w fun e w' => e = .returned (.int .i64 (chkSc (scT k n t))) ∧ Below w.heap.size w w' := by
  have HN := Lib.hid (Below.newly' w (.cells #[.int .i64 k, .int .i64 n, .string t] 23))
  have te := toL_isEmpty t
  by_cases hk : k = 0 ∨ k = 1 ∨ k = 2 ∨ k = 3
  case neg =>
    have q0 : (k == 0) = false := beq_eq_false_iff_ne.2 (by omega)
    have q1 : (k == 1) = false := beq_eq_false_iff_ne.2 (by omega)
    have q2 : (k == 2) = false := beq_eq_false_iff_ne.2 (by omega)
    have q3 : (k == 3) = false := beq_eq_false_iff_ne.2 (by omega)
    have HC : Hid (chkSc (scT k n t) = 3) := by show _ = _; unfold chkSc; rw [if_pos (by simp only; omega)]
    clear hk te
    go_enter Try.func12, Try.ntmps12
    go_wp2
    go_ret
    exact ⟨ret_nat (by rw [HC.out]), HN.out⟩
  by_cases ht0 : t.data.toList = []
  · rw [decide_eq_true ht0] at te
    have HT := Lib.hid ht0
    clear ht0
    rcases hk with rfl | rfl | rfl | rfl
    · by_cases n0 : n = 0
      · subst n0
        go_enter Try.func12, Try.ntmps12
        go_wp2
        go_ret
        exact ⟨ret_nat (by simp only [chkSc]; simp [HT.out]), HN.out⟩
      · have hn' : (n != 0) = true := bne_iff_ne.2 n0
        go_enter Try.func12, Try.ntmps12
        go_wp2
        go_ret
        exact ⟨ret_nat (by simp only [chkSc]; simp [HT.out, n0]), HN.out⟩
    · by_cases n0 : n = 0
      · subst n0
        go_enter Try.func12, Try.ntmps12
        go_wp2
        go_ret
        exact ⟨ret_nat (by simp only [chkSc]; simp [HT.out]), HN.out⟩
      · have hn' : (n != 0) = true := bne_iff_ne.2 n0
        by_cases n1 : n = 1
        · subst n1
          go_enter Try.func12, Try.ntmps12
          go_wp2
          go_ret
          exact ⟨ret_nat (by simp only [chkSc]; simp [HT.out]), HN.out⟩
        · have hm' : (n != 1) = true := bne_iff_ne.2 n1
          go_enter Try.func12, Try.ntmps12
          go_wp2
          go_ret
          exact ⟨ret_nat (by simp only [chkSc]; simp [HT.out, n0, n1]), HN.out⟩
    · by_cases n0 : n = 0
      · subst n0
        go_enter Try.func12, Try.ntmps12
        go_wp2
        go_ret
        exact ⟨ret_nat (by simp only [chkSc]; simp [HT.out]), HN.out⟩
      · have hn' : (n != 0) = true := bne_iff_ne.2 n0
        go_enter Try.func12, Try.ntmps12
        go_wp2
        go_ret
        exact ⟨ret_nat (by simp only [chkSc]; simp [HT.out, n0]), HN.out⟩
    · by_cases n0 : n = 0
      · subst n0
        go_enter Try.func12, Try.ntmps12
        go_wp2
        go_ret
        exact ⟨ret_nat (by simp only [chkSc]; simp [HT.out]), HN.out⟩
      · have hn' : (n != 0) = true := bne_iff_ne.2 n0
        go_enter Try.func12, Try.ntmps12
        go_wp2
        go_ret
        exact ⟨ret_nat (by simp only [chkSc]; simp [HT.out, n0]), HN.out⟩
  · rw [decide_eq_false ht0] at te
    have HT := Lib.hid ht0
    clear ht0
    rcases hk with rfl | rfl | rfl | rfl
    · by_cases n0 : n = 0
      · subst n0
        go_enter Try.func12, Try.ntmps12
        go_wp2
        go_ret
        exact ⟨ret_nat (by simp only [chkSc]; simp [HT.out]), HN.out⟩
      · have hn' : (n != 0) = true := bne_iff_ne.2 n0
        go_enter Try.func12, Try.ntmps12
        go_wp2
        go_ret
        exact ⟨ret_nat (by simp only [chkSc]; simp [HT.out, n0]), HN.out⟩
    · by_cases n0 : n = 0
      · subst n0
        go_enter Try.func12, Try.ntmps12
        go_wp2
        go_ret
        exact ⟨ret_nat (by simp only [chkSc]; simp [HT.out]), HN.out⟩
      · have hn' : (n != 0) = true := bne_iff_ne.2 n0
        by_cases n1 : n = 1
        · subst n1
          go_enter Try.func12, Try.ntmps12
          go_wp2
          go_ret
          exact ⟨ret_nat (by simp only [chkSc]; simp [HT.out]), HN.out⟩
        · have hm' : (n != 1) = true := bne_iff_ne.2 n1
          go_enter Try.func12, Try.ntmps12
          go_wp2
          go_ret
          exact ⟨ret_nat (by simp only [chkSc]; simp [HT.out, n0, n1]), HN.out⟩
    · by_cases n0 : n = 0
      · subst n0
        go_enter Try.func12, Try.ntmps12
        go_wp2
        go_ret
        exact ⟨ret_nat (by simp only [chkSc]; simp [HT.out]), HN.out⟩
      · have hn' : (n != 0) = true := bne_iff_ne.2 n0
        go_enter Try.func12, Try.ntmps12
        go_wp2
        go_ret
        exact ⟨ret_nat (by simp only [chkSc]; simp [HT.out, n0]), HN.out⟩
    · by_cases n0 : n = 0
      · subst n0
        go_enter Try.func12, Try.ntmps12
        go_wp2
        go_ret
        exact ⟨ret_nat (by simp only [chkSc]; simp [HT.out]), HN.out⟩
      · have hn' : (n != 0) = true := bne_iff_ne.2 n0
        go_enter Try.func12, Try.ntmps12
        go_wp2
        go_ret
        exact ⟨ret_nat (by simp only [chkSc]; simp [HT.out, n0]), HN.out⟩
set_option maxHeartbeats 2000000 in
theorem sc_Same (k n : Int) (t : ByteArray) (k' n' : Int) (t' : ByteArray) (w : World) :
    Calls Try.prog 18 #[scV k n t, scV k' n' t'] w fun e w' => e = .returned (.bool (decide (scT k n t = scT k' n' t'))) ∧ Below w.heap.size w w' := by
  have HN := Lib.hid (Below.more (Below.newly' w (.cells #[.int .i64 k, .int .i64 n, .string t] 23)) (.cells #[.int .i64 k', .int .i64 n', .string t'] 23))
  obtain ⟨r, hr⟩ : ∃ r, r = decide (scT k n t = scT k' n' t') := ⟨_, rfl⟩
  have hq : ∀ W, (binOp .eql 23 (.agg #[.int .i64 k, .int .i64 n, .string t]) (.agg #[.int .i64 k', .int .i64 n', .string t'])).run Try.prog W = .ok (.bool r) W := fun W => by rw [hr]; exact eql_sc k n t k' n' t' W
  have hgd : ∀ (x y : Operand) (W : World), (eqGuard .eql 23 x y (.agg #[.int .i64 k, .int .i64 n, .string t]) (.agg #[.int .i64 k', .int .i64 n', .string t'])).run Try.prog W = .ok () W := fun x y W => run_eqGuard_agg W .eql 23 x y _ _ (by kernel_rfl)
  rw [← hr]
  clear hr
  go_enter Try.func18, Try.ntmps18
  go_wp2
  go_ret
  exact ⟨rfl, HN.out⟩
set_option maxHeartbeats 4000000 in
theorem sc_Order (k n : Int) (t : ByteArray) (k' n' : Int) (t' : ByteArray) (w : World) :
    Calls Try.prog 16 #[scV k n t, scV k' n' t'] w fun e w' => e = .returned (.int .i64 (ordSc (scT k n t) (scT k' n' t'))) ∧ Below w.heap.size w w' := by
  have HN := Lib.hid (Below.more (Below.newly' w (.cells #[.int .i64 k, .int .i64 n, .string t] 23)) (.cells #[.int .i64 k', .int .i64 n', .string t'] 23))
  have HO := Lib.hid (fun W => q_Order t t' W)
  by_cases h1 : k = k'
  case neg =>
    have h1' : (k != k') = true := bne_iff_ne.2 h1
    have HC := Lib.hid (fun W => cmp_int k k' W)
    have e : Hid ((if k < k' then (-1 : Int) else if k' < k then 1 else 0) = ordSc (scT k n t) (scT k' n' t')) := by
      show _ = _
      unfold ordSc
      simp only
      split
      · rfl
      · rw [if_pos (by omega), if_pos (by omega)]
    rw [e.out] at HC
    clear h1 e
    obtain ⟨x, hx⟩ : ∃ x, x = ordSc (scT k n t) (scT k' n' t') := ⟨_, rfl⟩
    rw [← hx] at HC ⊢
    clear hx
    go_enter Try.func16, Try.ntmps16
    go_wp2_with fail
    refine (HC.out _).mono ?_
    rintro e w1 ⟨rfl, rfl⟩
    go_wp2_with fail
    go_ret
    exact ⟨rfl, HN.out⟩
  subst h1
  have kk : (k != k) = false := by simp
  by_cases h2 : n = n'
  case neg =>
    have h2' : (n != n') = true := bne_iff_ne.2 h2
    have HC := Lib.hid (fun W => cmp_int64 n n' W)
    have e : Hid ((if n < n' then (-1 : Int) else if n' < n then 1 else 0) = ordSc (scT k n t) (scT k n' t')) := by
      show _ = _
      unfold ordSc
      simp only [Int.lt_irrefl, if_false]
      split
      · rfl
      · rw [if_pos (by omega), if_pos (by omega)]
    rw [e.out] at HC
    clear h2 e
    obtain ⟨x, hx⟩ : ∃ x, x = ordSc (scT k n t) (scT k n' t') := ⟨_, rfl⟩
    rw [← hx] at HC ⊢
    clear hx
    go_enter Try.func16, Try.ntmps16
    go_wp2_with fail
    refine (HC.out _).mono ?_
    rintro e w1 ⟨rfl, rfl⟩
    go_wp2_with fail
    go_ret
    exact ⟨rfl, HN.out⟩
  subst h2
  have nn : (n != n) = false := by simp
  go_enter Try.func16, Try.ntmps16
  go_wp2_with fail
  refine (HO.out _).mono ?_
  rintro e w1 ⟨rfl, rfl⟩
  go_wp2_with fail
  go_ret
  exact ⟨ret_nat (by simp [ordSc]), HN.out⟩
set_option maxHeartbeats 2000000 in
theorem sc_Hash (seed : Nat) (k n : Int) (t : ByteArray) (w : World) (hseed : seed < 18446744073709551616) (ht : t.size ≤ 1000000)
    (HK : ∀ W : World, Calls Try.prog 14 #[scV k n t] W fun e W' => e = .returned (.string ⟨(keySc (scT k n t)).toArray⟩) ∧ Below W.heap.size W W') :
    Calls Try.prog 23 #[.int .u64 (seed : Int), scV k n t] w fun e w' => e = .returned (.int .u64 (txtN seed (keySc (scT k n t)) : Nat)) ∧ Below w.heap.size w w' := by
  have HN := Lib.hid (Below.newly' w (.cells #[.int .i64 k, .int .i64 n, .string t] 23))
  have HK := Lib.hid HK
  have hl := key_len (scT k n t)
  have HM := Lib.hid (fun W => mix_Text seed ⟨(keySc (scT k n t)).toArray⟩ hseed (by
    have h2 : t.data.toList.length = t.size := len_bytes t
    simp only at hl
    show (keySc (scT k n t)).toArray.size ≤ _
    rw [List.size_toArray]
    omega) W)
  obtain ⟨l, hl2⟩ : ∃ l, l = keySc (scT k n t) := ⟨_, rfl⟩
  rw [← hl2] at HM HK ⊢
  clear hl hl2 hseed ht
  go_enter Try.func23, Try.ntmps23
  go_wp2_with fail
  refine (HK.out _).mono ?_
  rintro e w1 ⟨rfl, hb⟩
  have H1 := Lib.hid (HN.out.trans (hb.mono HN.out.size))
  clear hb
  go_wp2_with fail
  refine (HM.out _).mono ?_
  rintro e w2 ⟨rfl, rfl⟩
  go_wp2_with fail
  go_ret
  exact ⟨rfl, H1.out⟩
end Go.Proofs.Ytjefaibnlhnaiaa
