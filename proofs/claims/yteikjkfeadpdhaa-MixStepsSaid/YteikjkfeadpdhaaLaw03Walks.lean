/- Layer 3: the chapter's examples, and each law's walk: it returns true, and the world is as it was. -/
import Derived.Test.YteikjkfeadpdhaaMixWords
namespace Go.Proofs.Yteikjkfeadpdhaa
open Go.RowKit

theorem live_all (w : World) : Calls Try.prog 9 #[] w fun e w' => e = .returned (.bool true) ∧ w = w' := by
  have c0 : Hid (∀ w, Calls Try.prog 20 #[.int .u64 99, .int .i64 0] w fun e w' => e = .returned (.int .i64 3) ∧ w = w') :=
    fun w => (mix_Chunk 99 0 (by decide) w).mono fun e w' h => ⟨h.1.trans (ret_i64 (by decide)), h.2⟩
  have c1 : Hid (∀ w, Calls Try.prog 20 #[.int .u64 99, .int .i64 1] w fun e w' => e = .returned (.int .i64 3) ∧ w = w') :=
    fun w => (mix_Chunk 99 1 (by decide) w).mono fun e w' h => ⟨h.1.trans (ret_i64 (by decide)), h.2⟩
  have c2 : Hid (∀ w, Calls Try.prog 20 #[.int .u64 99, .int .i64 13] w fun e w' => e = .returned (.int .i64 0) ∧ w = w') :=
    fun w => (mix_Chunk 99 13 (by decide) w).mono fun e w' h => ⟨h.1.trans (ret_i64 (by decide)), h.2⟩
  have c3 : Hid (∀ w, Calls Try.prog 18 #[.int .u64 99, .int .i64 5] w fun e w' => e = .returned (.int .u64 3) ∧ w = w') :=
    fun w => (mix_Narrow 99 5 (by decide) w).mono fun e w' h => ⟨h.1.trans (ret_u64 (by decide)), h.2⟩
  have c4 : Hid (∀ w, Calls Try.prog 10 #[.int .u64 1, .int .u64 1] w fun e w' => e = .returned (.int .u64 15485907386658061715) ∧ w = w') :=
    fun w => (mix_Step 1 1 (by decide) (by decide) w).mono fun e w' h => ⟨h.1.trans (ret_u64 (by decide)), h.2⟩
  have c5 : Hid (∀ w, Calls Try.prog 12 #[.int .u64 0] w fun e w' => e = .returned (.int .u64 0) ∧ w = w') :=
    fun w => (mix_End 0 (by decide) w).mono fun e w' h => ⟨h.1.trans (ret_u64 (by decide)), h.2⟩
  go_enter Try.func9, Try.ntmps9
  go_wp2_with fail
  refine (c0.out _).mono ?_; rintro e w1 ⟨rfl, rfl⟩
  go_wp2_with fail
  refine (c1.out _).mono ?_; rintro e w1 ⟨rfl, rfl⟩
  go_wp2_with fail
  refine (c2.out _).mono ?_; rintro e w1 ⟨rfl, rfl⟩
  go_wp2_with fail
  refine (c3.out _).mono ?_; rintro e w1 ⟨rfl, rfl⟩
  go_wp2_with fail
  refine (c4.out _).mono ?_; rintro e w1 ⟨rfl, rfl⟩
  go_wp2_with fail
  refine (c5.out _).mono ?_; rintro e w1 ⟨rfl, rfl⟩
  go_wp2_with fail
  go_ret
  exact ⟨rfl, rfl⟩

theorem nat_of_u64 {x : Int} (h : (Lit.int .u64 x).wf = true) : ∃ n : Nat, n < 18446744073709551616 ∧ x = n := by
  have h2 := Bool.and_eq_true_iff.1 (show (decide (IntKind.u64.min ≤ x) && decide (x ≤ IntKind.u64.max)) = true from h)
  have h3 : (0 : Int) ≤ x := of_decide_eq_true h2.1
  have h4 : x ≤ 18446744073709551615 := of_decide_eq_true h2.2
  exact ⟨x.toNat, by omega, by omega⟩

theorem nat_of_u8 {x : Int} (h : (Lit.int .u8 x).wf = true) : ∃ n : Nat, n < 256 ∧ x = n := by
  have h2 := Bool.and_eq_true_iff.1 (show (decide (IntKind.u8.min ≤ x) && decide (x ≤ IntKind.u8.max)) = true from h)
  have h3 : (0 : Int) ≤ x := of_decide_eq_true h2.1
  have h4 : x ≤ 255 := of_decide_eq_true h2.2
  exact ⟨x.toNat, by omega, by omega⟩

set_option maxHeartbeats 1000000 in
theorem mixSteps_walk (h x : Int) (wh : (Lit.int .u64 h).wf = true) (wx : (Lit.int .u64 x).wf = true) (w : World) :
    Calls Try.prog 3 #[.int .u64 h, .int .u64 x] w fun e w' => e = .returned (.bool true) ∧ Below w.heap.size w w' := by
  obtain ⟨h, hh, rfl⟩ := nat_of_u64 wh
  obtain ⟨x, hx, rfl⟩ := nat_of_u64 wx
  have HH := Lib.hid hh
  have HX := Lib.hid hx
  clear hh hx wh wx
  go_enter Try.func3, Try.ntmps3
  go_wp2_with fail
  refine (live_all _).mono ?_; rintro e w1 ⟨rfl, rfl⟩
  go_wp2_with fail
  refine (mix_Step h x HH.out HX.out _).mono ?_; rintro e w1 ⟨rfl, rfl⟩
  go_wp2_with fail
  refine (ref_Step h x HH.out HX.out _).mono ?_; rintro e w1 ⟨rfl, rfl⟩
  go_wp2_with fail
  refine (mix_End h HH.out _).mono ?_; rintro e w1 ⟨rfl, rfl⟩
  go_wp2_with fail
  refine (ref_End h HH.out _).mono ?_; rintro e w1 ⟨rfl, rfl⟩
  go_wp2_with fail
  go_ret
  exact ⟨rfl, Below.refl _ _⟩

set_option maxHeartbeats 1000000 in
theorem mixPieces_walk (h k l : Int) (wh : (Lit.int .u64 h).wf = true) (_ : (Lit.int .i64 k).wf = true) (_ : (Lit.int .i64 l).wf = true) (w : World) :
    Calls Try.prog 6 #[.int .u64 h, .int .i64 k, .int .i64 l] w fun e w' => e = .returned (.bool true) ∧ Below w.heap.size w w' := by
  obtain ⟨h, hh, rfl⟩ := nat_of_u64 wh
  have HH := Lib.hid hh
  clear hh wh
  go_enter Try.func6, Try.ntmps6
  go_wp2_with fail
  refine (live_all _).mono ?_; rintro e w1 ⟨rfl, rfl⟩
  go_wp2_with fail
  refine (mix_Narrow h k HH.out _).mono ?_; rintro e w1 ⟨rfl, rfl⟩
  go_wp2_with fail
  refine (ref_Narrow h k HH.out _).mono ?_; rintro e w1 ⟨rfl, rfl⟩
  go_wp2_with fail
  refine (mix_Chunk h l HH.out _).mono ?_; rintro e w1 ⟨rfl, rfl⟩
  go_wp2_with fail
  refine (ref_Chunk h l _).mono ?_; rintro e w1 ⟨rfl, rfl⟩
  go_wp2_with fail
  go_ret
  exact ⟨rfl, Below.refl _ _⟩

set_option maxHeartbeats 1000000 in
theorem mixTexts_walk (h : Int) (s : ByteArray) (wh : (Lit.int .u64 h).wf = true) (_ : s.size ≤ maxLen) (w : World) :
    Calls Try.prog 5 #[.int .u64 h, .string s] w fun e w' => e = .returned (.bool true) ∧ Below w.heap.size w w' := by
  obtain ⟨h, hh, rfl⟩ := nat_of_u64 wh
  have HH := Lib.hid hh
  clear hh wh
  rcases Nat.lt_or_ge 4000 s.size with hs | hs
  · have gs : (4000 : Int) < s.size := by omega
    clear hs
    go_enter Try.func5, Try.ntmps5
    go_wp2_with fail
    refine (live_all _).mono ?_; rintro e w1 ⟨rfl, rfl⟩
    go_wp2_with fail
    refine (live_all _).mono ?_; rintro e w1 ⟨rfl, rfl⟩
    go_wp2_with fail
    go_ret
    exact ⟨rfl, Below.refl _ _⟩
  · have gs : ¬ (4000 : Int) < s.size := by omega
    have hz : Hid (s.size ≤ 9223372036854775800) := by show _ ≤ _; omega
    clear hs
    go_enter Try.func5, Try.ntmps5
    go_wp2_with fail
    refine (live_all _).mono ?_; rintro e w1 ⟨rfl, rfl⟩
    go_wp2_with fail
    refine (mix_Text h s HH.out hz.out _).mono ?_; rintro e w1 ⟨rfl, rfl⟩
    go_wp2_with fail
    refine (ref_Text h s HH.out hz.out _).mono ?_; rintro e w1 ⟨rfl, rfl⟩
    go_wp2_with fail
    go_ret
    exact ⟨rfl, Below.refl _ _⟩

set_option maxHeartbeats 1000000 in
theorem mixWords_walk (h : Int) (v : Value) (ys : List Nat) (wh : (Lit.int .u64 h).wf = true) (w : World) (hv : WordsAt w v ys) :
    Calls Try.prog 4 #[.int .u64 h, v] w fun e w' => e = .returned (.bool true) ∧ Below w.heap.size w w' := by
  obtain ⟨h, hh, rfl⟩ := nat_of_u64 wh
  have HH := Lib.hid hh
  have HV := Lib.hid hv
  obtain ⟨a, cap, b, o, rfl, -, -, -, hm⟩ := hv
  unfold maxLen at hm
  obtain ⟨len, hlen⟩ : ∃ len, len = ys.length := ⟨_, rfl⟩
  rw [← hlen] at HV hm ⊢
  clear hh wh hlen
  rcases Nat.lt_or_ge 1000 len with hs | hs
  · have gs : (1000 : Int) < len := by omega
    clear hs
    go_enter Try.func4, Try.ntmps4
    go_wp2_with fail
    refine (live_all _).mono ?_; rintro e w1 ⟨rfl, rfl⟩
    go_wp2_with fail
    refine (live_all _).mono ?_; rintro e w1 ⟨rfl, rfl⟩
    go_wp2_with fail
    go_ret
    exact ⟨rfl, Below.refl _ _⟩
  · have gs : ¬ (1000 : Int) < len := by omega
    clear hs
    go_enter Try.func4, Try.ntmps4
    go_wp2_with fail
    refine (live_all _).mono ?_; rintro e w1 ⟨rfl, rfl⟩
    go_wp2_with fail
    refine (mix_Words h _ ys HH.out _ HV.out).mono ?_; rintro e w1 ⟨rfl, rfl⟩
    go_wp2_with fail
    refine (ref_Words h _ ys HH.out _ HV.out).mono ?_; rintro e w1 ⟨rfl, rfl⟩
    go_wp2_with fail
    go_ret
    exact ⟨rfl, Below.refl _ _⟩

theorem beq_iff {a b : Nat} {c d : Nat} (h : a = b ↔ c = d) : (((a : Int) == (b : Int)) == ((c : Int) == (d : Int))) = true := by
  by_cases e : c = d
  · subst e; rw [h.2 rfl]; simp
  · have e2 : ¬ a = b := fun x => e (h.1 x)
    have e3 : ((a : Int) == (b : Int)) = false := beq_eq_false_iff_ne.2 (by omega)
    have e4 : ((c : Int) == (d : Int)) = false := beq_eq_false_iff_ne.2 (by omega)
    rw [e3, e4]; rfl

set_option maxHeartbeats 1000000 in
theorem mixApart_walk (g h x y : Int) (wg : (Lit.int .u64 g).wf = true) (wh : (Lit.int .u64 h).wf = true) (wx : (Lit.int .u64 x).wf = true) (wy : (Lit.int .u64 y).wf = true) (w : World) :
    Calls Try.prog 7 #[.int .u64 g, .int .u64 h, .int .u64 x, .int .u64 y] w fun e w' => e = .returned (.bool true) ∧ Below w.heap.size w w' := by
  obtain ⟨g, hg, rfl⟩ := nat_of_u64 wg
  obtain ⟨h, hh, rfl⟩ := nat_of_u64 wh
  obtain ⟨x, hx, rfl⟩ := nat_of_u64 wx
  obtain ⟨y, hy, rfl⟩ := nat_of_u64 wy
  have t1 := beq_iff (step_right hh hx hy)
  have t2 := beq_iff (step_left hg hh hx)
  have t3 := beq_iff (end_inj hg hh)
  have HG := Lib.hid hg
  have HH := Lib.hid hh
  have HX := Lib.hid hx
  have HY := Lib.hid hy
  clear hg hh hx hy wg wh wx wy
  go_enter Try.func7, Try.ntmps7
  go_wp2_with fail
  refine (live_all _).mono ?_; rintro e w1 ⟨rfl, rfl⟩
  go_wp2_with fail
  refine (mix_Step h x HH.out HX.out _).mono ?_; rintro e w1 ⟨rfl, rfl⟩
  go_wp2_with fail
  refine (mix_Step h y HH.out HY.out _).mono ?_; rintro e w1 ⟨rfl, rfl⟩
  go_wp2_with fail
  refine (mix_Step g x HG.out HX.out _).mono ?_; rintro e w1 ⟨rfl, rfl⟩
  go_wp2_with fail
  refine (mix_Step h x HH.out HX.out _).mono ?_; rintro e w1 ⟨rfl, rfl⟩
  go_wp2_with fail
  refine (mix_End g HG.out _).mono ?_; rintro e w1 ⟨rfl, rfl⟩
  go_wp2_with fail
  refine (mix_End h HH.out _).mono ?_; rintro e w1 ⟨rfl, rfl⟩
  go_wp2_with fail
  go_ret
  exact ⟨rfl, Below.refl _ _⟩
theorem whole_step (h i : Nat) (hh : h < 18446744073709551616) (hi : i ≤ 12) :
    bits .or .u64 ((h % 2 ^ (5 * i) : Nat) : Int) (IntKind.u64.wrap (((chunkN h i : Nat) : Int) * 2 ^ (5 * i))) = ((h % 2 ^ (5 * (i + 1)) : Nat) : Int) := by
  have e : chunkN h i = h / 2 ^ (5 * i) % 32 := by rw [chunkN, if_pos (by omega)]; rw [show (5 * (i : Int)).toNat = 5 * i by omega]
  have hl : h / 2 ^ (5 * i) % 32 * 2 ^ (5 * i) < 18446744073709551616 := by
    refine Nat.lt_of_le_of_lt ?_ hh
    exact Nat.le_trans (Nat.mul_le_mul_right _ (Nat.mod_le _ _)) (Nat.div_mul_le_self _ _)
  rw [pow_nat, ← Int.natCast_mul, e, wrap_nat _ hl, bits_or_u64_nat _ _ (Nat.lt_of_le_of_lt (Nat.mod_le _ _) hh) hl, low_chunk]

set_option maxHeartbeats 1000000 in
theorem mixWhole_walk (h l : Int) (wh : (Lit.int .u64 h).wf = true) (wl : (Lit.int .u8 l).wf = true) (w : World) :
    Calls Try.prog 8 #[.int .u64 h, .int .u8 l] w fun e w' => e = .returned (.bool true) ∧ Below w.heap.size w w' := by
  obtain ⟨h, hh, rfl⟩ := nat_of_u64 wh
  obtain ⟨l, hl, rfl⟩ := nat_of_u8 wl
  have HH := Lib.hid hh
  have HL := Lib.hid hl
  clear hh hl wh wl
  go_enter Try.func8, Try.ntmps8
  go_wp2_with fail
  go_loop [5, 11] (fun v n => ∃ i : Nat, i ≤ 13 ∧ n = .int .i64 i ∧ v = .int .u64 ((h % 2 ^ (5 * i) : Nat) : Int)) (fun _ n => 13 - (intOf n).toNat)
  case atStart => exact ⟨0, by omega, rfl, by simp [Nat.mod_one]⟩
  case round =>
    obtain ⟨i, hi, rfl, rfl⟩ := hrel
    obtain ⟨o, ho⟩ : ∃ o, o = h % 2 ^ (5 * i) := ⟨_, rfl⟩
    rw [← ho]
    by_cases h1 : i < 13
    · have HC := Lib.hid (fun w => mix_Chunk h i HH.out w)
      have hs := whole_step h i HH.out (by omega)
      obtain ⟨c, hc⟩ : ∃ c, c = chunkN h i := ⟨_, rfl⟩
      have c32 : c < 32 := by rw [hc]; exact chunkN_lt _ _
      rw [← hc] at HC hs
      rw [← ho] at hs
      have HS := Lib.hid hs
      have c1 : ¬ (c : Int) < 0 := by omega
      have c2 : ¬ 31 < (c : Int) := by omega
      have c3 : IntKind.u64.wrap (c : Int) = c := wrap_nat _ (by omega)
      clear hs hc ho
      go_wp2_with fail
      refine (HC.out _).mono ?_; rintro e w1 ⟨rfl, rfl⟩
      go_wp2_with fail
      go_round
      case rel => exact ⟨i + 1, by omega, by go_num, by rw [HS.out]⟩
      case measure => simp [intOf]; omega
    · have e : o = h := by
        obtain rfl : i = 13 := by omega
        rw [ho]; exact Nat.mod_eq_of_lt (Nat.lt_trans HH.out (by decide))
      subst e
      obtain ⟨n, hn⟩ : ∃ n, n = l % 13 := ⟨_, rfl⟩
      have hm : (l : Int) % 13 = (n : Int) := by omega
      have hn13 : n < 13 := by omega
      have HN := Lib.hid (fun w => mix_Narrow o (5 * (n : Int)) HH.out w)
      obtain ⟨p, hp⟩ : ∃ p, p = narrowN o (5 * (n : Int)) := ⟨_, rfl⟩
      have hpp : p = o % 2 ^ (5 * n) := by rw [hp, narrowN, show (min (max (5 * (n : Int)) 0) 64).toNat = 5 * n by omega]
      have HPL : Hid (p < 18446744073709551616) := by show _ < _; rw [hp]; exact narrowN_lt _ HH.out
      rw [← hp] at HN
      have HP := Lib.hid hpp
      have HL2 := Lib.hid hn13
      clear ho hn hp hpp
      go_wp2_with fail
      refine (HN.out _).mono ?_; rintro e w1 ⟨rfl, rfl⟩
      go_wp2_with fail
      go_loop [39] (fun c => ∃ j : Nat, j ≤ 13 ∧ c = .int .i64 j) (fun c => 13 - (intOf c).toNat)
      case atStart => exact ⟨0, by omega, rfl⟩
      case round =>
        obtain ⟨j, hj, rfl⟩ := hrel
        by_cases h1 : j < 13
        · have e1 : ∀ x : Nat, chunkN x j = x / 2 ^ (5 * j) % 32 := fun x => by rw [chunkN, if_pos (by omega)]; rw [show (5 * (j : Int)).toNat = 5 * j by omega]
          have C1 := Lib.hid (fun w => mix_Chunk p j HPL.out w)
          by_cases h2 : j < n
          · have C2 := Lib.hid (fun w => mix_Chunk o j HH.out w)
            have e2 : chunkN p j = chunkN o j := by rw [e1, e1, HP.out]; exact chunk_low_lt o n j h2
            rw [e2] at C1
            have h3 : ¬ (n : Int) ≤ j := by omega
            clear e1 e2
            go_wp2_with fail
            refine (C1.out _).mono ?_; rintro e w1 ⟨rfl, rfl⟩
            go_wp2_with fail
            refine (C2.out _).mono ?_; rintro e w1 ⟨rfl, rfl⟩
            go_wp2_with fail
            go_round
            case rel => exact ⟨j + 1, by omega, by go_num⟩
            case measure => simp [intOf]; omega
          · have e2 : chunkN p j = 0 := by rw [e1, HP.out]; exact chunk_low_ge o n j (by omega)
            rw [e2] at C1
            have h3 : (n : Int) ≤ j := by omega
            clear e1 e2
            go_wp2_with fail
            refine (C1.out _).mono ?_; rintro e w1 ⟨rfl, rfl⟩
            go_wp2_with fail
            go_round
            case rel => exact ⟨j + 1, by omega, by go_num⟩
            case measure => simp [intOf]; omega
        · go_wp2_with fail
          refine (live_all _).mono ?_; rintro e w1 ⟨rfl, rfl⟩
          go_wp2_with fail
          go_ret
          exact ⟨rfl, Below.refl _ _⟩
end Go.Proofs.Yteikjkfeadpdhaa
