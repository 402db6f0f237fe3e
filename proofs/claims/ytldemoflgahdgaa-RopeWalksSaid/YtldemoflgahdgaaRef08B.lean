/- Layer 8: the document's own answers: Remove, Slice, Flat. (written by tools/gen08/ref08b.py) -/
import Derived.Test.YtldemoflgahdgaaRef08
namespace Go.Proofs.Ytldemoflgahdgaa
open Go.RowKit
set_option maxRecDepth 1000000
set_option linter.unusedSimpArgs false

set_option maxHeartbeats 2000000 in
theorem ref_Remove {S : Nat → Prop} (v : Value) (l : List Int) (i : Nat) (W : World) (hl : CutI S W v l) (hi : i < l.length) (hlen : l.length ≤ 900000) : Calls Try.prog 42 #[v, .int .i64 (i : Int)] W fun e w' => ∃ v', e = .returned (.tuple #[v', .int .i64 0]) ∧ Owns W.heap.size v' (l.take i ++ l.drop (i + 1)) w' ∧ Below W.heap.size W w' := by
  obtain ⟨a, c, rfl, _⟩ := hl.shape
  obtain ⟨i1, hi1⟩ : ∃ i1, i1 = i + 1 := ⟨_, rfl⟩
  obtain ⟨a1, c1, hc1, hr1⟩ := cutI_h hl (k := i) (by omega)
  obtain ⟨a2, c2, hc2, hr2⟩ := cutI_l hl (k := i1) (by omega)
  rw [← hi1]
  have HC1 := Lib.hid hc1
  have HC2 := Lib.hid hc2
  have HL := Lib.hid (And.intro hi hlen)
  have hlt : ¬ ((l.length : Int) ≤ (i : Int)) := by omega
  have hkw : IntKind.i64.wrap ((i : Int) + 1) = (i1 : Int) := by rw [IntKind.wrap_i64]; omega
  clear hl hc1 hc2 hi hlen hi1
  obtain ⟨w1, hw1⟩ : ∃ w1, w1 = W.drew := ⟨_, rfl⟩
  have HB1 : Hid (Below W.heap.size W w1) := by show Below _ _ _; rw [hw1]; exact drawn_below W
  go_enter Try.func42, Try.ntmps42
  go_upto_region 3 with fail
  refine wp_region_T (S := fun _ => True) [8, 9] (by kernel_rfl) (by trivial) (fun hHeld => ?_)
  rw [← hw1]
  clear hw1
  refine wpAnyT_take (i := 0) (oi := ⟨some 14, _, _, _, _, _⟩) (v := ?vg1_0) rfl (by kernel_rfl) (by kernel_rfl) (by kernel_rfl) (by kernel_rfl) (fun _ _ _ h => h) (Or.inl ⟨by rfl, ?hg1_0⟩) (by assumption) ?rg1_0
  case hg1_0 => (intro w hSw; (try dsimp only at hSw); first | (go_simp; done) | (go_simp; with_reducible rfl))
  (try simp only [Act.put, List.setIfInBounds_toArray, List.set_cons_zero, List.set_cons_succ])
  refine wpAnyT_take (i := 1) (oi := ⟨some 15, _, _, _, _, _⟩) (v := ?vg1_1) rfl (by kernel_rfl) (by kernel_rfl) (by kernel_rfl) (by kernel_rfl) (fun _ _ _ h => h) (Or.inl ⟨by rfl, ?hg1_1⟩) (by assumption) ?rg1_1
  case hg1_1 => (intro w hSw; (try dsimp only at hSw); first | (go_simp; done) | (go_simp; with_reducible rfl))
  (try simp only [Act.put, List.setIfInBounds_toArray, List.set_cons_zero, List.set_cons_succ])
  refine wpAnyT_take (i := 2) (oi := ⟨some 16, _, _, _, _, _⟩) (v := ?vg1_2) rfl (by kernel_rfl) (by kernel_rfl) (by kernel_rfl) (by kernel_rfl) (fun _ _ _ h => h) (Or.inl ⟨by rfl, ?hg1_2⟩) (by assumption) ?rg1_2
  case hg1_2 => (intro w hSw; (try dsimp only at hSw); first | (go_simp; done) | (go_simp; with_reducible rfl))
  (try simp only [Act.put, List.setIfInBounds_toArray, List.set_cons_zero, List.set_cons_succ])
  refine wpAnyT_take (i := 3) (oi := ⟨some 17, _, _, _, _, _⟩) (v := ?vg1_3) rfl (by kernel_rfl) (by kernel_rfl) (by kernel_rfl) (by kernel_rfl) (fun _ _ _ h => h) (Or.inl ⟨by rfl, ?hg1_3⟩) (by assumption) ?rg1_3
  case hg1_3 => (intro w hSw; (try dsimp only at hSw); first | (go_simp; done) | (go_simp; with_reducible rfl))
  (try simp only [Act.put, List.setIfInBounds_toArray, List.set_cons_zero, List.set_cons_succ])
  refine wpAnyT_take (i := 4) (oi := ⟨some 18, _, _, _, _, _⟩) (v := ?vg1_4) rfl (by kernel_rfl) (by kernel_rfl) (by kernel_rfl) (by kernel_rfl) (fun _ _ _ h => h) (Or.inl ⟨by rfl, ?hg1_4⟩) (by assumption) ?rg1_4
  case hg1_4 => (intro w hSw; (try dsimp only at hSw); first | (go_simp; done) | (go_simp; with_reducible rfl))
  (try simp only [Act.put, List.setIfInBounds_toArray, List.set_cons_zero, List.set_cons_succ])
  refine wpAnyT_take (i := 5) (oi := ⟨some 19, _, _, _, _, _⟩) (v := ?vg1_5) rfl (by kernel_rfl) (by kernel_rfl) (by kernel_rfl) (by kernel_rfl) (fun _ _ _ h => h) (Or.inl ⟨by rfl, ?hg1_5⟩) (by assumption) ?rg1_5
  case hg1_5 => (intro w hSw; (try dsimp only at hSw); first | (go_simp; done) | (go_simp; with_reducible rfl))
  (try simp only [Act.put, List.setIfInBounds_toArray, List.set_cons_zero, List.set_cons_succ])
  refine wpAnyT_take (i := 6) (oi := ⟨some 20, _, _, _, _, _⟩) (v := ?vg1_6) rfl (by kernel_rfl) (by kernel_rfl) (by kernel_rfl) (by kernel_rfl) (fun _ _ _ h => h) (Or.inl ⟨by rfl, ?hg1_6⟩) (by assumption) ?rg1_6
  case hg1_6 => (intro w hSw; (try dsimp only at hSw); first | (go_simp; done) | (go_simp; with_reducible rfl))
  (try simp only [Act.put, List.setIfInBounds_toArray, List.set_cons_zero, List.set_cons_succ])
  refine wpAnyT_one (i := 7) (o := ⟨some 21, _, _, _, _, _⟩) (by kernel_rfl) rfl (fun K hK => ?_)
  go_simp
  go_at_call 27
  refine (ref_Join _ _ _ _ w1 (HC1.out.later HB1.out) (HC2.out.later HB1.out) (by have := HL.out; rw [List.length_take]; omega) (by have := HL.out; rw [List.length_drop]; omega)).mono ?_
  rintro e w7 ⟨v7, rfl, hi7, hb7⟩
  have HI7 := Lib.hid hi7
  have HB7 := Lib.hid hb7
  clear hi7 hb7
  (try dsimp only)
  refine hK.out _ _ (by trivial) (fun hHeld => ?_)
  clear hK K
  (try simp only [Act.put, List.setIfInBounds_toArray, List.set_cons_zero, List.set_cons_succ])
  refine wpAnyT_last (i := 8) (o := ⟨some 4, _, _, _, _, _⟩) (by kernel_rfl) (by decide) rfl (fun K hK => ?_)
  go_simp
  refine hK.out _ _ ?_
  clear hK K
  (try simp only [Act.put, List.setIfInBounds_toArray, List.set_cons_zero, List.set_cons_succ])
  refine wpAnyT_last (i := 9) (o := ⟨some 5, _, _, _, _, _⟩) (by kernel_rfl) (by decide) rfl (fun K hK => ?_)
  go_simp
  refine hK.out _ _ ?_
  clear hK K
  (try simp only [Act.put, List.setIfInBounds_toArray, List.set_cons_zero, List.set_cons_succ])
  refine wpAnyT_done (by kernel_rfl) ?_ _
  go_wp2_with fail
  go_ret2
  exact ⟨_, rfl, owns_mono HI7.out HB1.out.size, HB1.out.trans (HB7.out.mono HB1.out.size)⟩
set_option maxHeartbeats 1000000 in
theorem ref_Remove_out {S : Nat → Prop} (v : Value) (l : List Int) (i : Int) (W : World) (hl : CutI S W v l) (hi : ¬ (0 ≤ i ∧ i < l.length)) : Calls Try.prog 42 #[v, .int .i64 i] W fun e w' => e = .returned (.tuple #[.slice none 0 0, .int .i64 4]) ∧ Below W.heap.size W w' := by
  obtain ⟨a, c, rfl, _⟩ := hl.shape
  clear hl
  by_cases h0 : i < 0
  · clear hi
    go_enter Try.func42, Try.ntmps42
    go_wp2_with fail
    go_ret2
    exact ⟨rfl, Below.refl _ _⟩
  · have h1 : (l.length : Int) ≤ i := by omega
    clear hi
    go_enter Try.func42, Try.ntmps42
    go_wp2_with fail
    go_ret2
    exact ⟨rfl, Below.refl _ _⟩
set_option maxHeartbeats 2000000 in
theorem ref_Slice {S : Nat → Prop} (v : Value) (l : List Int) (lo hi : Int) (W : World) (hl : CutI S W v l) (hlo : InR lo) (hhi : InR hi) (hlen : l.length ≤ 900000) : Calls Try.prog 43 #[v, .int .i64 lo, .int .i64 hi] W fun e w' => ∃ v', e = .returned v' ∧ Owns W.heap.size v' (cutL l lo hi) w' ∧ Below W.heap.size W w' := by
  obtain ⟨p, q, ha, hb, hab, hbn⟩ := cut_nat lo hi l.length
  obtain ⟨a1, c1, hc1, hr1⟩ := cutI_lh hl hab hbn
  have HCUT := Lib.hid (fun V => ref_Cut lo hi l.length V hlo hhi (by unfold InR; omega))
  rw [ha, hb] at HCUT
  have HE : cutL l lo hi = pieceL l p q := by unfold cutL; rw [ha, hb]; rfl
  rw [HE]
  have HCOP := Lib.hid (ref_CopiedC _ _ W hc1 (by rw [piece_len hbn]; omega))
  obtain ⟨a, c, rfl, _⟩ := hl.shape
  obtain ⟨n, hn⟩ : ∃ n, n = l.length := ⟨_, rfl⟩
  rw [← hn] at HCUT hr1 ⊢
  obtain ⟨l', hl'⟩ : ∃ l', l' = pieceL l p q := ⟨_, rfl⟩
  rw [← hl'] at HCOP ⊢
  clear hl hc1 hlo hhi hlen ha hb hab hbn HE hn hl'
  go_enter Try.func43, Try.ntmps43
  go_wp2_with (first
    | (go_at_call 50; refine (HCUT.out _).mono ?_; rintro e w1 ⟨rfl, rfl⟩)
    | (go_at_call 44; refine HCOP.out.mono ?_; rintro e w2 ⟨v2, rfl, hi2, hb2⟩; have HI2 := Lib.hid hi2; have HB2 := Lib.hid hb2; clear hi2 hb2))
  go_ret
  exact ⟨_, rfl, HI2.out, HB2.out⟩
set_option maxHeartbeats 2000000 in
theorem ref_Flat (n d : Nat) (W : World) (h : DepthOk d n) (hn : n ≤ 100000) : Calls Try.prog 14 #[.int .i64 (n : Int), .int .i64 (d : Int)] W fun e w' => e = .returned (.bool true) ∧ w' = W := by
  obtain ⟨h1, h2, h3, h4⟩ := h
  rcases Nat.eq_zero_or_pos n with h0 | h0
  · obtain rfl : d = 0 := by omega
    subst h0
    go_enter Try.func14, Try.ntmps14
    go_wp2_with fail
    go_ret
    exact ⟨rfl, rfl⟩
  · have hd : 0 < d := by omega
    have h8 : ∀ k, k < d → 8 ^ k ≤ n := fun k hk => by
      have e1 : 8 ^ k ≤ 8 ^ (d - 1) := Nat.pow_le_pow_right (by decide) (by omega)
      rcases Nat.lt_or_ge d 2 with h | h
      · obtain rfl : d = 1 := by omega
        obtain rfl : k = 0 := by omega
        rw [Nat.pow_zero]; omega
      · have := h3 h
        omega
    have hd6 : d ≤ 6 := by
      apply Nat.le_of_not_lt
      intro h
      have h7 := h8 6 h
      have : (8 : Nat) ^ 6 = 262144 := by decide
      omega
    have h16 : ∀ k, k ≤ d → 16 ^ k ≤ 16777216 := fun k hk => by
      have e1 : (16 : Nat) ^ k ≤ 16 ^ 6 := Nat.pow_le_pow_right (by decide) (by omega)
      have : (16 : Nat) ^ 6 = 16777216 := by decide
      omega
    have H8 := Lib.hid h8
    have H16 := Lib.hid h16
    have H3 := Lib.hid h3
    have H4 := Lib.hid h4
    have hn0 : ((n : Int) == 0) = false := beq_eq_false_iff_ne.2 (by omega)
    have hd0 : ((d : Int) == 0) = false := beq_eq_false_iff_ne.2 (by omega)
    have hn0' : ¬ (n : Int) = 0 := by omega
    have hd0' : ¬ (d : Int) = 0 := by omega
    have hdi : (d : Int) ≤ 6 := by omega
    have hni : (n : Int) ≤ 100000 := by omega
    have hdp : (0 : Int) < (d : Int) := by omega
    clear h1 h2 h3 h4 h8 h16
    go_enter Try.func14, Try.ntmps14
    go_wp2_with fail
    go_loopw [5, 6, 21] (fun lv mv iv wr => ∃ k P M : Nat, iv = .int .i64 (k : Int) ∧ lv = .int .i64 (P : Int) ∧ mv = .int .i64 (M : Int) ∧ k ≤ d ∧ Hid (P = 8 ^ (k - 1) ∧ M = 16 ^ k) ∧ wr = W) (fun _ _ iv _ => d - (intOf iv).toNat)
    case atStart => exact ⟨0, 1, 1, rfl, rfl, rfl, Nat.zero_le _, ⟨rfl, rfl⟩, rfl⟩
    case round =>
      obtain ⟨k, P, M, rfl, rfl, rfl, hk, HPM, rfl⟩ := hrel
      have hM : M ≤ 16777216 := by rw [HPM.out.2]; exact H16.out k hk
      have hMi : (M : Int) ≤ 16777216 := by omega
      by_cases hlt : k < d
      · have hki : (k : Int) < (d : Int) := by omega
        have hP8 := H8.out k hlt
        rcases Nat.eq_zero_or_pos k with hk0 | hk0
        · subst hk0
          obtain rfl : P = 1 := HPM.out.1
          have hle : ¬ ((n : Int) < 1) := by omega
          clear hP8
          go_wp2_with fail
          go_roundw
          case rel => exact ⟨1, 1, M * 16, by simp, by simp, by simp, by omega, ⟨rfl, by rw [HPM.out.2]⟩, trivial⟩
          case measure => simp [intOf]; omega
        · have e8 : P * 8 = 8 ^ k := by
            obtain ⟨j, rfl⟩ : ∃ j, k = j + 1 := ⟨k - 1, by omega⟩
            rw [HPM.out.1, Nat.add_sub_cancel, Nat.pow_succ]
          have hk0i : (0 : Int) < (k : Int) := by omega
          have hPi : (P : Int) ≤ 100000 := by omega
          have hle : ¬ ((n : Int) < (P : Int) * 8) := by omega
          have HE8 := Lib.hid e8
          clear hP8 e8
          go_wp2_with fail
          go_roundw
          case rel => exact ⟨k + 1, P * 8, M * 16, by simp, by simp, by simp, by omega, ⟨by rw [Nat.add_sub_cancel]; exact HE8.out, by rw [HPM.out.2, Nat.pow_succ]⟩, trivial⟩
          case measure => simp [intOf]; omega
      · obtain rfl : k = d := by omega
        have hnM : (n : Int) ≤ (M : Int) := by have := H4.out; rw [HPM.out.2]; exact_mod_cast this
        rcases Nat.lt_or_ge k 2 with h2 | h2
        · obtain rfl : k = 1 := by omega
          obtain rfl : P = 1 := HPM.out.1
          have h1n : (1 : Int) ≤ (n : Int) := by omega
          go_wp2_with fail
          go_ret
          exact ⟨rfl, rfl⟩
        · have hPn : (P : Int) * 2 ≤ (n : Int) := by have := H3.out h2; rw [← HPM.out.1] at this; omega
          have h2i : (1 : Int) < (k : Int) := by omega
          have hPi : (P : Int) ≤ 100000 := by omega
          go_wp2_with fail
          go_ret
          exact ⟨rfl, rfl⟩
end Go.Proofs.Ytldemoflgahdgaa
