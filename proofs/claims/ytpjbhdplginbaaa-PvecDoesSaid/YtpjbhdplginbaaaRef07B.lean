/- Layer 7: the document's own answers: Set, Keep, Levels. -/
import Derived.Test.YtpjbhdplginbaaaRef07
namespace Go.Proofs.Ytpjbhdplginbaaa
open Go.RowKit
set_option maxRecDepth 1000000
set_option linter.unusedSimpArgs false

set_option maxHeartbeats 1000000 in
theorem ref_Set7 {S : Nat → Prop} (v : Value) (l : List Int) (i x : Int) (w : World) (hl : Lst S w v l) (hlen : l.length ≤ 1000000) : Calls Try.prog 25 #[v, .int .i64 i, .int .i64 x] w fun e w' => ∃ v', e = .returned (.tuple #[v', .int .i64 (if 0 ≤ i ∧ i < l.length then 0 else 4)]) ∧ (0 ≤ i ∧ i < l.length → Lst (fun _ => True) w' v' (l.set i.toNat x)) ∧ Below w.heap.size w w' := by
  by_cases hi : 0 ≤ i ∧ i < l.length
  · simp only [if_pos hi]
    obtain ⟨j, rfl⟩ : ∃ j : Nat, i = (j : Int) := ⟨i.toNat, by omega⟩
    have hj : j < l.length := by omega
    rw [Int.toNat_natCast]
    have HC := Lib.hid (ref_Copied v l w hl hlen)
    obtain ⟨a, c, rfl, _⟩ := hl
    have hj' : (j : Int) < l.length := by omega
    have HJ := Lib.hid hj
    clear hi hj
    go_enter Try.func25, Try.ntmps25
    go_wp2_with (first
      | (go_at_call 23; with_reducible refine HC.out.mono ?_; rintro e w2 ⟨v2, rfl, hi2, hb2⟩; obtain ⟨g2, c2, cs2, rfl, hcap2, hg0, hg2, hsz2, hcs2⟩ := hi2.pos (by have := HJ.out; omega); have HG2 := Lib.hid hg2; have HCS2 := Lib.hid hcs2; have HB2 := Lib.hid hb2; have HG0 := Lib.hid hg0; have HSZ2 := Lib.hid hsz2; clear hg2 hcs2 hb2 hi2 hg0 hsz2)
      | (refine st_cell rfl 3 _ _ rfl g2 j (.int .i64 x) rfl rfl rfl 3 cs2 HG2.out int_size (by have := HSZ2.out; have := HJ.out; omega) ?_; intro w3 h3 k3))
    go_ret2
    refine ⟨_, rfl, fun _ => ⟨_, c2, by rw [List.length_set]; rfl, by rw [List.length_set]; exact hcap2, .inr ⟨g2, _, (0, 0), rfl, trivial, h3, fun q hq => ?_⟩⟩, HB2.out.trans (k3.below HG0.out)⟩
    rw [List.length_set] at hq
    rw [Array.getElem?_setIfInBounds]
    by_cases e : j = q
    · subst e
      rw [if_pos rfl, if_pos (by have := HSZ2.out; omega)]
      simp [List.getD_eq_getElem?_getD, hq]
    · rw [if_neg e, HCS2.out q hq, List.getD_eq_getElem?_getD, List.getD_eq_getElem?_getD, List.getElem?_set_ne e]
  · simp only [if_neg hi]
    obtain ⟨a, c, rfl, _⟩ := hl
    have HI := Lib.hid hi
    by_cases h0 : i < 0
    · clear hi
      go_enter Try.func25, Try.ntmps25
      go_wp2_with fail
      go_ret2
      exact ⟨_, rfl, fun h => by have := HI.out; omega, Below.refl _ _⟩
    · have h1 : (l.length : Int) ≤ i := by omega
      clear hi
      go_enter Try.func25, Try.ntmps25
      go_wp2_with fail
      go_ret2
      exact ⟨_, rfl, fun h => by have := HI.out; omega, Below.refl _ _⟩
set_option maxHeartbeats 1000000 in
theorem ref_Keep7 {S : Nat → Prop} (v : Value) (l : List Int) (n : Int) (w : World) (hl : Lst S w v l) (hlen : l.length ≤ 1000000) : Calls Try.prog 26 #[v, .int .i64 n] w fun e w' => ∃ v', e = .returned v' ∧ Owns w.heap.size v' (l.take n.toNat) w' ∧ Below w.heap.size w w' := by
  obtain ⟨k, hk⟩ : ∃ k, k = min n.toNat l.length := ⟨_, rfl⟩
  have hm : min (max n 0) (l.length : Int) = (k : Int) := by omega
  have hkl : k ≤ l.length := by omega
  have HT : Hid (l.take n.toNat = l.take k) := by
    show _ = _
    rw [hk]
    by_cases e : n.toNat ≤ l.length
    · rw [Nat.min_eq_left e]
    · rw [Nat.min_eq_right (by omega), List.take_of_length_le (by omega), List.take_length]
  obtain ⟨a, c, rfl, _⟩ := id hl
  obtain ⟨h1, hcut⟩ := lst_take hl k hkl
  have HC := Lib.hid (ref_Copied _ _ w h1 (by rw [List.length_take]; omega))
  clear hk hl h1
  go_enter Try.func26, Try.ntmps26
  go_wp2_with (go_at_call 23; with_reducible refine HC.out.mono ?_; rintro e w2 ⟨v2, rfl, hi2, hb2⟩; have HI2 := Lib.hid hi2; have HB2 := Lib.hid hb2; clear hi2 hb2)
  go_ret
  exact ⟨_, rfl, by rw [HT.out]; exact HI2.out, HB2.out⟩
set_option maxHeartbeats 2000000 in
theorem ref_Levels7 (n : Nat) (hn : n ≤ 1000000) (w : World) : Calls Try.prog 30 #[.int .i64 (n : Int)] w fun e w' => e = .returned (.int .i64 (levN (othN n) : Nat)) ∧ w' = w := by
  have hle := oth_le n
  obtain ⟨T, hT⟩ : ∃ T, T = n - othN n := ⟨_, rfl⟩
  have hT2 : (n = 0 ∧ T = 0) ∨ (0 < n ∧ 0 < T ∧ T ≤ 32 ∧ T ≤ n) := by
    rcases Nat.eq_zero_or_pos n with e | e
    · left; subst e; exact ⟨rfl, by rw [hT]; rfl⟩
    · have := oth_tail e; right; omega
  have hTm : (n - T) % 32 = 0 := by have := oth_mod n; rw [hT, show n - (n - othN n) = othN n by omega]; exact this
  have HT := Lib.hid (show n - T = othN n by omega)
  have hn6 : (n : Int) ≤ 1000000 := by omega
  have HT2 := Lib.hid hT2
  have HTM := Lib.hid hTm
  obtain ⟨M, hM⟩ : ∃ M, M = othN n := ⟨_, rfl⟩
  rw [← hM] at HT hle ⊢
  clear hT hT2 hTm hM
  go_enter Try.func30, Try.ntmps30
  go_wp2_with fail
  go_loopw [3] (fun v wl => ∃ k : Nat, k ≤ T ∧ v = .int .i64 (k : Int) ∧ w = wl) (fun v _ => T - (intOf v).toNat)
  case atStart => exact ⟨0, Nat.zero_le _, rfl, rfl⟩
  case round =>
    obtain ⟨k, hk, rfl, rfl⟩ := hrel
    have h2 := HT2.out
    have h3 := HTM.out
    by_cases hlt : k < T
    · have e1 : (k : Int) < (n : Int) := by omega
      have hk1 : (k : Int) ≤ 32 := by omega
      by_cases h0 : k = 0
      · subst h0
        clear h2 h3
        go_wp2_with fail
        go_roundw
        case rel => exact ⟨1, by omega, by simp, trivial⟩
        case measure => simp [intOf]; omega
      · have e2 : ((k : Int) == 0) = false := beq_eq_false_iff_ne.2 (by omega)
        obtain ⟨r, hr⟩ : ∃ r, r = (n - k) % 32 := ⟨_, rfl⟩
        have e3 : ((n : Int) - (k : Int)) % 32 = (r : Int) := by omega
        have e4 : ((r : Int) != 0) = true := by simp; omega
        have e5 : (r : Int) ≤ 32 := by omega
        clear h2 h3 hr
        go_wp2_with fail
        go_roundw
        case rel => exact ⟨k + 1, by omega, by simp, trivial⟩
        case measure => simp [intOf]; omega
    · obtain rfl : k = T := by omega
      rcases h2 with ⟨rfl, rfl⟩ | ⟨h5, h6, h7, h8⟩
      · obtain rfl : M = 0 := by omega
        go_wp2_with fail
        go_ret
        exact ⟨rfl, rfl⟩
      · have e0 : ((k : Int) == 0) = false := beq_eq_false_iff_ne.2 (by omega)
        have e1 : (k : Int) ≤ 32 := by omega
        have e2 : ((n : Int) - (k : Int)) = ((M : Nat) : Int) := by have := HT.out; omega
        have e3 : ((M : Nat) : Int) % 32 = 0 := by have := HT.out; omega
        have e4 : (M : Int) ≤ 1000000 := by omega
        have HM32 : Hid (M % 32 = 0) := by show _ = _; omega
        clear h5 h6 h7 h8 h3
        by_cases hM0 : M = 0
        · subst hM0
          go_wp2_with fail
          go_ret
          exact ⟨rfl, rfl⟩
        · have e5 : ((M : Int) == 0) = false := beq_eq_false_iff_ne.2 (by omega)
          have HL := Lib.hid (show 1 ≤ levN M ∧ levN M ≤ 4 ∧ M ≤ 32 ^ levN M from ⟨lev_pos (by omega), lev_le M, lev_room (by omega)⟩)
          go_wp2_with fail
          go_loopw [5, 6] (fun v r wl => ∃ j : Nat, 1 ≤ j ∧ j ≤ levN M ∧ v = .int .i64 (j : Int) ∧ r = .int .i64 ((32 ^ j : Nat) : Int) ∧ w = wl) (fun v _ _ => levN M - (intOf v).toNat)
          case atStart => exact ⟨1, Nat.le_refl _, HL.out.1, rfl, by simp, rfl⟩
          case round =>
            obtain ⟨j, hj1, hj, rfl, rfl, rfl⟩ := hrel
            have hl := HL.out
            have hp : 32 ^ j ≤ 1048576 := by
              have := Nat.pow_le_pow_right (show 0 < 32 by decide) (show j ≤ 4 by omega)
              simpa using this
            obtain ⟨R, hR⟩ : ∃ R, R = 32 ^ j := ⟨_, rfl⟩
            have hj4 : (j : Int) ≤ 4 := by omega
            rw [← hR] at hp
            rw [show (((32 ^ j : Nat)) : Int) = (R : Int) by rw [hR]]
            have hp' : (R : Int) ≤ 1048576 := by omega
            by_cases hlt : j < levN M
            · have hm := lev_more (m := M) (by omega)
              have hm2 : 32 ^ j ≤ 32 ^ (levN M - 1) := Nat.pow_le_pow_right (by decide) (by omega)
              have hRM : (R : Int) < (M : Int) := by omega
              have HR := Lib.hid hR
              clear hl hp hR hm hm2
              go_wp2_with fail
              go_roundw
              case rel => exact ⟨j + 1, by omega, by omega, by simp, by rw [Nat.pow_succ, ← HR.out]; simp, trivial⟩
              case measure => simp [intOf]; omega
            · obtain rfl : j = levN M := by omega
              have hRM : ¬ (R : Int) < (M : Int) := by omega
              clear hl hp hR
              go_wp2_with fail
              go_ret
              exact ⟨rfl, rfl⟩
end Go.Proofs.Ytpjbhdplginbaaa
