/- Layer 7's laws: the chapter's examples; has a vector just these things. -/
import Derived.Test.YtpjbhdplginbaaaLaw07Spec
namespace Go.Proofs.Ytpjbhdplginbaaa
open Go.RowKit
set_option maxRecDepth 1000000
set_option linter.unusedSimpArgs false

theorem VecG.levV {w : World} {c : Array Value} {f : Nat → Int} {n : Nat} (h : VecAt w c f n) : Calls Try.prog 22 #[.agg c] w fun e W' => e = .returned (.int .i64 (levN (othN n) : Nat)) ∧ Below w.heap.size w W' := by
  have := pv_Levels w h
  rwa [show n - (n - othN n) = othN n by have := oth_le n; omega] at this
theorem ex7_get : getF (fun i => (runL 0 (Int.toNat 33)).getD i 0) (Int.toNat 33) 32 = (32, true) := by decide +kernel
set_option maxHeartbeats 4000000 in
theorem live7 (w : World) : Calls Try.prog 8 #[] w fun e w' => e = .returned (.bool true) ∧ Below w.heap.size w w' := by
  have HR33 := Lib.hid (fun w => ref_Run 0 33 (by decide) w)
  have HR32 := Lib.hid (fun w => ref_Run 0 32 (by decide) w)
  go_enter Try.func8, Try.ntmps8
  go_upto_region 3 with (first
    | (go_at_call 15; with_reducible refine (HR33.out _).mono ?_; rintro e w1 ⟨v1, rfl, hi1, hb1⟩; have hl1 := hi1.lst.spot; rw [runL_len] at hl1; have HOF := Lib.hid (pv_Of w1 _ hl1 (by decide)); have HB1 := Lib.hid hb1; clear hi1 hb1 hl1)
    | (go_at_call 14; with_reducible refine HOF.out.mono ?_; rintro e w2 ⟨c2, rfl, hv2, hb2⟩; have HV2 := Lib.hid hv2; have HB2 := Lib.hid (HB1.out.trans (hb2.mono HB1.out.size)); clear hv2 hb2)
    | (refine st_agg rfl 30 _ _ rfl w2.heap.size c2 rfl rfl 30 #[.int .i64 0, .slice none 0 0, .slice none 0 0, .slice none 0 0] (heap_alloc_last w2 _) (by rw [VecG.size HV2.out]; exact vec_size) (by rw [VecG.size HV2.out]; rfl) (VecG.one HV2.out) ?_; intro w3 h3 k3; have HX3 := Lib.hid h3; have HV3 := Lib.hid (VecAt.but (VecAt.later HV2.out (Below.newly' w2 _)) k3 (heap_alloc_last w2 _) (by decide) (by decide)); have HB3 := Lib.hid ((HB2.out.alloc HB2.out.size _).trans (k3.below HB2.out.size)); have hg3 := pv_Get w3 HV3.out 32; rw [ex7_get] at hg3; have HG3 := Lib.hid hg3; clear h3 k3 hg3)
    | (refine ld_if rfl 30 _ rfl w2.heap.size rfl 30 _ _ _ HX3.out Try.underlying30 rfl (by rw [VecG.size HV2.out]; exact vec_size) ?_)
    | (go_at_call 11; with_reducible refine HG3.out.mono ?_; rintro e w4 ⟨rfl, hb⟩; have HX4 := Lib.hid ((hb.block _ (Array.getElem?_eq_some_iff.1 HX3.out).1).trans HX3.out); have HV4 := Lib.hid (VecAt.later HV3.out hb); have HB4 := Lib.hid (HB3.out.trans (hb.mono HB3.out.size)); clear hb))
  have hlev : ((levN (othN (Int.toNat 33)) : Nat) : Int) = 1 := by decide
  have hlev0 : ((levN (othN (Int.toNat 32)) : Nat) : Int) = 0 := by decide
  have HL4 := Lib.hid (pv_Len w4 HV4.out)
  have HLV := Lib.hid (fun w (h : VecAt w c2 (fun i => (runL 0 (Int.toNat 33)).getD i 0) (Int.toNat 33)) => VecG.levV h)
  rw [hlev] at HLV
  go_wp2_with (first
    | (refine ld_if (by rfl) 30 _ rfl w2.heap.size rfl 30 _ _ _ HX4.out Try.underlying30 rfl (by rw [VecG.size HV2.out]; exact vec_size) ?_)
    | (go_at_call 21; with_reducible refine HL4.out.mono ?_; rintro e w5 ⟨rfl, hb⟩; have HX5 := Lib.hid ((hb.block _ (Array.getElem?_eq_some_iff.1 HX4.out).1).trans HX4.out); have HV5 := Lib.hid (VecAt.later HV4.out hb); have HB5 := Lib.hid (HB4.out.trans (hb.mono HB4.out.size)); clear hb)
    | (refine ld_if (by rfl) 30 _ rfl w2.heap.size rfl 30 _ _ _ HX5.out Try.underlying30 rfl (by rw [VecG.size HV2.out]; exact vec_size) ?_)
    | (go_at_call 22; with_reducible refine (HLV.out w5 HV5.out).mono ?_; rintro e w6 ⟨rfl, hb⟩; have HB6 := Lib.hid (HB5.out.trans (hb.mono HB5.out.size)); clear hb)
    | (go_at_call 15; with_reducible refine (HR32.out _).mono ?_; rintro e w7 ⟨v7, rfl, hi7, hb7⟩; have hl7 := hi7.lst.spot; rw [runL_len] at hl7; have HOF7 := Lib.hid (pv_Of w7 _ hl7 (by decide)); have HB7 := Lib.hid (HB6.out.trans (hb7.mono HB6.out.size)); clear hi7 hb7 hl7)
    | (go_at_call 14; with_reducible refine HOF7.out.mono ?_; rintro e w8 ⟨c8, rfl, hv8, hb8⟩; have hlv8 := VecG.levV hv8; rw [hlev0] at hlv8; have HLV8 := Lib.hid hlv8; have HB8 := Lib.hid (HB7.out.trans (hb8.mono HB7.out.size)); clear hv8 hb8 hlv8)
    | (go_at_call 22; with_reducible refine HLV8.out.mono ?_; rintro e w9 ⟨rfl, hb⟩; have HB9 := Lib.hid (HB8.out.trans (hb.mono HB8.out.size)); clear hb))
  go_ret
  exact ⟨rfl, HB9.out⟩
set_option maxHeartbeats 4000000 in
theorem same7 {S : Nat → Prop} (c : Array Value) (v : Value) (l : List Int) (w : World) (hv : VL w c l) (hl : Lst S w v l) : Calls Try.prog 13 #[.agg c, v] w fun e w' => e = .returned (.bool true) ∧ Below w.heap.size w w' := by
  have hn := hv.len
  have hn6 : (l.length : Int) ≤ 1000000 := by omega
  have HN := Lib.hid hn
  have HS := Lib.hid hv.size
  have HV := Lib.hid hv
  have HL := Lib.hid hl
  obtain ⟨w1, hw1⟩ : ∃ w1, w.alloc (.cells c 30) = w1 := ⟨_, rfl⟩
  have hb1 : Below w.heap.size w w1 := by rw [← hw1]; exact Below.newly' _ _
  have HX1 : Hid (w1.heap[w.heap.size]? = some (.cells c 30 (0, 0))) := by show _ = _; rw [← hw1]; exact heap_alloc_last _ _
  have HB1 := Lib.hid hb1
  have HLEN := Lib.hid (fun w' (h : Below w.heap.size w w') => pv_Len w' (VL.later hv h))
  have HLEV := Lib.hid (fun w' (h : Below w.heap.size w w') => VecG.levV (VL.later hv h))
  have HLEV2 := Lib.hid (ref_Levels7 l.length hn)
  have HLIST := Lib.hid (fun w' (h : Below w.heap.size w w') => pv_List w' c _ _ (VL.later hv h))
  rw [lsF_getD] at HLIST
  obtain ⟨a, cp, rfl, _⟩ := hl.shape
  obtain ⟨N, hN⟩ : ∃ N, N = l.length := ⟨_, rfl⟩
  obtain ⟨M, hM⟩ : ∃ M, M = levN (othN l.length) := ⟨_, rfl⟩
  rw [← hM] at HLEV HLEV2
  rw [← hN] at HLEN HLEV2 HL hn6 ⊢
  have HNN := Lib.hid hN
  clear hv hl hn hb1 hN hM
  go_enter Try.func13, Try.ntmps13
  go_upto_region 1 with fail
  clear hw1
  go_upto_region 4 with (first
    | (refine ld_if (by rfl) 30 _ rfl w.heap.size rfl 30 _ _ _ HX1.out Try.underlying30 rfl (by rw [HS.out]; exact vec_size) ?_)
    | (go_at_call 21; with_reducible refine (HLEN.out w1 HB1.out).mono ?_; rintro e w2 ⟨rfl, hb⟩; have HX2 := Lib.hid ((hb.block _ (Array.getElem?_eq_some_iff.1 HX1.out).1).trans HX1.out); have HB2 := Lib.hid (HB1.out.trans (hb.mono HB1.out.size)); clear hb)
    | (refine ld_if (by rfl) 30 _ rfl w.heap.size rfl 30 _ _ _ HX2.out Try.underlying30 rfl (by rw [HS.out]; exact vec_size) ?_)
    | (go_at_call 22; with_reducible refine (HLEV.out w2 HB2.out).mono ?_; rintro e w3 ⟨rfl, hb⟩; have HX3 := Lib.hid ((hb.block _ (Array.getElem?_eq_some_iff.1 HX2.out).1).trans HX2.out); have HB3 := Lib.hid (HB2.out.trans (hb.mono HB2.out.size)); clear hb)
    | (go_at_call 30; with_reducible refine (HLEV2.out _).mono ?_; rintro e w4 ⟨rfl, hw4⟩; obtain rfl := hw4.symm)
    | (refine ld_if (by rfl) 30 _ rfl w.heap.size rfl 30 _ _ _ HX3.out Try.underlying30 rfl (by rw [HS.out]; exact vec_size) ?_)
    | (go_at_call 17; with_reducible refine (HLIST.out w3 HB3.out).mono ?_; rintro e w5 ⟨v5, rfl, hi5, hb⟩; have HX5 := Lib.hid ((hb.block _ (Array.getElem?_eq_some_iff.1 HX3.out).1).trans HX3.out); have HB5 := Lib.hid (HB3.out.trans (hb.mono HB3.out.size)); have hsame := ref_Same _ _ l w5 hi5.lst (HL.out.later HB5.out) HN.out; have HSM := Lib.hid hsame; clear hb hi5 hsame)
    | (go_at_call 18; with_reducible refine HSM.out.mono ?_; rintro e w6 ⟨rfl, hb⟩; have HX6 := Lib.hid ((hb.block _ (Array.getElem?_eq_some_iff.1 HX5.out).1).trans HX5.out); have HB6 := Lib.hid (HB5.out.trans (hb.mono HB5.out.size)); clear hb))
  obtain ⟨w7, hw7⟩ : ∃ w7, w7 = w6.alloc (.cells #[.int .i64 (-1), .int .i64 0, .int .i64 31, .int .i64 32, .int .i64 ((N : Int) - 1), .int .i64 (N : Int)] 3) := ⟨_, rfl⟩
  have hx7 : w7.heap[w6.heap.size]? = some (.cells #[.int .i64 (-1), .int .i64 0, .int .i64 31, .int .i64 32, .int .i64 ((N : Int) - 1), .int .i64 (N : Int)] 3 (0, 0)) := by rw [hw7]; exact heap_alloc_last _ _
  have hb7 : Below w.heap.size w w7 := by rw [hw7]; exact HB6.out.alloc HB6.out.size _
  have HX7 : Hid (w7.heap[w.heap.size]? = some (.cells c 30 (0, 0))) := by show _ = _; rw [hw7]; exact ((Below.newly' w6 _).block _ (Array.getElem?_eq_some_iff.1 HX6.out).1).trans HX6.out
  have HB7 := Lib.hid hb7
  have HC7 : Hid (∀ k : Nat, k < 6 → ∃ z : Int, w7.cell? ⟨w6.heap.size, k, none⟩ = some (.int .i64 z)) := by
    intro k hk
    rcases (show k = 0 ∨ k = 1 ∨ k = 2 ∨ k = 3 ∨ k = 4 ∨ k = 5 by omega) with rfl | rfl | rfl | rfl | rfl | rfl <;> exact ⟨_, cell_in hx7 rfl⟩
  have HBL : Hid (w6.heap.size < w7.heap.size) := (Array.getElem?_eq_some_iff.1 hx7).1
  rw [← hw7]
  obtain ⟨B, hB⟩ : ∃ B, B = w6.heap.size := ⟨_, rfl⟩
  rw [← hB] at HC7 HBL ⊢
  clear hw7 hx7 hb7 hB
  go_loopw [38] (fun i wl => ∃ k : Nat, k ≤ 6 ∧ i = .int .i64 (k : Int) ∧ Below w7.heap.size w7 wl) (fun i _ => 6 - (intOf i).toNat)
  case atStart => exact ⟨0, by omega, rfl, Below.refl _ _⟩
  case round =>
    obtain ⟨k, hk, rfl, hb⟩ := hrel
    have HW := Lib.hid hb
    have HWW := Lib.hid (HB7.out.trans (hb.mono HB7.out.size))
    by_cases hlt : k < 6
    · obtain ⟨z, hz⟩ := HC7.out k hlt
      have hcell := (hb.cell (p := ⟨B, k, none⟩) HBL.out).trans hz
      have HX8 := Lib.hid ((hb.block _ (Array.getElem?_eq_some_iff.1 HX7.out).1).trans HX7.out)
      have hlt' : (k : Int) < 6 := by omega
      have hk0 : 0 ≤ (k : Int) := by omega
      have HG := Lib.hid (pv_Get wr (VecAt.later HV.out HWW.out) z)
      have HG2 := Lib.hid (fun w' (h : Below w.heap.size w w') => ref_Get7 _ l z w' (HL.out.later h))
      obtain ⟨⟨y, q⟩, hyq⟩ : ∃ p, p = getF (fun i => l.getD i 0) l.length z := ⟨_, rfl⟩
      rw [← hyq] at HG HG2
      simp only at HG HG2
      clear hb hz hyq hlt
      go_wp2_with (first
        | (refine ld_if (by rfl) 30 _ rfl w.heap.size rfl 30 _ _ _ HX8.out Try.underlying30 rfl (by rw [HS.out]; exact vec_size) ?_)
        | (go_at_call 11; with_reducible refine HG.out.mono ?_; rintro e w9 ⟨rfl, hb⟩; have HW9 := Lib.hid (HW.out.trans (hb.mono HW.out.size)); have HWW9 := Lib.hid (HWW.out.trans (hb.mono HWW.out.size)); clear hb)
        | (go_at_call 12; with_reducible refine (HG2.out _ HWW9.out).mono ?_; rintro e w10 ⟨rfl, hw10⟩; obtain rfl := hw10.symm))
      go_roundw
      case rel => exact ⟨k + 1, by omega, by simp, HW9.out⟩
      case measure => simp [intOf]; omega
    · have hlt' : ¬ (k : Int) < 6 := by omega
      go_wp2_with fail
      go_ret
      exact ⟨rfl, HWW.out⟩
end Go.Proofs.Ytpjbhdplginbaaa
