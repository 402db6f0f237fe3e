/- Layer 7's law PvecFlat, over package pvec as it landed. (written by tools/gen07/flat.py) -/
import Derived.Test.YtpjbhdplginbaaaLaw07Script
namespace Go.Proofs.Ytpjbhdplginbaaa
open Go.RowKit
set_option maxRecDepth 1000000
set_option linter.unusedSimpArgs false

set_option maxHeartbeats 4000000 in
theorem pvecFlat_of (v : Value) (l : List Op7) (w : World) (hl : Ops7 w v l) : Calls Try.prog 7 #[v] w fun e w' => e = .returned (.bool true) ∧ Below w.heap.size w w' := by
  have HB := Lib.hid (Below.refl w.heap.size w)
  have HFEW := Lib.hid (fun W (h : Below w.heap.size w W) => few7 v l W (hl.later h))
  obtain ⟨ad, cap, bb, oo, rfl, h1, h2, hmax⟩ := hl
  have HLO := Lib.hid h1
  have HLC := Lib.hid h2
  clear h1 h2
  by_cases hf : fewB l = true
  case neg =>
    rw [show fewB l = false by simpa using hf] at HFEW
    clear hf
    go_enter Try.func7, Try.ntmps7
    go_wp2_with (first
      | (go_at_call 8; with_reducible refine (live7 _).mono ?_; rintro e w1 ⟨rfl, hb⟩; replace HB := Lib.hid (HB.out.trans (hb.mono HB.out.size)); clear hb)
      | (go_at_call 9; with_reducible refine (HFEW.out _ HB.out).mono ?_; rintro e w1 ⟨rfl, hb⟩; replace HB := Lib.hid (HB.out.trans (hb.mono HB.out.size)); clear hb))
    go_ret
    exact ⟨rfl, HB.out⟩
  have HF := Lib.hid hf
  rw [hf] at HFEW
  have hm63 : (l.length : Int) ≤ 40 := by have := (few_ops hf).2.2; omega
  clear hf hmax
  go_enter Try.func7, Try.ntmps7
  go_upto_region 5 with (first
    | (go_at_call 8; with_reducible refine (live7 _).mono ?_; rintro e w1 ⟨rfl, hb⟩; replace HB := Lib.hid (HB.out.trans (hb.mono HB.out.size)); clear hb)
    | (go_at_call 9; with_reducible refine (HFEW.out _ HB.out).mono ?_; rintro e w1 ⟨rfl, hb⟩; replace HB := Lib.hid (HB.out.trans (hb.mono HB.out.size)); clear hb))
  obtain ⟨W, hW⟩ : ∃ W, (w1.alloc (.cells #[.int .i64 0, .slice none 0 0, .slice none 0 0, .slice none 0 0] 30)).alloc (.cells #[] 3) = W := ⟨_, rfl⟩
  rw [hW]
  obtain ⟨hb, hx, _, _⟩ := pair_new hW
  have HL0 := Lib.hid (lst_none2 hW)
  have HX0 := Lib.hid hx
  have HB0 := Lib.hid (HB.out.trans (hb.mono HB.out.size))
  have HXB : Hid (w.heap.size ≤ w1.heap.size) := HB.out.size
  obtain ⟨X, hX⟩ : ∃ X, X = w1.heap.size := ⟨_, rfl⟩
  rw [← hX] at HL0 HX0 HXB ⊢
  clear hb hx hW hX HB HFEW
  go_wp2_with fail
  go_loopw [4, 19] (fun lv iv wl => ∃ (n : Nat) (c : Array Value), n ≤ l.length ∧ iv = .int .i64 (n : Int) ∧ wl.heap[X]? = some (.cells c 30 (0, 0)) ∧ VL wl c (aft [] l n) ∧ Lst (fun _ => True) wl lv (aft [] l n) ∧ Below w.heap.size w wl) (fun _ iv _ => l.length - (intOf iv).toNat)
  case atStart => exact ⟨0, _, Nat.zero_le _, rfl, HX0.out, VL.zero _, HL0.out, HB0.out⟩
  case round =>
    clear HX0 HL0 HB0
    obtain ⟨n, c, hn, rfl, hx, hc, hll, hb⟩ := hrel
    have HX := Lib.hid hx
    have HC := Lib.hid hc
    have HB := Lib.hid hb
    have HSZc := Lib.hid (VL.size hc)
    obtain ⟨L, hL⟩ : ∃ L, L = aft [] l n := ⟨_, rfl⟩
    rw [← hL] at HC hll
    have HLL := Lib.hid hL
    obtain ⟨a, cp, rfl, _⟩ := hll.shape
    have HLST := Lib.hid hll
    clear hx hc hb hL hll
    by_cases hlt : n < l.length
    · have hlt' : (n : Int) < (l.length : Int) := by omega
      have i0 : (0 : Int) ≤ (n : Int) := by omega
      have had : ad = some ⟨bb, oo, none⟩ := HLO.out (by omega)
      subst had
      have HR := Lib.hid ((HLC.out n hlt).later HB.out)
      have h15 := (few_ops HF.out).1 _ (List.getElem_mem hlt)
      have hAS := aft_succ [] l hlt
      obtain ⟨x, hx⟩ : ∃ x, x = l[n] := ⟨_, rfl⟩
      rw [← hx] at HR h15 hAS
      rw [← HLL.out] at hAS
      have hbn := Below.newly' wr (.cells (op7C x) 34)
      have HAS := Lib.hid hAS
      have hd : Done c (.slice a L.length cp) L x (wr.alloc (.cells (op7C x) 34)) := does7 c _ _ x _ (VL.later HC.out hbn) (HLST.out.later hbn) h15 (by have := aft_few [] HF.out n; rw [HLL.out]; simp at this; omega)
      have HD := Lib.hid (show Calls Try.prog 10 #[.agg c, .slice a L.length cp, .agg (op7C x)] _ _ from hd)
      have HX5 := Lib.hid ((hbn.block _ (Array.getElem?_eq_some_iff.1 HX.out).1).trans HX.out)
      have HP5 := Lib.hid (heap_alloc_last wr (.cells (op7C x) 34))
      have HB5 := Lib.hid (HB.out.trans (hbn.mono HB.out.size))
      clear hx hd hbn h15 hlt hAS
      go_wp2_with (first
        | (refine ld_op7 rfl _ rfl bb (oo + n * 4) rfl x HR.out ?_)
        | (refine ld_if rfl 30 _ rfl X rfl 30 _ _ _ HX5.out Try.underlying30 rfl (by rw [HSZc.out]; exact vec_size) ?_)
        | (refine ld_if rfl 34 _ rfl wr.heap.size rfl 34 _ _ _ HP5.out Try.underlying34 rfl op7_info ?_)
        | (go_at_call 10; with_reducible refine HD.out.mono ?_; rintro e w7 ⟨c7, v7, rfl, hv7, hl7, hb⟩; have HX7 := Lib.hid ((hb.block _ (Array.getElem?_eq_some_iff.1 HX5.out).1).trans HX5.out); have HB7 := Lib.hid (HB5.out.trans (hb.mono HB5.out.size)); have HV7 := Lib.hid hv7; have HL7 := Lib.hid hl7; clear hb hv7 hl7)
        | (refine st_agg rfl 30 _ _ rfl X c7 rfl rfl 30 c HX7.out (by rw [VL.size HV7.out]; exact vec_size) (by rw [VL.size HV7.out, HSZc.out]) (VL.one HV7.out) ?_; intro w8 h8 k8))
      go_roundw
      case rel => exact ⟨n + 1, c7, by omega, by go_num, h8, by rw [HAS.out]; exact VL.but HV7.out k8 HX7.out (by decide) (by decide), by rw [HAS.out]; exact HL7.out.but k8 HX7.out (by decide), HB7.out.trans (k8.below HXB.out)⟩
      case measure => simp [intOf]; omega
    · obtain rfl : n = l.length := by omega
      have hn6 : (L.length : Int) ≤ 5000 := by have := aft_few [] HF.out l.length; rw [← HLL.out] at this; simp at this; omega
      clear HF HLO HLC hn hlt HLST HLL
      obtain ⟨N, hN⟩ : ∃ N, L.length = N := ⟨_, rfl⟩
      have HN := Lib.hid hN
      obtain ⟨Z, hZ⟩ : ∃ Z, levN (othN L.length) = Z := ⟨_, rfl⟩
      have HZ := Lib.hid hZ
      rw [hN] at hn6
      have HN6 := Lib.hid hn6
      clear hN hZ
      go_upto_region 10 with fail
      have hb := drawn_below wr
      replace HX := Lib.hid ((hb.block _ (Array.getElem?_eq_some_iff.1 HX.out).1).trans HX.out); replace HC := Lib.hid (VL.later HC.out hb); replace HB := Lib.hid (HB.out.trans (hb.mono HB.out.size))
      clear hb
      refine wp_region_T (S := fun V => V.heap[X]? = some (.cells c 30 (0, 0))) [] (by kernel_rfl) (by exact HX.out) (fun hHeld => ?_)
      refine wpAnyT_take (i := 0) (oi := ⟨some 32, _, _, _, _, _⟩) (v := _) rfl (by kernel_rfl) (by kernel_rfl) (by kernel_rfl) (by kernel_rfl) (fun _ _ _ h => h) (yieldsIf_load_row (by rfl) 30 _ rfl X rfl c 30 (0, 0) _ (fun w hw => hw) Try.underlying30 rfl (by rw [HSZc.out]; exact vec_size)) (by assumption) ?_
      (try simp only [Act.put, List.setIfInBounds_toArray, List.set_cons_zero, List.set_cons_succ])
      refine wpAnyT_take (i := 2) (oi := ⟨some 34, _, _, _, _, _⟩) (v := _) rfl (by kernel_rfl) (by kernel_rfl) (by kernel_rfl) (by kernel_rfl) (fun _ _ _ h => h) (yieldsIf_load_row (by rfl) 30 _ rfl X rfl c 30 (0, 0) _ (fun w hw => hw) Try.underlying30 rfl (by rw [HSZc.out]; exact vec_size)) (by assumption) ?_
      (try simp only [Act.put, List.setIfInBounds_toArray, List.set_cons_zero, List.set_cons_succ])
      refine wpAnyT_one (i := 1) (o := ⟨some 33, _, _, _, _, _⟩) (by kernel_rfl) rfl (fun K hK => ?_)
      go_simp
      go_at_call 22
      with_reducible refine (pv_LevL _ HC.out HZ.out).mono ?_
      rintro e w1 ⟨rfl, hb⟩
      replace HX := Lib.hid ((hb.block _ (Array.getElem?_eq_some_iff.1 HX.out).1).trans HX.out); replace HC := Lib.hid (VL.later HC.out hb); replace HB := Lib.hid (HB.out.trans (hb.mono HB.out.size))
      clear hb
      dsimp only
      refine hK.out _ _ (by exact HX.out) (fun hHeld => ?_)
      clear hK K
      (try simp only [Act.put, List.setIfInBounds_toArray, List.set_cons_zero, List.set_cons_succ])
      refine wpAnyT_one (i := 3) (o := ⟨some 35, _, _, _, _, _⟩) (by kernel_rfl) rfl (fun K hK => ?_)
      go_simp
      go_at_call 17
      with_reducible refine (pv_ListL _ HC.out).mono ?_
      rintro e w1 ⟨v3, rfl, hi3, hb⟩
      replace HX := Lib.hid ((hb.block _ (Array.getElem?_eq_some_iff.1 HX.out).1).trans HX.out); replace HC := Lib.hid (VL.later HC.out hb); replace HB := Lib.hid (HB.out.trans (hb.mono HB.out.size)); have HI3 := Lib.hid hi3.lst; clear hi3
      clear hb
      dsimp only
      refine hK.out _ _ (by exact HX.out) (fun hHeld => ?_)
      clear hK K
      (try simp only [Act.put, List.setIfInBounds_toArray, List.set_cons_zero, List.set_cons_succ])
      refine wpAnyT_one (i := 4) (o := ⟨some 36, _, _, _, _, _⟩) (by kernel_rfl) rfl (fun K hK => ?_)
      go_simp
      go_at_call 14
      with_reducible refine (pv_OfL _ v3 HI3.out (by rw [HN.out]; have := HN6.out; omega)).mono ?_
      rintro e w1 ⟨c4, rfl, hv4, hb⟩
      replace HX := Lib.hid ((hb.block _ (Array.getElem?_eq_some_iff.1 HX.out).1).trans HX.out); replace HC := Lib.hid (VL.later HC.out hb); replace HB := Lib.hid (HB.out.trans (hb.mono HB.out.size)); have HV4 := Lib.hid hv4; clear hv4
      clear hb
      dsimp only
      refine hK.out _ _ (by exact HX.out) (fun hHeld => ?_)
      clear hK K
      (try simp only [Act.put, List.setIfInBounds_toArray, List.set_cons_zero, List.set_cons_succ])
      refine wpAnyT_one (i := 5) (o := ⟨some 37, _, _, _, _, _⟩) (by kernel_rfl) rfl (fun K hK => ?_)
      go_simp
      go_at_call 22
      with_reducible refine (pv_LevL _ HV4.out HZ.out).mono ?_
      rintro e w1 ⟨rfl, hb⟩
      replace HX := Lib.hid ((hb.block _ (Array.getElem?_eq_some_iff.1 HX.out).1).trans HX.out); replace HC := Lib.hid (VL.later HC.out hb); replace HB := Lib.hid (HB.out.trans (hb.mono HB.out.size))
      clear hb
      dsimp only
      refine hK.out _ _ (by exact HX.out) (fun hHeld => ?_)
      clear hK K
      (try simp only [Act.put, List.setIfInBounds_toArray, List.set_cons_zero, List.set_cons_succ])
      refine wpAnyT_take (i := 6) (oi := ⟨some 38, _, _, _, _, _⟩) (v := ?vg3_6) rfl (by kernel_rfl) (by kernel_rfl) (by kernel_rfl) (by kernel_rfl) (fun _ _ _ h => h) (Or.inl ⟨by rfl, ?hg3_6⟩) (by assumption) ?rg3_6
      case hg3_6 => (intro w hSw; (try dsimp only at hSw); first | (go_simp; done) | (go_simp; with_reducible rfl))
      (try simp only [Act.put, List.setIfInBounds_toArray, List.set_cons_zero, List.set_cons_succ])
      refine wpAnyT_done (by kernel_rfl) ?_ _
      by_cases hz : Z = 0
      · have t0 : ((Z : Int) == 0) = true := by rw [hz]; rfl
        have hN32 : (N : Int) ≤ 32 := by have h := lev_none (show levN (othN L.length) = 0 by rw [HZ.out, hz]); rw [HN.out] at h; omega
        clear hz
        go_wp2_with (first
          | (refine ld_if rfl 30 _ rfl X rfl 30 _ _ _ HX.out Try.underlying30 rfl (by rw [HSZc.out]; exact vec_size) ?_)
          | (go_at_call 22; with_reducible refine (pv_LevL _ HC.out HZ.out).mono ?_; rintro e w1 ⟨rfl, hb⟩; replace HX := Lib.hid ((hb.block _ (Array.getElem?_eq_some_iff.1 HX.out).1).trans HX.out); replace HC := Lib.hid (VL.later HC.out hb); replace HB := Lib.hid (HB.out.trans (hb.mono HB.out.size)); clear hb)
          | (go_at_call 21; with_reducible refine (pv_LenL _ HC.out HN.out).mono ?_; rintro e w1 ⟨rfl, hb⟩; replace HX := Lib.hid ((hb.block _ (Array.getElem?_eq_some_iff.1 HX.out).1).trans HX.out); replace HC := Lib.hid (VL.later HC.out hb); replace HB := Lib.hid (HB.out.trans (hb.mono HB.out.size)); clear hb))
        go_ret
        exact ⟨rfl, HB.out⟩
      · have t0 : ((Z : Int) == 0) = false := by rw [beq_eq_false_iff_ne]; omega
        have HZ4 : Hid (Z ≤ 4) := by show _ ≤ _; rw [← HZ.out]; exact lev_le _
        have HLO : Hid (∀ j, j < Z → 32 ^ j < N) := fun j hj => by rw [← HN.out]; exact lev_below (by rw [HZ.out]; exact hj)
        have HHI : Hid (N ≤ 32 + 32 ^ Z) := by have h := lev_above (n := L.length) (by have := HN6.out; have := HN.out; omega); rw [HZ.out, HN.out] at h; exact h
        clear hz
        go_wp2_with (first
          | (refine ld_if rfl 30 _ rfl X rfl 30 _ _ _ HX.out Try.underlying30 rfl (by rw [HSZc.out]; exact vec_size) ?_)
          | (go_at_call 22; with_reducible refine (pv_LevL _ HC.out HZ.out).mono ?_; rintro e w1 ⟨rfl, hb⟩; replace HX := Lib.hid ((hb.block _ (Array.getElem?_eq_some_iff.1 HX.out).1).trans HX.out); replace HC := Lib.hid (VL.later HC.out hb); replace HB := Lib.hid (HB.out.trans (hb.mono HB.out.size)); clear hb))
        go_loopw [7, 47] (fun rv iv wl => ∃ j : Nat, j ≤ Z ∧ rv = .int .i64 ((32 ^ j : Nat) : Int) ∧ iv = .int .i64 (j : Int) ∧ wl.heap[X]? = some (.cells c 30 (0, 0)) ∧ VL wl c L ∧ Below w.heap.size w wl) (fun _ iv _ => Z - (intOf iv).toNat)
        case atStart => exact ⟨0, Nat.zero_le _, rfl, rfl, HX.out, HC.out, HB.out⟩
        case round =>
          obtain ⟨j, hj, rfl, rfl, hx, hc, hb⟩ := hrel
          replace HX := Lib.hid hx
          replace HC := Lib.hid hc
          replace HB := Lib.hid hb
          clear hx hc hb
          obtain ⟨R, hR⟩ : ∃ R, R = 32 ^ j := ⟨_, rfl⟩
          have HR := Lib.hid hR
          rw [← hR]
          by_cases hlt : j < Z
          · have hlt' : (j : Int) < (Z : Int) := by omega
            have hRN : (R : Int) < (N : Int) := by have := HLO.out j hlt; rw [← hR] at this; omega
            have hRN' : ¬ (N : Int) ≤ (R : Int) := by omega
            have hZ4 : (Z : Int) ≤ 4 := by have := HZ4.out; omega
            have hR0 : 0 ≤ (R : Int) := by omega
            clear hR
            go_wp2_with (first
              | (refine ld_if rfl 30 _ rfl X rfl 30 _ _ _ HX.out Try.underlying30 rfl (by rw [HSZc.out]; exact vec_size) ?_)
              | (go_at_call 21; with_reducible refine (pv_LenL _ HC.out HN.out).mono ?_; rintro e w1 ⟨rfl, hb⟩; replace HX := Lib.hid ((hb.block _ (Array.getElem?_eq_some_iff.1 HX.out).1).trans HX.out); replace HC := Lib.hid (VL.later HC.out hb); replace HB := Lib.hid (HB.out.trans (hb.mono HB.out.size)); clear hb))
            go_roundw
            case rel => exact ⟨j + 1, by omega, by rw [Nat.pow_succ, ← HR.out]; simp, by simp, HX.out, HC.out, HB.out⟩
            case measure => simp [intOf]; omega
          · obtain rfl : j = Z := by omega
            have hRN : (N : Int) ≤ 32 + (R : Int) := by have := HHI.out; rw [← hR] at this; omega
            have hR2 : (R : Int) ≤ 1048576 := by
              have h1 : 32 ^ j ≤ 32 ^ 4 := Nat.pow_le_pow_right (by omega) HZ4.out
              rw [← hR] at h1
              omega
            have hR0 : 0 ≤ (R : Int) := by omega
            clear hR
            go_wp2_with (first
              | (refine ld_if rfl 30 _ rfl X rfl 30 _ _ _ HX.out Try.underlying30 rfl (by rw [HSZc.out]; exact vec_size) ?_)
              | (go_at_call 21; with_reducible refine (pv_LenL _ HC.out HN.out).mono ?_; rintro e w1 ⟨rfl, hb⟩; replace HX := Lib.hid ((hb.block _ (Array.getElem?_eq_some_iff.1 HX.out).1).trans HX.out); replace HC := Lib.hid (VL.later HC.out hb); replace HB := Lib.hid (HB.out.trans (hb.mono HB.out.size)); clear hb))
            go_ret
            exact ⟨rfl, HB.out⟩
end Go.Proofs.Ytpjbhdplginbaaa
