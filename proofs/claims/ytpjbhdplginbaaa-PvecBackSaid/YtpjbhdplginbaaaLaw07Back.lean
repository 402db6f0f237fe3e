/- Layer 7's law PvecBack, over package pvec as it landed. (written by tools/gen07/back.py) -/
import Derived.Test.YtpjbhdplginbaaaLaw07VL
namespace Go.Proofs.Ytpjbhdplginbaaa
open Go.RowKit
set_option maxRecDepth 1000000
set_option linter.unusedSimpArgs false

theorem runL_one (x : Int) (hx : wrap64 x = x) : runL x 1 = [x] := by simp [runL, List.range_succ, hx]
theorem back_take (n j : Nat) : (runL 0 n ++ runL 1000 (j + 1)).take ((runL 0 n ++ runL 1000 (j + 1)).length - 1) = runL 0 n ++ runL 1000 j := by
  rw [runL_succ, ← List.append_assoc]
  generalize runL 0 n ++ runL 1000 j = A
  simp
theorem back_last (n j : Nat) (hj : j ≤ 300) : getF (fun i => (runL 0 n ++ runL 1000 (j + 1)).getD i 0) (runL 0 n ++ runL 1000 (j + 1)).length (((runL 0 n ++ runL 1000 (j + 1)).length : Int) - 1) = (1000 + (j : Int), true) := by
  have hl : (runL 0 n ++ runL 1000 (j + 1)).length = n + (j + 1) := by rw [List.length_append, runL_len, runL_len]
  unfold getF
  rw [hl, if_pos (by omega), show ((n + (j + 1) : Nat) - 1 : Int).toNat = n + j by omega]
  congr 1
  show (runL 0 n ++ runL 1000 (j + 1)).getD (n + j) 0 = _
  rw [List.getD_eq_getElem?_getD, List.getElem?_append_right (by rw [runL_len]; omega), runL_len, Nat.add_sub_cancel_left, ← List.getD_eq_getElem?_getD, runL_at _ (by omega)]
  unfold wrap64; omega
set_option maxHeartbeats 4000000 in
theorem pvecBack_of (n more : Int) (w : World) : Calls Try.prog 6 #[.int .i64 n, .int .i64 more] w fun e w' => e = .returned (.bool true) ∧ Below w.heap.size w w' := by
  have HB := Lib.hid (Below.refl w.heap.size w)
  by_cases h1 : n < 0
  · go_enter Try.func6, Try.ntmps6
    go_wp2_with (go_at_call 8; with_reducible refine (live7 _).mono ?_; rintro e w1 ⟨rfl, hb⟩; replace HB := Lib.hid (HB.out.trans (hb.mono HB.out.size)); clear hb)
    go_ret
    exact ⟨rfl, HB.out⟩
  by_cases h2 : 2500 < n
  · go_enter Try.func6, Try.ntmps6
    go_wp2_with (go_at_call 8; with_reducible refine (live7 _).mono ?_; rintro e w1 ⟨rfl, hb⟩; replace HB := Lib.hid (HB.out.trans (hb.mono HB.out.size)); clear hb)
    go_ret
    exact ⟨rfl, HB.out⟩
  by_cases h3 : more < 0
  · go_enter Try.func6, Try.ntmps6
    go_wp2_with (go_at_call 8; with_reducible refine (live7 _).mono ?_; rintro e w1 ⟨rfl, hb⟩; replace HB := Lib.hid (HB.out.trans (hb.mono HB.out.size)); clear hb)
    go_ret
    exact ⟨rfl, HB.out⟩
  by_cases h4 : 300 < more
  · go_enter Try.func6, Try.ntmps6
    go_wp2_with (go_at_call 8; with_reducible refine (live7 _).mono ?_; rintro e w1 ⟨rfl, hb⟩; replace HB := Lib.hid (HB.out.trans (hb.mono HB.out.size)); clear hb)
    go_ret
    exact ⟨rfl, HB.out⟩
  obtain ⟨N, rfl⟩ : ∃ N : Nat, n = (N : Int) := ⟨n.toNat, by omega⟩
  obtain ⟨M, rfl⟩ : ∃ M : Nat, more = (M : Int) := ⟨more.toNat, by omega⟩
  have HRUN := Lib.hid (fun w => ref_Run 0 (N : Int) (by omega) w)
  rw [Int.toNat_natCast] at HRUN
  have HN := Lib.hid (show N ≤ 2500 ∧ M ≤ 300 by omega)
  have hM : (M : Int) ≤ 300 := by omega
  go_enter Try.func6, Try.ntmps6
  go_upto_region 5 with (first
    | (go_at_call 8; with_reducible refine (live7 _).mono ?_; rintro e w1 ⟨rfl, hb⟩; replace HB := Lib.hid (HB.out.trans (hb.mono HB.out.size)); clear hb)
    | (go_at_call 15; with_reducible refine (HRUN.out _).mono ?_; rintro e w2 ⟨v2, rfl, hi2, hb⟩; have HOF := Lib.hid (pv_OfL w2 _ hi2.lst (by rw [runL_len]; have := HN.out; omega)); have HB2 := Lib.hid (HB.out.trans (hb.mono HB.out.size)); clear hi2 hb)
    | (go_at_call 14; with_reducible refine HOF.out.mono ?_; rintro e w3 ⟨c3, rfl, hv3, hb⟩; have HC3 := Lib.hid hv3; have HB3 := Lib.hid (HB2.out.trans (hb.mono HB2.out.size)); clear hv3 hb)
    | (refine st_agg rfl 30 _ _ rfl w3.heap.size c3 rfl rfl 30 #[.int .i64 0, .slice none 0 0, .slice none 0 0, .slice none 0 0] (heap_alloc_last w3 _) (by rw [VL.size HC3.out]; exact vec_size) (by rw [VL.size HC3.out]; rfl) (VL.one HC3.out) ?_; intro w4 h4 k4; have HX4 := Lib.hid h4; have HC4 := Lib.hid (VL.but (VL.later HC3.out (Below.newly' w3 _)) k4 (heap_alloc_last w3 _) (by decide) (by decide)); have HB4 := Lib.hid ((HB3.out.alloc HB3.out.size _).trans (k4.below HB3.out.size)); clear h4 k4)
    | (refine ld_if rfl 30 _ rfl w3.heap.size rfl 30 _ _ _ HX4.out Try.underlying30 rfl (by rw [VL.size HC4.out]; exact vec_size) ?_)
    | (refine st_agg rfl 30 _ _ rfl w4.heap.size c3 rfl rfl 30 #[.int .i64 0, .slice none 0 0, .slice none 0 0, .slice none 0 0] (heap_alloc_last w4 _) (by rw [VL.size HC3.out]; exact vec_size) (by rw [VL.size HC3.out]; rfl) (VL.one HC3.out) ?_; intro w5 h5 k5; have HY5 := Lib.hid h5; have hb := Below.newly' w4 (.cells #[.int .i64 0, .slice none 0 0, .slice none 0 0, .slice none 0 0] 30); have HX5 := Lib.hid (k5.other ((hb.block _ (Array.getElem?_eq_some_iff.1 HX4.out).1).trans HX4.out) (by have := (Array.getElem?_eq_some_iff.1 HX4.out).1; omega)); have HC5 := Lib.hid (VL.but (VL.later HC4.out hb) k5 (heap_alloc_last w4 _) (by decide) (by decide)); have HB5 := Lib.hid ((HB4.out.alloc HB4.out.size _).trans (k5.below HB4.out.size)); clear h5 k5 hb))
  have HXY := Lib.hid (show w.heap.size ≤ w3.heap.size ∧ w3.heap.size < w4.heap.size from ⟨HB3.out.size, (Array.getElem?_eq_some_iff.1 HX4.out).1⟩)
  obtain ⟨X, hX⟩ : ∃ X, X = w3.heap.size := ⟨_, rfl⟩
  obtain ⟨Y, hY⟩ : ∃ Y, Y = w4.heap.size := ⟨_, rfl⟩
  rw [← hX, ← hY] at HXY
  rw [← hX] at HX5
  rw [← hY] at HY5
  rw [← hX, ← hY]
  have HSZc3 := Lib.hid (VL.size HC5.out)
  clear hX hY HC3 HC4 HX4 HB2 HB3 HB4 HOF HB h1 h2 h3 h4
  go_wp2_with fail
  go_loopw [35] (fun iv wl => ∃ (k : Nat) (cw : Array Value), iv = .int .i64 (k : Int) ∧ k ≤ M ∧ wl.heap[X]? = some (.cells c3 30 (0, 0)) ∧ wl.heap[Y]? = some (.cells cw 30 (0, 0)) ∧ VL wl c3 (runL 0 N) ∧ VL wl cw (runL 0 N ++ runL 1000 k) ∧ Below w.heap.size w wl) (fun iv _ => M - (intOf iv).toNat)
  case atStart => exact ⟨0, c3, rfl, by omega, HX5.out, HY5.out, HC5.out, by simpa [runL] using HC5.out, HB5.out⟩
  case round =>
    clear HX5 HY5 HC5 HB5
    obtain ⟨k, cw, rfl, hk, hx, hy, hc, hv, hb⟩ := hrel
    have HX6 := Lib.hid hx
    have HY6 := Lib.hid hy
    have HC6 := Lib.hid hc
    have HD6 := Lib.hid hv
    have HB6 := Lib.hid hb
    have HSZcw := Lib.hid (VL.size hv)
    have HONE := Lib.hid (VL.one hv)
    clear hx hy hc hv hb
    by_cases hlt : k < M
    · have hlt' : (k : Int) < (M : Int) := by omega
      have hk0 : 0 ≤ (k : Int) := by omega
      have HE : runL 0 N ++ runL 1000 (k + 1) = (runL 0 N ++ runL 1000 k) ++ [1000 + (k : Int)] := by
        rw [runL_succ, List.append_assoc, show wrap64 (1000 + (k : Int)) = 1000 + (k : Int) by unfold wrap64; omega]
      have hp := pv_PushL (wr.alloc (.cells #[.int .i64 (1000 + (k : Int))] 3)) _ (VL.later HD6.out (Below.newly' _ _)) (lst_lit (w := wr) #[.int .i64 (1000 + (k : Int))] [1000 + (k : Int)] rfl rfl) (by rw [List.length_append, runL_len, runL_len]; have := HN.out; simp; omega)
      rw [← HE] at hp
      have HP := Lib.hid hp
      clear HE hp
      clear hlt
      go_wp2_with (first
        | (refine ld_if rfl 30 _ rfl Y rfl 30 _ _ _ HY6.out Try.underlying30 rfl (by rw [HSZcw.out]; exact vec_size) ?_)
        | (go_at_call 19; refine HP.out.mono ?_; rintro e w7 ⟨c7, rfl, hv7, hb⟩; have hb := (Below.newly' wr _).trans (hb.mono (Below.newly' wr _).size); have HX7 := Lib.hid ((hb.block _ (Array.getElem?_eq_some_iff.1 HX6.out).1).trans HX6.out); have HY7 := Lib.hid ((hb.block _ (Array.getElem?_eq_some_iff.1 HY6.out).1).trans HY6.out); have HC7 := Lib.hid (VL.later HC6.out hb); have HB7 := Lib.hid (HB6.out.trans (hb.mono HB6.out.size)); have HD7 := Lib.hid hv7; clear hb hv7)
        | (refine st_agg rfl 30 _ _ rfl Y c7 rfl rfl 30 cw HY7.out (by rw [VL.size HD7.out]; exact vec_size) (by rw [VL.size HD7.out, HSZcw.out]) (VL.one HD7.out) ?_; intro w8 h8 k8))
      go_roundw
      case rel => exact ⟨k + 1, c7, by simp, by omega, k8.other HX7.out (by have := HXY.out; omega), h8, VL.but HC7.out k8 HY7.out (by decide) (by decide), VL.but HD7.out k8 HY7.out (by decide) (by decide), HB7.out.trans (k8.below (by have := HXY.out; omega))⟩
      case measure => simp [intOf]; omega
    · obtain rfl : k = M := by omega
      go_wp2_with fail
      go_loopw [45] (fun iv wl => ∃ (j : Nat) (cw : Array Value), iv = .int .i64 (j : Int) ∧ j ≤ k ∧ wl.heap[X]? = some (.cells c3 30 (0, 0)) ∧ wl.heap[Y]? = some (.cells cw 30 (0, 0)) ∧ VL wl c3 (runL 0 N) ∧ VL wl cw (runL 0 N ++ runL 1000 (k - j)) ∧ Below w.heap.size w wl) (fun iv _ => k - (intOf iv).toNat)
      case atStart => exact ⟨0, cw, rfl, by omega, HX6.out, HY6.out, HC6.out, HD6.out, HB6.out⟩
      case round =>
        clear HX6 HY6 HC6 HD6 HB6 HSZcw HONE
        obtain ⟨j, cw, rfl, hj, hx, hy, hc, hv, hb⟩ := hrel
        have HX9 := Lib.hid hx
        have HY9 := Lib.hid hy
        have HC9 := Lib.hid hc
        have HD9 := Lib.hid hv
        have HB9 := Lib.hid hb
        have HSZcw := Lib.hid (VL.size hv)
        clear hx hy hc hv hb
        by_cases hlt : j < k
        · have hlt' : (j : Int) < (k : Int) := by omega
          have hj0 : 0 ≤ (j : Int) := by omega
          obtain ⟨i, hi⟩ : ∃ i, i = k - j - 1 := ⟨_, rfl⟩
          rw [show k - j = i + 1 by omega] at HD9
          have hp := pv_PopL wr HD9.out (back_last N i (by omega)) (back_take N i)
          rw [show (1000 + (i : Int)) = 1000 + (k : Int) - 1 - (j : Int) by omega] at hp
          have HP := Lib.hid hp
          have HI := Lib.hid hi
          clear hp hlt hi
          go_wp2_with (first
            | (refine ld_if rfl 30 _ rfl Y rfl 30 _ _ _ HY9.out Try.underlying30 rfl (by rw [HSZcw.out]; exact vec_size) ?_)
            | (go_at_call 20; with_reducible refine HP.out.mono ?_; rintro e w7 ⟨c7, rfl, hv7, hb⟩; have HD7 := Lib.hid hv7; have HX7 := Lib.hid ((hb.block _ (Array.getElem?_eq_some_iff.1 HX9.out).1).trans HX9.out); have HY7 := Lib.hid ((hb.block _ (Array.getElem?_eq_some_iff.1 HY9.out).1).trans HY9.out); have HC7 := Lib.hid (VL.later HC9.out hb); have HB7 := Lib.hid (HB9.out.trans (hb.mono HB9.out.size)); clear hb hv7)
            | (refine st_agg rfl 30 _ _ rfl Y c7 rfl rfl 30 cw HY7.out (by rw [VL.size HD7.out]; exact vec_size) (by rw [VL.size HD7.out, HSZcw.out]) (VL.one HD7.out) ?_; intro w8 h8 k8; have HX8 := Lib.hid (k8.other HX7.out (by have := HXY.out; omega)); have HY8 := Lib.hid h8; have HC8 := Lib.hid (VL.but HC7.out k8 HY7.out (by decide) (by decide)); have HD8 := Lib.hid (VL.but HD7.out k8 HY7.out (by decide) (by decide)); have HB8 := Lib.hid (HB7.out.trans (k8.below (by have := HXY.out; omega))); clear h8 k8))
          go_roundw
          case rel => exact ⟨j + 1, c7, by simp, by omega, HX8.out, HY8.out, HC8.out, by rw [show k - (j + 1) = i by have := HI.out; omega]; exact HD8.out, HB8.out⟩
          case measure => simp [intOf]; omega
        · obtain rfl : j = k := by omega
          have hv9 := HD9.out
          rw [Nat.sub_self, show runL 0 N ++ runL 1000 0 = runL 0 N by simp [runL]] at hv9
          obtain ⟨L, hL⟩ : ∃ L, L = runL 0 N := ⟨_, rfl⟩
          have HLL : Hid (L.length = N) := by show _ = _; rw [hL, runL_len]
          rw [← hL] at hv9 HC9
          obtain ⟨Z, hZ⟩ : ∃ Z, levN (othN L.length) = Z := ⟨_, rfl⟩
          have HZ := Lib.hid hZ
          go_upto_region 19 with fail
          have hb := drawn_below wr
          have HX10 := Lib.hid ((hb.block _ (Array.getElem?_eq_some_iff.1 HX9.out).1).trans HX9.out)
          have HY10 := Lib.hid ((hb.block _ (Array.getElem?_eq_some_iff.1 HY9.out).1).trans HY9.out)
          have HC10 := Lib.hid (VL.later HC9.out hb)
          have HD10 := Lib.hid (VL.later hv9 hb)
          have HB10 := Lib.hid (HB9.out.trans (hb.mono HB9.out.size))
          clear hb hv9 hL hZ HX9 HY9 HC9 HD9 HB9
          refine wp_region_T (S := fun V => V.heap[X]? = some (.cells c3 30 (0, 0)) ∧ V.heap[Y]? = some (.cells cw 30 (0, 0))) [] (by kernel_rfl) (by first | exact ⟨HX10.out, HY10.out⟩ | exact ⟨HX11.out, HY11.out⟩ | exact ⟨HX12.out, HY12.out⟩ | exact ⟨HX13.out, HY13.out⟩ | exact ⟨HX14.out, HY14.out⟩ | exact ⟨HX15.out, HY15.out⟩ | exact ⟨HX16.out, HY16.out⟩) (fun hHeld => ?_)
          refine wpAnyT_take (i := 0) (oi := ⟨some 66, _, _, _, _, _⟩) (v := _) rfl (by kernel_rfl) (by kernel_rfl) (by kernel_rfl) (by kernel_rfl) (fun _ _ _ h => h) (yieldsIf_load_row (by rfl) 30 _ rfl Y rfl cw 30 (0, 0) _ (fun w hw => hw.2) Try.underlying30 rfl (by rw [HSZcw.out]; exact vec_size)) (by assumption) ?_
          (try simp only [Act.put, List.setIfInBounds_toArray, List.set_cons_zero, List.set_cons_succ])
          refine wpAnyT_take (i := 2) (oi := ⟨some 68, _, _, _, _, _⟩) (v := ?vg3_2) rfl (by kernel_rfl) (by kernel_rfl) (by kernel_rfl) (by kernel_rfl) (fun _ _ _ h => h) (Or.inl ⟨by rfl, ?hg3_2⟩) (by assumption) ?rg3_2
          case hg3_2 => (intro w hSw; (try dsimp only at hSw); first | (go_simp; done) | (go_simp; with_reducible rfl))
          (try simp only [Act.put, List.setIfInBounds_toArray, List.set_cons_zero, List.set_cons_succ])
          refine wpAnyT_one (i := 1) (o := ⟨some 67, _, _, _, _, _⟩) (by kernel_rfl) rfl (fun K hK => ?_)
          go_simp
          go_at_call 21
          with_reducible refine (pv_LenL _ HD10.out HLL.out).mono ?_
          rintro e w11 ⟨rfl, hb⟩
          have HX11 := Lib.hid ((hb.block _ (Array.getElem?_eq_some_iff.1 HX10.out).1).trans HX10.out); have HY11 := Lib.hid ((hb.block _ (Array.getElem?_eq_some_iff.1 HY10.out).1).trans HY10.out); have HC11 := Lib.hid (VL.later HC10.out hb); have HB11 := Lib.hid (HB10.out.trans (hb.mono HB10.out.size)); have HD11 := Lib.hid (VL.later HD10.out hb)
          clear hb
          dsimp only
          refine hK.out _ _ (by first | exact ⟨HX10.out, HY10.out⟩ | exact ⟨HX11.out, HY11.out⟩ | exact ⟨HX12.out, HY12.out⟩ | exact ⟨HX13.out, HY13.out⟩ | exact ⟨HX14.out, HY14.out⟩ | exact ⟨HX15.out, HY15.out⟩ | exact ⟨HX16.out, HY16.out⟩) (fun hHeld => ?_)
          clear hK K
          (try simp only [Act.put, List.setIfInBounds_toArray, List.set_cons_zero, List.set_cons_succ])
          refine wpAnyT_take (i := 3) (oi := ⟨some 69, _, _, _, _, _⟩) (v := ?vg3_3) rfl (by kernel_rfl) (by kernel_rfl) (by kernel_rfl) (by kernel_rfl) (fun _ _ _ h => h) (Or.inl ⟨by rfl, ?hg3_3⟩) (by assumption) ?rg3_3
          case hg3_3 => (intro w hSw; (try dsimp only at hSw); first | (go_simp; done) | (go_simp; with_reducible rfl))
          (try simp only [Act.put, List.setIfInBounds_toArray, List.set_cons_zero, List.set_cons_succ])
          refine wpAnyT_take (i := 4) (oi := ⟨some 70, _, _, _, _, _⟩) (v := ?vg3_4) rfl (by kernel_rfl) (by kernel_rfl) (by kernel_rfl) (by kernel_rfl) (fun _ _ _ h => h) (Or.inl ⟨by rfl, ?hg3_4⟩) (by assumption) ?rg3_4
          case hg3_4 => (intro w hSw; (try dsimp only at hSw); first | (go_simp; done) | (go_simp; with_reducible rfl))
          (try simp only [Act.put, List.setIfInBounds_toArray, List.set_cons_zero, List.set_cons_succ])
          refine wpAnyT_take (i := 5) (oi := ⟨some 71, _, _, _, _, _⟩) (v := _) rfl (by kernel_rfl) (by kernel_rfl) (by kernel_rfl) (by kernel_rfl) (fun _ _ _ h => h) (yieldsIf_load_row (by rfl) 30 _ rfl Y rfl cw 30 (0, 0) _ (fun w hw => hw.2) Try.underlying30 rfl (by rw [HSZcw.out]; exact vec_size)) (by assumption) ?_
          (try simp only [Act.put, List.setIfInBounds_toArray, List.set_cons_zero, List.set_cons_succ])
          refine wpAnyT_take (i := 7) (oi := ⟨some 73, _, _, _, _, _⟩) (v := _) rfl (by kernel_rfl) (by kernel_rfl) (by kernel_rfl) (by kernel_rfl) (fun _ _ _ h => h) (yieldsIf_load_row (by rfl) 30 _ rfl X rfl c3 30 (0, 0) _ (fun w hw => hw.1) Try.underlying30 rfl (by rw [HSZc3.out]; exact vec_size)) (by assumption) ?_
          (try simp only [Act.put, List.setIfInBounds_toArray, List.set_cons_zero, List.set_cons_succ])
          refine wpAnyT_one (i := 6) (o := ⟨some 72, _, _, _, _, _⟩) (by kernel_rfl) rfl (fun K hK => ?_)
          go_simp
          go_at_call 22
          with_reducible refine (pv_LevL _ HD11.out HZ.out).mono ?_
          rintro e w12 ⟨rfl, hb⟩
          have HX12 := Lib.hid ((hb.block _ (Array.getElem?_eq_some_iff.1 HX11.out).1).trans HX11.out); have HY12 := Lib.hid ((hb.block _ (Array.getElem?_eq_some_iff.1 HY11.out).1).trans HY11.out); have HC12 := Lib.hid (VL.later HC11.out hb); have HB12 := Lib.hid (HB11.out.trans (hb.mono HB11.out.size)); have HD12 := Lib.hid (VL.later HD11.out hb)
          clear hb
          dsimp only
          refine hK.out _ _ (by first | exact ⟨HX10.out, HY10.out⟩ | exact ⟨HX11.out, HY11.out⟩ | exact ⟨HX12.out, HY12.out⟩ | exact ⟨HX13.out, HY13.out⟩ | exact ⟨HX14.out, HY14.out⟩ | exact ⟨HX15.out, HY15.out⟩ | exact ⟨HX16.out, HY16.out⟩) (fun hHeld => ?_)
          clear hK K
          (try simp only [Act.put, List.setIfInBounds_toArray, List.set_cons_zero, List.set_cons_succ])
          refine wpAnyT_one (i := 8) (o := ⟨some 74, _, _, _, _, _⟩) (by kernel_rfl) rfl (fun K hK => ?_)
          go_simp
          go_at_call 22
          with_reducible refine (pv_LevL _ HC12.out HZ.out).mono ?_
          rintro e w13 ⟨rfl, hb⟩
          have HX13 := Lib.hid ((hb.block _ (Array.getElem?_eq_some_iff.1 HX12.out).1).trans HX12.out); have HY13 := Lib.hid ((hb.block _ (Array.getElem?_eq_some_iff.1 HY12.out).1).trans HY12.out); have HC13 := Lib.hid (VL.later HC12.out hb); have HB13 := Lib.hid (HB12.out.trans (hb.mono HB12.out.size)); have HD13 := Lib.hid (VL.later HD12.out hb)
          clear hb
          dsimp only
          refine hK.out _ _ (by first | exact ⟨HX10.out, HY10.out⟩ | exact ⟨HX11.out, HY11.out⟩ | exact ⟨HX12.out, HY12.out⟩ | exact ⟨HX13.out, HY13.out⟩ | exact ⟨HX14.out, HY14.out⟩ | exact ⟨HX15.out, HY15.out⟩ | exact ⟨HX16.out, HY16.out⟩) (fun hHeld => ?_)
          clear hK K
          (try simp only [Act.put, List.setIfInBounds_toArray, List.set_cons_zero, List.set_cons_succ])
          refine wpAnyT_take (i := 9) (oi := ⟨some 75, _, _, _, _, _⟩) (v := ?vg3_9) rfl (by kernel_rfl) (by kernel_rfl) (by kernel_rfl) (by kernel_rfl) (fun _ _ _ h => h) (Or.inl ⟨by rfl, ?hg3_9⟩) (by assumption) ?rg3_9
          case hg3_9 => (intro w hSw; (try dsimp only at hSw); first | (go_simp; done) | (go_simp; with_reducible rfl))
          (try simp only [Act.put, List.setIfInBounds_toArray, List.set_cons_zero, List.set_cons_succ])
          refine wpAnyT_take (i := 10) (oi := ⟨some 76, _, _, _, _, _⟩) (v := ?vg3_10) rfl (by kernel_rfl) (by kernel_rfl) (by kernel_rfl) (by kernel_rfl) (fun _ _ _ h => h) (Or.inl ⟨by rfl, ?hg3_10⟩) (by assumption) ?rg3_10
          case hg3_10 => (intro w hSw; (try dsimp only at hSw); first | (go_simp; done) | (go_simp; with_reducible rfl))
          (try simp only [Act.put, List.setIfInBounds_toArray, List.set_cons_zero, List.set_cons_succ])
          refine wpAnyT_take (i := 11) (oi := ⟨some 77, _, _, _, _, _⟩) (v := ?vg3_11) rfl (by kernel_rfl) (by kernel_rfl) (by kernel_rfl) (by kernel_rfl) (fun _ _ _ h => h) (Or.inl ⟨by rfl, ?hg3_11⟩) (by assumption) ?rg3_11
          case hg3_11 => (intro w hSw; (try dsimp only at hSw); first | (go_simp; done) | (go_simp; with_reducible rfl))
          (try simp only [Act.put, List.setIfInBounds_toArray, List.set_cons_zero, List.set_cons_succ])
          refine wpAnyT_take (i := 12) (oi := ⟨some 78, _, _, _, _, _⟩) (v := _) rfl (by kernel_rfl) (by kernel_rfl) (by kernel_rfl) (by kernel_rfl) (fun _ _ _ h => h) (yieldsIf_load_row (by rfl) 30 _ rfl Y rfl cw 30 (0, 0) _ (fun w hw => hw.2) Try.underlying30 rfl (by rw [HSZcw.out]; exact vec_size)) (by assumption) ?_
          (try simp only [Act.put, List.setIfInBounds_toArray, List.set_cons_zero, List.set_cons_succ])
          refine wpAnyT_take (i := 14) (oi := ⟨some 80, _, _, _, _, _⟩) (v := _) rfl (by kernel_rfl) (by kernel_rfl) (by kernel_rfl) (by kernel_rfl) (fun _ _ _ h => h) (yieldsIf_load_row (by rfl) 30 _ rfl X rfl c3 30 (0, 0) _ (fun w hw => hw.1) Try.underlying30 rfl (by rw [HSZc3.out]; exact vec_size)) (by assumption) ?_
          (try simp only [Act.put, List.setIfInBounds_toArray, List.set_cons_zero, List.set_cons_succ])
          refine wpAnyT_one (i := 13) (o := ⟨some 79, _, _, _, _, _⟩) (by kernel_rfl) rfl (fun K hK => ?_)
          go_simp
          go_at_call 17
          with_reducible refine (pv_ListL _ HD13.out).mono ?_
          rintro e w14 ⟨v14, rfl, hi14, hb⟩
          have HX14 := Lib.hid ((hb.block _ (Array.getElem?_eq_some_iff.1 HX13.out).1).trans HX13.out); have HY14 := Lib.hid ((hb.block _ (Array.getElem?_eq_some_iff.1 HY13.out).1).trans HY13.out); have HC14 := Lib.hid (VL.later HC13.out hb); have HB14 := Lib.hid (HB13.out.trans (hb.mono HB13.out.size)); have HD14 := Lib.hid (VL.later HD13.out hb); have HI14 := Lib.hid hi14.lst
          clear hb
          dsimp only
          refine hK.out _ _ (by first | exact ⟨HX10.out, HY10.out⟩ | exact ⟨HX11.out, HY11.out⟩ | exact ⟨HX12.out, HY12.out⟩ | exact ⟨HX13.out, HY13.out⟩ | exact ⟨HX14.out, HY14.out⟩ | exact ⟨HX15.out, HY15.out⟩ | exact ⟨HX16.out, HY16.out⟩) (fun hHeld => ?_)
          clear hK K
          (try simp only [Act.put, List.setIfInBounds_toArray, List.set_cons_zero, List.set_cons_succ])
          refine wpAnyT_one (i := 15) (o := ⟨some 81, _, _, _, _, _⟩) (by kernel_rfl) rfl (fun K hK => ?_)
          go_simp
          go_at_call 17
          with_reducible refine (pv_ListL _ HC14.out).mono ?_
          rintro e w15 ⟨v15, rfl, hi15, hb⟩
          have HX15 := Lib.hid ((hb.block _ (Array.getElem?_eq_some_iff.1 HX14.out).1).trans HX14.out); have HY15 := Lib.hid ((hb.block _ (Array.getElem?_eq_some_iff.1 HY14.out).1).trans HY14.out); have HC15 := Lib.hid (VL.later HC14.out hb); have HB15 := Lib.hid (HB14.out.trans (hb.mono HB14.out.size)); have HD15 := Lib.hid (VL.later HD14.out hb); have HI15 := Lib.hid (Lst.later HI14.out hb); have HJ15 := Lib.hid hi15.lst
          clear hb
          dsimp only
          refine hK.out _ _ (by first | exact ⟨HX10.out, HY10.out⟩ | exact ⟨HX11.out, HY11.out⟩ | exact ⟨HX12.out, HY12.out⟩ | exact ⟨HX13.out, HY13.out⟩ | exact ⟨HX14.out, HY14.out⟩ | exact ⟨HX15.out, HY15.out⟩ | exact ⟨HX16.out, HY16.out⟩) (fun hHeld => ?_)
          clear hK K
          (try simp only [Act.put, List.setIfInBounds_toArray, List.set_cons_zero, List.set_cons_succ])
          refine wpAnyT_one (i := 16) (o := ⟨some 82, _, _, _, _, _⟩) (by kernel_rfl) rfl (fun K hK => ?_)
          go_simp
          go_at_call 18
          with_reducible refine (ref_Same v14 v15 L _ HI15.out HJ15.out (by rw [HLL.out]; have := HN.out; omega)).mono ?_
          rintro e w16 ⟨rfl, hb⟩
          have HX16 := Lib.hid ((hb.block _ (Array.getElem?_eq_some_iff.1 HX15.out).1).trans HX15.out); have HY16 := Lib.hid ((hb.block _ (Array.getElem?_eq_some_iff.1 HY15.out).1).trans HY15.out); have HC16 := Lib.hid (VL.later HC15.out hb); have HB16 := Lib.hid (HB15.out.trans (hb.mono HB15.out.size)); have HD16 := Lib.hid (VL.later HD15.out hb)
          clear hb
          dsimp only
          refine hK.out _ _ (by first | exact ⟨HX10.out, HY10.out⟩ | exact ⟨HX11.out, HY11.out⟩ | exact ⟨HX12.out, HY12.out⟩ | exact ⟨HX13.out, HY13.out⟩ | exact ⟨HX14.out, HY14.out⟩ | exact ⟨HX15.out, HY15.out⟩ | exact ⟨HX16.out, HY16.out⟩) (fun hHeld => ?_)
          clear hK K
          (try simp only [Act.put, List.setIfInBounds_toArray, List.set_cons_zero, List.set_cons_succ])
          refine wpAnyT_take (i := 17) (oi := ⟨some 83, _, _, _, _, _⟩) (v := ?vg3_17) rfl (by kernel_rfl) (by kernel_rfl) (by kernel_rfl) (by kernel_rfl) (fun _ _ _ h => h) (Or.inl ⟨by rfl, ?hg3_17⟩) (by assumption) ?rg3_17
          case hg3_17 => (intro w hSw; (try dsimp only at hSw); first | (go_simp; done) | (go_simp; with_reducible rfl))
          (try simp only [Act.put, List.setIfInBounds_toArray, List.set_cons_zero, List.set_cons_succ])
          refine wpAnyT_one (i := 18) (o := ⟨some 4, _, _, _, _, _⟩) (by kernel_rfl) rfl (fun K hK => ?_)
          go_simp
          refine hK.out _ _ (by first | exact ⟨HX10.out, HY10.out⟩ | exact ⟨HX11.out, HY11.out⟩ | exact ⟨HX12.out, HY12.out⟩ | exact ⟨HX13.out, HY13.out⟩ | exact ⟨HX14.out, HY14.out⟩ | exact ⟨HX15.out, HY15.out⟩ | exact ⟨HX16.out, HY16.out⟩) (fun hHeld => ?_)
          clear hK K
          (try simp only [Act.put, List.setIfInBounds_toArray, List.set_cons_zero, List.set_cons_succ])
          refine wpAnyT_done (by kernel_rfl) ?_ _
          go_wp2_with fail
          go_ret
          exact ⟨rfl, HB16.out⟩
end Go.Proofs.Ytpjbhdplginbaaa
