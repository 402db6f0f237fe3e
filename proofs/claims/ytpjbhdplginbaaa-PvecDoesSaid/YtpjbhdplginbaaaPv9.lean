/- Package pvec: Set. (written by tools/gen07/pv9.py) -/
import Derived.Test.YtpjbhdplginbaaaPv8
import Derived.Test.YtpjbhdplginbaaaResRow
namespace Go.Proofs.Ytpjbhdplginbaaa
open Go.RowKit
set_option maxRecDepth 1000000
set_option linter.unusedSimpArgs false

set_option maxHeartbeats 4000000 in
theorem pv_Set {c : Array Value} {f : Nat → Int} {n t : Nat} (W : World) (h : VecG (fun _ => True) W c f n t) (i x : Int) : Calls Try.prog 24 #[.agg c, .int .i64 i, .int .i64 x] W fun e W' =>
    ∃ c', e = .returned (.tuple #[.agg c', .int .i64 (if 0 ≤ i ∧ i < n then 0 else 4)]) ∧ (if 0 ≤ i ∧ i < n then VecG (fun _ => True) W' c' (upd f i.toNat x) n t else VecG (fun _ => True) W' c' f 0 0) ∧ Below W.heap.size W W' := by
  have HV := Lib.hid h
  obtain ⟨a, b, v, cp, rfl, hc, h1, h2, h3, h4, h6, h7⟩ := h.laid
  obtain ⟨w2, hw2⟩ : ∃ w2, (W.alloc (.cells #[.int .i64 (n : Int), a, b, .slice v t cp] 30)).alloc (.cells #[.int .i64 0, .slice none 0 0, .slice none 0 0, .slice none 0 0] 30) = w2 := ⟨_, rfl⟩
  obtain ⟨hb2, hx2, hy2, hs2⟩ := pair_new hw2
  have HB2 := Lib.hid hb2
  have HX2 := Lib.hid hx2
  have HY2 := Lib.hid hy2
  have HS2 := Lib.hid hs2
  clear hb2 hx2 hy2 hs2
  have HH := Lib.hid (pv_has w2 (HV.out.later HB2.out) i)
  by_cases hi : 0 ≤ i ∧ i < n
  case neg =>
    rw [show decide (0 ≤ i ∧ i < n) = false by simp [hi]] at HH
    simp only [if_neg hi]
    clear hi h h1 h2 h3 h4 h6 h7 hc
    go_enter Try.func24, Try.ntmps24
    go_upto_region 1 with fail
    clear hw2
    go_wp2_with (first
      | (refine ld_if rfl 30 _ rfl W.heap.size rfl 30 _ _ _ HX2.out Try.underlying30 rfl vec_size ?_)
      | (go_at_call 28; refine HH.out.mono ?_; rintro e w3 ⟨rfl, hb⟩; have HX3 := Lib.hid (((hb).block _ (Array.getElem?_eq_some_iff.1 HX2.out).1).trans HX2.out); have HY3 := Lib.hid (((hb).block _ (Array.getElem?_eq_some_iff.1 HY2.out).1).trans HY2.out); have HB3 := Lib.hid (HB2.out.trans ((hb).mono HB2.out.size)); clear hb)
      | (refine st_agg rfl 30 _ _ rfl (W.heap.size + 1) #[.int .i64 0, .slice none 0 0, .slice none 0 0, .slice none 0 0] rfl rfl 30 #[.int .i64 0, .slice none 0 0, .slice none 0 0, .slice none 0 0] HY3.out vec_size rfl (by simp [Value.oneCell']) ?_; intro w4 h4 k4))
    exact bodyPost_ret (results_cell_row1 rfl _ _ (W.heap.size + 1) 30 _ (0, 0) _ rfl h4 Try.underlying30 rfl vec_size) rfl ⟨_, rfl, VecG.zero _ _ _, HB3.out.trans (k4.below (by omega))⟩
  rw [show decide (0 ≤ i ∧ i < n) = true by simp [hi]] at HH
  simp only [if_pos hi]
  obtain ⟨j, rfl⟩ : ∃ j : Nat, i = (j : Int) := ⟨i.toNat, by omega⟩
  have hj : j < n := by omega
  rw [Int.toNat_natCast]
  have HO := Lib.hid (fun w (hb : Below W.heap.size W w) => pv_others w (HV.out.later hb))
  have HONE := Lib.hid h6.one
  by_cases hM : j < n - t
  · have hM' : ((j : Int) < ((n - t : Nat) : Int)) := by omega
    have HLEV := Lib.hid (fun w (hb : Below W.heap.size W w) => pv_Levels w (HV.out.later hb))
    have hroot : NodeAt (fun _ => True) W (levN (n - t) - 1) a b f (n - t) := by
      rcases h6 with ⟨h0, _⟩ | ⟨_, h⟩
      · omega
      · exact h
    have hroom := lev_room (m := n - t) (by omega)
    have hl4 := lev_le (n - t)
    have hlp := lev_pos (show 0 < n - t by omega)
    have HF := Lib.hid (show t ≤ n ∧ t ≤ 32 ∧ (n - t) % 32 = 0 ∧ n ≤ 1000000 ∧ 0 < n - t ∧ j < n - t from ⟨h1, h2, h3, h4, by omega, hM⟩)
    have HT := Lib.hid h7
    obtain ⟨M, hMe⟩ : ∃ M, M = n - t := ⟨_, rfl⟩
    rw [← hMe] at HO hM' HLEV hroot hroom hl4 hlp
    obtain ⟨h, hh⟩ : ∃ h, h = levN M - 1 := ⟨_, rfl⟩
    have hl : levN M = h + 1 := by omega
    rw [← hh] at hroot
    rw [hl] at HLEV hroom hl4
    have HREC := Lib.hid (fun w (hb : Below W.heap.size W w) => pv_set h (by omega) (fun _ => True) w a b f M j (h + 1) x rfl (hroot.later hb) (by rw [Nat.mod_eq_of_lt (by omega)]; omega))
    rw [Nat.mod_eq_of_lt (show j < 32 ^ (h + 1) by omega)] at HREC
    have HH2 := Lib.hid (show levN (n - t) - 1 = h ∧ M = n - t by rw [← hMe, hl]; exact ⟨rfl, rfl⟩)
    obtain ⟨lv, hlv⟩ : ∃ lv, lv = h + 1 := ⟨_, rfl⟩
    rw [← hlv] at HREC HLEV
    clear hi hj hM hMe hh hl hlv hroot hroom hl4 hlp h1 h2 h3 h4 h6 h7 hc
    go_enter Try.func24, Try.ntmps24
    go_upto_region 4 with (first
      | (refine ld_if rfl 30 _ rfl W.heap.size rfl 30 _ _ _ HX2.out Try.underlying30 rfl vec_size ?_)
      | (go_at_call 28; refine HH.out.mono ?_; rintro e w3 ⟨rfl, hb⟩; have HX3 := Lib.hid (((hb).block _ (Array.getElem?_eq_some_iff.1 HX2.out).1).trans HX2.out); have HY3 := Lib.hid (((hb).block _ (Array.getElem?_eq_some_iff.1 HY2.out).1).trans HY2.out); have HB3 := Lib.hid (HB2.out.trans ((hb).mono HB2.out.size)); clear hb)
      | (refine ld_if rfl 30 _ rfl W.heap.size rfl 30 _ _ _ HX3.out Try.underlying30 rfl vec_size ?_)
      | (go_at_call 35; refine (HO.out _ HB3.out).mono ?_; rintro e w4 ⟨rfl, hb⟩; have HX4 := Lib.hid (((hb).block _ (Array.getElem?_eq_some_iff.1 HX3.out).1).trans HX3.out); have HY4 := Lib.hid (((hb).block _ (Array.getElem?_eq_some_iff.1 HY3.out).1).trans HY3.out); have HB4 := Lib.hid (HB3.out.trans ((hb).mono HB3.out.size)); clear hb))
    clear hw2
    have HX5 : Hid (w4.drew.heap[W.heap.size]? = some (.cells #[.int .i64 (n : Int), a, b, .slice v t cp] 30 (0, 0))) := HX4.out
    have HY5 : Hid (w4.drew.heap[W.heap.size + 1]? = some (.cells #[.int .i64 0, .slice none 0 0, .slice none 0 0, .slice none 0 0] 30 (0, 0))) := HY4.out
    have HB5 := Lib.hid (HB4.out.trans ((drawn_below w4).mono HB4.out.size))
    refine wp_region_T (S := fun V => V.cell? ⟨W.heap.size, 0, none⟩ = some (.int .i64 (n : Int)) ∧ V.rangeAt W.heap.size 1 [a, b] ∧ V.cell? ⟨W.heap.size, 3, none⟩ = some (.slice v t cp) ∧ V.heap[W.heap.size]? = some (.cells #[.int .i64 (n : Int), a, b, .slice v t cp] 30 (0, 0))) [12, 13] (by kernel_rfl) (by first | exact ⟨cell_in HX5.out rfl, root_range HX5.out, cell_in HX5.out rfl, HX5.out⟩ | exact ⟨cell_in HX6.out rfl, root_range HX6.out, cell_in HX6.out rfl, HX6.out⟩ | exact ⟨cell_in HX7.out rfl, root_range HX7.out, cell_in HX7.out rfl, HX7.out⟩) (fun hHeld => ?_)
    refine wpAnyT_take (i := 0) (oi := ⟨some 17, _, _, _, _, _⟩) (v := ?vg2_0) rfl (by kernel_rfl) (by kernel_rfl) (by kernel_rfl) (by kernel_rfl) (fun _ _ _ h => h) (Or.inl ⟨by rfl, ?hg2_0⟩) (by assumption) ?rg2_0
    case hg2_0 => (intro w hSw; (try dsimp only at hSw); first | (go_simp; done) | (go_simp; with_reducible rfl))
    (try simp only [Act.put, List.setIfInBounds_toArray, List.set_cons_zero, List.set_cons_succ])
    refine wpAnyT_take (i := 1) (oi := ⟨some 18, _, _, _, _, _⟩) (v := ?vg2_1) rfl (by kernel_rfl) (by kernel_rfl) (by kernel_rfl) (by kernel_rfl) (fun _ _ _ h => h) (Or.inl ⟨by rfl, ?hg2_1⟩) (by assumption) ?rg2_1
    case hg2_1 => (intro w hSw; (try dsimp only at hSw); first | (go_simp; done) | (go_simp; with_reducible rfl))
    (try simp only [Act.put, List.setIfInBounds_toArray, List.set_cons_zero, List.set_cons_succ])
    refine wpAnyT_take (i := 2) (oi := ⟨some 19, _, _, _, _, _⟩) (v := ?vg2_2) rfl (by kernel_rfl) (by kernel_rfl) (by kernel_rfl) (by kernel_rfl) (fun _ _ _ h => h) (Or.inl ⟨by rfl, ?hg2_2⟩) (by assumption) ?rg2_2
    case hg2_2 => (intro w hSw; (try dsimp only at hSw); first | (go_simp; done) | (go_simp; with_reducible rfl))
    (try simp only [Act.put, List.setIfInBounds_toArray, List.set_cons_zero, List.set_cons_succ])
    refine wpAnyT_take (i := 3) (oi := ⟨some 20, _, _, _, _, _⟩) (v := _) rfl (by kernel_rfl) (by kernel_rfl) (by kernel_rfl) (by kernel_rfl) (fun _ _ _ h => h) (yieldsIf_load_mid (by rfl) 28 _ rfl W.heap.size 1 rfl [a, b] _ (fun w hw => hw.2.1) Try.underlying28 rfl node_size) (by assumption) ?_
    (try simp only [Act.put, List.setIfInBounds_toArray, List.set_cons_zero, List.set_cons_succ])
    refine wpAnyT_take (i := 4) (oi := ⟨some 21, _, _, _, _, _⟩) (v := _) rfl (by kernel_rfl) (by kernel_rfl) (by kernel_rfl) (by kernel_rfl) (fun _ _ _ h => h) (yieldsIf_load_row (by rfl) 30 _ rfl W.heap.size rfl #[.int .i64 (n : Int), a, b, .slice v t cp] 30 (0, 0) _ (fun w hw => hw.2.2.2) Try.underlying30 rfl (by exact vec_size)) (by assumption) ?_
    (try simp only [Act.put, List.setIfInBounds_toArray, List.set_cons_zero, List.set_cons_succ])
    refine wpAnyT_take (i := 6) (oi := ⟨some 23, _, _, _, _, _⟩) (v := ?vg2_6) rfl (by kernel_rfl) (by kernel_rfl) (by kernel_rfl) (by kernel_rfl) (fun _ _ _ h => h) (Or.inl ⟨by rfl, ?hg2_6⟩) (by assumption) ?rg2_6
    case hg2_6 => (intro w hSw; (try dsimp only at hSw); first | (go_simp; done) | (go_simp; with_reducible rfl))
    (try simp only [Act.put, List.setIfInBounds_toArray, List.set_cons_zero, List.set_cons_succ])
    refine wpAnyT_take (i := 7) (oi := ⟨some 24, _, _, _, _, _⟩) (v := ?vg2_7) rfl (by kernel_rfl) (by kernel_rfl) (by kernel_rfl) (by kernel_rfl) (fun _ _ _ h => h) (Or.inl ⟨by rfl, ?hg2_7⟩) (by assumption) ?rg2_7
    case hg2_7 => (intro w hSw; (try dsimp only at hSw); first | (go_simp; done) | (go_simp; with_reducible rfl))
    (try simp only [Act.put, List.setIfInBounds_toArray, List.set_cons_zero, List.set_cons_succ])
    refine wpAnyT_take (i := 9) (oi := ⟨some 26, _, _, _, _, _⟩) (v := ?vg2_9) rfl (by kernel_rfl) (by kernel_rfl) (by kernel_rfl) (by kernel_rfl) (fun _ _ _ h => h) (Or.inl ⟨by rfl, ?hg2_9⟩) (by assumption) ?rg2_9
    case hg2_9 => (intro w hSw; (try dsimp only at hSw); first | (go_simp; done) | (go_simp; with_reducible rfl))
    (try simp only [Act.put, List.setIfInBounds_toArray, List.set_cons_zero, List.set_cons_succ])
    refine wpAnyT_take (i := 10) (oi := ⟨some 27, _, _, _, _, _⟩) (v := ?vg2_10) rfl (by kernel_rfl) (by kernel_rfl) (by kernel_rfl) (by kernel_rfl) (fun _ _ _ h => h) (Or.inl ⟨by rfl, ?hg2_10⟩) (by assumption) ?rg2_10
    case hg2_10 => (intro w hSw; (try dsimp only at hSw); first | (go_simp; done) | (go_simp; with_reducible rfl))
    (try simp only [Act.put, List.setIfInBounds_toArray, List.set_cons_zero, List.set_cons_succ])
    refine wpAnyT_one (i := 5) (o := ⟨some 22, _, _, _, _, _⟩) (by kernel_rfl) rfl (fun K hK => ?_)
    go_simp
    go_at_call 22
    with_reducible refine (HLEV.out _ HB5.out).mono ?_
    rintro e w6 ⟨rfl, hb⟩
    have HX6 := Lib.hid (((hb).block _ (Array.getElem?_eq_some_iff.1 HX5.out).1).trans HX5.out); have HY6 := Lib.hid (((hb).block _ (Array.getElem?_eq_some_iff.1 HY5.out).1).trans HY5.out); have HB6 := Lib.hid (HB5.out.trans ((hb).mono HB5.out.size))
    clear hb
    dsimp only
    refine hK.out _ _ (by first | exact ⟨cell_in HX5.out rfl, root_range HX5.out, cell_in HX5.out rfl, HX5.out⟩ | exact ⟨cell_in HX6.out rfl, root_range HX6.out, cell_in HX6.out rfl, HX6.out⟩ | exact ⟨cell_in HX7.out rfl, root_range HX7.out, cell_in HX7.out rfl, HX7.out⟩) (fun hHeld => ?_)
    clear hK K
    (try simp only [Act.put, List.setIfInBounds_toArray, List.set_cons_zero, List.set_cons_succ])
    refine wpAnyT_one (i := 8) (o := ⟨some 25, _, _, _, _, _⟩) (by kernel_rfl) rfl (fun K hK => ?_)
    go_simp
    go_at_call 36
    with_reducible refine (HREC.out _ HB6.out).mono ?_
    rintro e w7 ⟨a7, b7, rfl, hn7, hb⟩
    have HX7 := Lib.hid (((hb).block _ (Array.getElem?_eq_some_iff.1 HX6.out).1).trans HX6.out); have HY7 := Lib.hid (((hb).block _ (Array.getElem?_eq_some_iff.1 HY6.out).1).trans HY6.out); have HB7 := Lib.hid (HB6.out.trans ((hb).mono HB6.out.size))
    have HN7 := Lib.hid hn7
    have HONE7 := Lib.hid hn7.one
    clear hb hn7
    dsimp only
    refine hK.out _ _ (by first | exact ⟨cell_in HX5.out rfl, root_range HX5.out, cell_in HX5.out rfl, HX5.out⟩ | exact ⟨cell_in HX6.out rfl, root_range HX6.out, cell_in HX6.out rfl, HX6.out⟩ | exact ⟨cell_in HX7.out rfl, root_range HX7.out, cell_in HX7.out rfl, HX7.out⟩) (fun hHeld => ?_)
    clear hK K
    (try simp only [Act.put, List.setIfInBounds_toArray, List.set_cons_zero, List.set_cons_succ])
    refine wpAnyT_take (i := 11) (oi := ⟨some 28, _, _, _, _, _⟩) (v := ?vg2_11) rfl (by kernel_rfl) (by kernel_rfl) (by kernel_rfl) (by kernel_rfl) (fun _ _ _ h => h) (Or.inl ⟨by rfl, ?hg2_11⟩) (by assumption) ?rg2_11
    case hg2_11 => (intro w hSw; (try dsimp only at hSw); first | (go_simp; done) | (go_simp; with_reducible rfl))
    (try simp only [Act.put, List.setIfInBounds_toArray, List.set_cons_zero, List.set_cons_succ])
    refine wpAnyT_last (i := 12) (o := ⟨none, _, _, _, _, _⟩) (by kernel_rfl) (by decide) rfl (fun K hK => ?_)
    refine st_agg_wp 30 _ _ rfl (W.heap.size + 1) #[.int .i64 (n : Int), a7, b7, .slice v t cp] rfl rfl 30 #[.int .i64 0, .slice none 0 0, .slice none 0 0, .slice none 0 0] HY7.out vec_size rfl (by simp [HONE7.out.1, HONE7.out.2]; exact ⟨rfl, rfl⟩) ?_
    intro w8 h8 k8
    refine hK.out _ _ ?_
    clear hK K
    (try simp only [Act.put, List.setIfInBounds_toArray, List.set_cons_zero, List.set_cons_succ])
    refine wpAnyT_last (i := 13) (o := ⟨some 7, _, _, _, _, _⟩) (by kernel_rfl) (by decide) rfl (fun K hK => ?_)
    go_simp
    refine hK.out _ _ ?_
    clear hK K
    (try simp only [Act.put, List.setIfInBounds_toArray, List.set_cons_zero, List.set_cons_succ])
    refine wpAnyT_done (by kernel_rfl) ?_ _
    go_wp2_with fail
    have hf := HF.out
    have hh := HH2.out
    refine bodyPost_ret (results_cell_row1 rfl _ _ (W.heap.size + 1) 30 _ (0, 0) _ rfl h8 Try.underlying30 rfl vec_size) rfl ⟨_, rfl, ⟨by omega, by omega, by omega, by omega, _, _, _, rfl, .inr ⟨by omega, ?_⟩, ?_⟩, HB7.out.trans (k8.below (by omega))⟩
    · rw [hh.1, ← hh.2]
      exact (node_but HN7.out k8 HY7.out (by decide) (by decide)).weak (fun _ _ => trivial)
    · refine ((HT.out.later HB7.out).keptT k8.by_ (fun X e => by cases e; exact ⟨_, HY7.out, fun cs fr e => (by simp only [Obj.cells.injEq] at e; exact absurd e.2.1 (by decide))⟩)).congr fun r hr => ?_
      show Value.int .i64 (f (n - t + r)) = Value.int .i64 (upd f j x (n - t + r))
      unfold upd
      rw [if_neg (by omega)]
  · have hM' : ¬ ((j : Int) < ((n - t : Nat) : Int)) := by omega
    have hjj := base_tail h3 (by omega) hj h2 h1
    obtain ⟨r, hr⟩ : ∃ r, r = j % 32 := ⟨_, rfl⟩
    have hr2 : (j : Int).tmod 32 = (r : Int) := by rw [Int.tmod_eq_emod_of_nonneg (by omega)]; omega
    have hrt : r < t ∧ j = n - t + r := by omega
    have HF := Lib.hid (show t ≤ n ∧ t ≤ 32 ∧ (n - t) % 32 = 0 ∧ n ≤ 1000000 ∧ r < t ∧ j = n - t + r from ⟨h1, h2, h3, h4, hrt.1, hrt.2⟩)
    have HTR := Lib.hid h6
    have HW := Lib.hid (fun w (hb : Below W.heap.size W w) => pv_with_int w _ _ t r x (h7.later hb).places (by omega) (by omega))
    obtain ⟨M, hMe⟩ : ∃ M, M = n - t := ⟨_, rfl⟩
    rw [← hMe] at HO hM'
    clear hi hj hM hMe hjj hr hrt h1 h2 h3 h4 h6 h7 hc
    go_enter Try.func24, Try.ntmps24
    go_upto_region 5 with (first
      | (refine ld_if rfl 30 _ rfl W.heap.size rfl 30 _ _ _ HX2.out Try.underlying30 rfl vec_size ?_)
      | (go_at_call 28; refine HH.out.mono ?_; rintro e w3 ⟨rfl, hb⟩; have HX3 := Lib.hid (((hb).block _ (Array.getElem?_eq_some_iff.1 HX2.out).1).trans HX2.out); have HY3 := Lib.hid (((hb).block _ (Array.getElem?_eq_some_iff.1 HY2.out).1).trans HY2.out); have HB3 := Lib.hid (HB2.out.trans ((hb).mono HB2.out.size)); clear hb)
      | (refine ld_if rfl 30 _ rfl W.heap.size rfl 30 _ _ _ HX3.out Try.underlying30 rfl vec_size ?_)
      | (go_at_call 35; refine (HO.out _ HB3.out).mono ?_; rintro e w4 ⟨rfl, hb⟩; have HX4 := Lib.hid (((hb).block _ (Array.getElem?_eq_some_iff.1 HX3.out).1).trans HX3.out); have HY4 := Lib.hid (((hb).block _ (Array.getElem?_eq_some_iff.1 HY3.out).1).trans HY3.out); have HB4 := Lib.hid (HB3.out.trans ((hb).mono HB3.out.size)); clear hb))
    clear hw2
    have HX5 : Hid (w4.drew.heap[W.heap.size]? = some (.cells #[.int .i64 (n : Int), a, b, .slice v t cp] 30 (0, 0))) := HX4.out
    have HY5 : Hid (w4.drew.heap[W.heap.size + 1]? = some (.cells #[.int .i64 0, .slice none 0 0, .slice none 0 0, .slice none 0 0] 30 (0, 0))) := HY4.out
    have HB5 := Lib.hid (HB4.out.trans ((drawn_below w4).mono HB4.out.size))
    refine wp_region_T (S := fun V => V.cell? ⟨W.heap.size, 0, none⟩ = some (.int .i64 (n : Int)) ∧ V.rangeAt W.heap.size 1 [a, b] ∧ V.cell? ⟨W.heap.size, 3, none⟩ = some (.slice v t cp) ∧ V.heap[W.heap.size]? = some (.cells #[.int .i64 (n : Int), a, b, .slice v t cp] 30 (0, 0))) [11, 12] (by kernel_rfl) (by first | exact ⟨cell_in HX5.out rfl, root_range HX5.out, cell_in HX5.out rfl, HX5.out⟩ | exact ⟨cell_in HX6.out rfl, root_range HX6.out, cell_in HX6.out rfl, HX6.out⟩) (fun hHeld => ?_)
    refine wpAnyT_take (i := 0) (oi := ⟨some 29, _, _, _, _, _⟩) (v := ?vg3_0) rfl (by kernel_rfl) (by kernel_rfl) (by kernel_rfl) (by kernel_rfl) (fun _ _ _ h => h) (Or.inl ⟨by rfl, ?hg3_0⟩) (by assumption) ?rg3_0
    case hg3_0 => (intro w hSw; (try dsimp only at hSw); first | (go_simp; done) | (go_simp; with_reducible rfl))
    (try simp only [Act.put, List.setIfInBounds_toArray, List.set_cons_zero, List.set_cons_succ])
    refine wpAnyT_take (i := 1) (oi := ⟨some 30, _, _, _, _, _⟩) (v := ?vg3_1) rfl (by kernel_rfl) (by kernel_rfl) (by kernel_rfl) (by kernel_rfl) (fun _ _ _ h => h) (Or.inl ⟨by rfl, ?hg3_1⟩) (by assumption) ?rg3_1
    case hg3_1 => (intro w hSw; (try dsimp only at hSw); first | (go_simp; done) | (go_simp; with_reducible rfl))
    (try simp only [Act.put, List.setIfInBounds_toArray, List.set_cons_zero, List.set_cons_succ])
    refine wpAnyT_take (i := 2) (oi := ⟨some 31, _, _, _, _, _⟩) (v := ?vg3_2) rfl (by kernel_rfl) (by kernel_rfl) (by kernel_rfl) (by kernel_rfl) (fun _ _ _ h => h) (Or.inl ⟨by rfl, ?hg3_2⟩) (by assumption) ?rg3_2
    case hg3_2 => (intro w hSw; (try dsimp only at hSw); first | (go_simp; done) | (go_simp; with_reducible rfl))
    (try simp only [Act.put, List.setIfInBounds_toArray, List.set_cons_zero, List.set_cons_succ])
    refine wpAnyT_take (i := 3) (oi := ⟨some 32, _, _, _, _, _⟩) (v := _) rfl (by kernel_rfl) (by kernel_rfl) (by kernel_rfl) (by kernel_rfl) (fun _ _ _ h => h) (yieldsIf_load_mid (by rfl) 28 _ rfl W.heap.size 1 rfl [a, b] _ (fun w hw => hw.2.1) Try.underlying28 rfl node_size) (by assumption) ?_
    (try simp only [Act.put, List.setIfInBounds_toArray, List.set_cons_zero, List.set_cons_succ])
    refine wpAnyT_take (i := 4) (oi := ⟨some 33, _, _, _, _, _⟩) (v := ?vg3_4) rfl (by kernel_rfl) (by kernel_rfl) (by kernel_rfl) (by kernel_rfl) (fun _ _ _ h => h) (Or.inl ⟨by rfl, ?hg3_4⟩) (by assumption) ?rg3_4
    case hg3_4 => (intro w hSw; (try dsimp only at hSw); first | (go_simp; done) | (go_simp; with_reducible rfl))
    (try simp only [Act.put, List.setIfInBounds_toArray, List.set_cons_zero, List.set_cons_succ])
    refine wpAnyT_take (i := 5) (oi := ⟨some 34, _, _, _, _, _⟩) (v := ?vg3_5) rfl (by kernel_rfl) (by kernel_rfl) (by kernel_rfl) (by kernel_rfl) (fun _ _ _ h => h) (Or.inl ⟨by rfl, ?hg3_5⟩) (by assumption) ?rg3_5
    case hg3_5 => (intro w hSw; (try dsimp only at hSw); first | (go_simp; done) | (go_simp; with_reducible rfl))
    (try simp only [Act.put, List.setIfInBounds_toArray, List.set_cons_zero, List.set_cons_succ])
    refine wpAnyT_take (i := 6) (oi := ⟨some 35, _, _, _, _, _⟩) (v := ?vg3_6) rfl (by kernel_rfl) (by kernel_rfl) (by kernel_rfl) (by kernel_rfl) (fun _ _ _ h => h) (Or.inl ⟨by rfl, ?hg3_6⟩) (by assumption) ?rg3_6
    case hg3_6 => (intro w hSw; (try dsimp only at hSw); first | (go_simp; done) | (go_simp; with_reducible rfl))
    (try simp only [Act.put, List.setIfInBounds_toArray, List.set_cons_zero, List.set_cons_succ])
    refine wpAnyT_take (i := 7) (oi := ⟨some 36, _, _, _, _, _⟩) (v := ?vg3_7) rfl (by kernel_rfl) (by kernel_rfl) (by kernel_rfl) (by kernel_rfl) (fun _ _ _ h => h) (Or.inl ⟨by rfl, ?hg3_7⟩) (by assumption) ?rg3_7
    case hg3_7 => (intro w hSw; (try dsimp only at hSw); first | (go_simp; done) | (go_simp; with_reducible rfl))
    (try simp only [Act.put, List.setIfInBounds_toArray, List.set_cons_zero, List.set_cons_succ])
    refine wpAnyT_take (i := 8) (oi := ⟨some 37, _, _, _, _, _⟩) (v := ?vg3_8) rfl (by kernel_rfl) (by kernel_rfl) (by kernel_rfl) (by kernel_rfl) (fun _ _ _ h => h) (Or.inl ⟨by rfl, ?hg3_8⟩) (by assumption) ?rg3_8
    case hg3_8 => (intro w hSw; (try dsimp only at hSw); first | (go_simp; done) | (go_simp; with_reducible rfl))
    (try simp only [Act.put, List.setIfInBounds_toArray, List.set_cons_zero, List.set_cons_succ])
    refine wpAnyT_one (i := 9) (o := ⟨some 38, _, _, _, _, _⟩) (by kernel_rfl) rfl (fun K hK => ?_)
    go_simp
    go_at_call 37
    with_reducible refine (HW.out _ HB5.out).mono ?_
    rintro e w6 ⟨m, hm, rfl, hr6, hb⟩
    have HX6 := Lib.hid (((hb).block _ (Array.getElem?_eq_some_iff.1 HX5.out).1).trans HX5.out); have HY6 := Lib.hid (((hb).block _ (Array.getElem?_eq_some_iff.1 HY5.out).1).trans HY5.out); have HB6 := Lib.hid (HB5.out.trans ((hb).mono HB5.out.size))
    have HR6 := Lib.hid hr6
    have HM6 := Lib.hid hm
    clear hb hr6 hm
    dsimp only
    refine hK.out _ _ (by first | exact ⟨cell_in HX5.out rfl, root_range HX5.out, cell_in HX5.out rfl, HX5.out⟩ | exact ⟨cell_in HX6.out rfl, root_range HX6.out, cell_in HX6.out rfl, HX6.out⟩) (fun hHeld => ?_)
    clear hK K
    (try simp only [Act.put, List.setIfInBounds_toArray, List.set_cons_zero, List.set_cons_succ])
    refine wpAnyT_take (i := 10) (oi := ⟨some 39, _, _, _, _, _⟩) (v := ?vg3_10) rfl (by kernel_rfl) (by kernel_rfl) (by kernel_rfl) (by kernel_rfl) (fun _ _ _ h => h) (Or.inl ⟨by rfl, ?hg3_10⟩) (by assumption) ?rg3_10
    case hg3_10 => (intro w hSw; (try dsimp only at hSw); first | (go_simp; done) | (go_simp; with_reducible rfl))
    (try simp only [Act.put, List.setIfInBounds_toArray, List.set_cons_zero, List.set_cons_succ])
    refine wpAnyT_last (i := 11) (o := ⟨none, _, _, _, _, _⟩) (by kernel_rfl) (by decide) rfl (fun K hK => ?_)
    refine st_agg_wp 30 _ _ rfl (W.heap.size + 1) #[.int .i64 (n : Int), a, b, .slice (some ⟨w4.drew.heap.size, 0, none⟩) m m] rfl rfl 30 #[.int .i64 0, .slice none 0 0, .slice none 0 0, .slice none 0 0] HY6.out vec_size rfl (by simp [HONE.out.1, HONE.out.2]; exact ⟨rfl, rfl⟩) ?_
    intro w8 h8 k8
    refine hK.out _ _ ?_
    clear hK K
    (try simp only [Act.put, List.setIfInBounds_toArray, List.set_cons_zero, List.set_cons_succ])
    refine wpAnyT_last (i := 12) (o := ⟨some 7, _, _, _, _, _⟩) (by kernel_rfl) (by decide) rfl (fun K hK => ?_)
    go_simp
    refine hK.out _ _ ?_
    clear hK K
    (try simp only [Act.put, List.setIfInBounds_toArray, List.set_cons_zero, List.set_cons_succ])
    refine wpAnyT_done (by kernel_rfl) ?_ _
    go_wp2_with fail
    have hf := HF.out
    obtain rfl : m = t := by have := HM6.out; omega
    refine bodyPost_ret (results_cell_row1 rfl _ _ (W.heap.size + 1) 30 _ (0, 0) _ rfl h8 Try.underlying30 rfl vec_size) rfl ⟨_, rfl, ⟨by omega, by omega, by omega, by omega, _, _, _, rfl, ?_, ?_⟩, HB6.out.trans (k8.below (by omega))⟩
    · refine ((HTR.out.later HB6.out).keptT k8.by_ (fun X e => by cases e; exact ⟨_, HY6.out, fun cs fr => ⟨fun e => (by simp only [Obj.cells.injEq] at e; exact absurd e.2.1 (by decide)), fun e => (by simp only [Obj.cells.injEq] at e; exact absurd e.2.1 (by decide))⟩⟩)).congr fun q hq => ?_
      unfold upd
      rw [if_neg (by omega)]
    · refine ((HR6.out.keptT k8.by_ (fun X e => by cases e; exact ⟨_, HY6.out, fun cs fr e => (by simp only [Obj.cells.injEq] at e; exact absurd e.2.1 (by decide))⟩)).weak (fun _ _ => trivial)).congr fun q hq => ?_
      show Value.int .i64 (upd (fun i => f (n - m + i)) r x q) = Value.int .i64 (upd f j x (n - m + q))
      unfold upd
      by_cases e : q = r
      · rw [if_pos e, if_pos (by omega)]
      · rw [if_neg e, if_neg (by omega)]
end Go.Proofs.Ytpjbhdplginbaaa
