/- Layer 7's laws: what an operation does. (written by tools/gen07/does7.py) -/
import Derived.Test.YtpjbhdplginbaaaLaw07Live
import Derived.Deep.CutRange
namespace Go.Proofs.Ytpjbhdplginbaaa
open Go.RowKit
set_option maxRecDepth 1000000
set_option linter.unusedSimpArgs false

/-- What the document's list is behind an operation. -/
def doL (l : List Int) (o : Op7) : List Int :=
  if o.1 = 0 then l ++ runL o.2.2.1 o.2.2.2.toNat else if o.1 = 1 then (if 0 ≤ o.2.1 ∧ o.2.1 < l.length then l.set o.2.1.toNat o.2.2.1 else l) else if o.1 = 2 then l.take (l.length - o.2.2.2.toNat) else if o.1 = 3 then l.take o.2.2.2.toNat else l
theorem doL_len (l : List Int) (o : Op7) : (doL l o).length ≤ l.length + o.2.2.2.toNat := by
  unfold doL
  split
  · rw [List.length_append, runL_len]; omega
  · split
    · split
      · rw [List.length_set]; omega
      · omega
    · split
      · rw [List.length_take]; omega
      · split
        · rw [List.length_take]; omega
        · omega
theorem Lst.old {S : Nat → Prop} {W : World} {v : Value} {l : List Int} (h : Lst S W v l) : Lst (fun g => S g ∧ g < W.heap.size) W v l := by
  obtain ⟨a, c, h1, h2, h3⟩ := h
  refine ⟨a, c, h1, h2, h3.imp_right ?_⟩
  rintro ⟨g, cs, fr, e, hS, hgg, hc⟩
  exact ⟨g, cs, fr, e, ⟨hS, (Array.getElem?_eq_some_iff.1 hgg).1⟩, hgg, hc⟩
theorem pv_Set_on {c : Array Value} {f : Nat → Int} {n : Nat} (W : World) (h : VecAt W c f n) (i x : Int) (hi : 0 ≤ i ∧ i < n) : Calls Try.prog 24 #[.agg c, .int .i64 i, .int .i64 x] W fun e W' => ∃ c', e = .returned (.tuple #[.agg c', .int .i64 0]) ∧ VecAt W' c' (upd f i.toNat x) n ∧ Below W.heap.size W W' := by
  have := pv_Set W h i x
  simp only [if_pos hi] at this
  exact this
theorem pv_Set_off {c : Array Value} {f : Nat → Int} {n : Nat} (W : World) (h : VecAt W c f n) (i x : Int) (hi : ¬ (0 ≤ i ∧ i < n)) : Calls Try.prog 24 #[.agg c, .int .i64 i, .int .i64 x] W fun e W' => ∃ c', e = .returned (.tuple #[.agg c', .int .i64 4]) ∧ VecAt W' c' f 0 ∧ Below W.heap.size W W' := by
  have := pv_Set W h i x
  simp only [if_neg hi] at this
  exact this
/-- What a call of does comes to. -/
def Done (c : Array Value) (v : Value) (l : List Int) (o : Op7) (w : World) : Prop := Calls Try.prog 10 #[.agg c, v, .agg (op7C o)] w fun e w' => ∃ c' v', e = .returned (.tuple #[.agg c', v', .bool true]) ∧ VL w' c' (doL l o) ∧ Lst (fun _ => True) w' v' (doL l o) ∧ Below w.heap.size w w'
set_option maxHeartbeats 2000000 in
theorem does7_none (c : Array Value) (v : Value) (l : List Int) (x1 x2 x3 x4 : Int) (w : World) (hv : VL w c l) (hl : Lst (fun _ => True) w v l) (h0 : ¬ x1 = 0) (h1 : ¬ x1 = 1) (h2 : ¬ x1 = 2) (h3 : ¬ x1 = 3) : Done c v l (x1, x2, x3, x4) w := by
    unfold Done
    rw [show doL l (x1, x2, x3, x4) = l by simp [doL, h0, h1, h2, h3]]
    have HV := Lib.hid hv
    have HL := Lib.hid hl
    have HS := Lib.hid hv.size
    have HONE := Lib.hid hv.one
    have t0 : ((x1 : Int) == 0) = false := beq_eq_false_iff_ne.2 h0
    have t1 : ((x1 : Int) == 1) = false := beq_eq_false_iff_ne.2 h1
    have t2 : ((x1 : Int) == 2) = false := beq_eq_false_iff_ne.2 h2
    have t3 : ((x1 : Int) == 3) = false := beq_eq_false_iff_ne.2 h3
    obtain ⟨w0, hw0⟩ : ∃ w0, ((w.alloc (.cells c 30)).alloc (.cells (op7C (x1, x2, x3, x4)) 34)).alloc (.cells #[.int .i64 0, .slice none 0 0, .slice none 0 0, .slice none 0 0] 30) = w0 := ⟨_, rfl⟩
    obtain ⟨hb0, hx0, ho0, hy0, hs0⟩ := three_new hw0
    have HX0 := Lib.hid hx0
    have HO0 := Lib.hid ho0
    have HY0 := Lib.hid hy0
    have HB0 := Lib.hid hb0
    have HSZ0 := Lib.hid hs0
    have q0 : w0.cell? ⟨w.heap.size + 1, 0, none⟩ = some (.int .i64 x1) := cell_in ho0 rfl
    have q1 : w0.cell? ⟨w.heap.size + 1, 1, none⟩ = some (.int .i64 x2) := cell_in ho0 rfl
    have q2 : w0.cell? ⟨w.heap.size + 1, 2, none⟩ = some (.int .i64 x3) := cell_in ho0 rfl
    have q3 : w0.cell? ⟨w.heap.size + 1, 3, none⟩ = some (.int .i64 x4) := cell_in ho0 rfl
    clear hb0 hx0 ho0 hy0 hs0
    clear hv hl h0 h1 h2 h3
    go_enter Try.func10, Try.ntmps10
    go_upto_region 1 with fail
    clear hw0
    go_wp2_with (first
      | (refine ld_if (by rfl) 30 _ rfl w.heap.size rfl 30 _ _ _ HX0.out Try.underlying30 rfl (by rw [HS.out]; exact vec_size) ?_)
      | (refine st_agg rfl 30 _ _ rfl (w.heap.size + 1 + 1) c rfl rfl 30 #[.int .i64 0, .slice none 0 0, .slice none 0 0, .slice none 0 0] HY0.out (by rw [HS.out]; exact vec_size) (by rw [HS.out]; rfl) HONE.out ?_; intro w9 h9 k9))
    refine bodyPost_ret (results_cell_row2 rfl _ _ (w.heap.size + 1 + 1) 30 _ (0, 0) _ rfl h9 Try.underlying30 rfl (by rw [HS.out]; exact vec_size)) rfl ⟨_, _, rfl, ?_, ?_, HB0.out.trans (k9.below (by omega))⟩
    · exact (HV.out.later HB0.out).but k9 HY0.out (by decide) (by decide)
    · exact (HL.out.later HB0.out).but k9 HY0.out (by decide)
set_option maxHeartbeats 4000000 in
theorem does7_set (c : Array Value) (v : Value) (l : List Int) (x2 x3 x4 : Int) (w : World) (hv : VL w c l) (hl : Lst (fun _ => True) w v l) : Done c v l (1, x2, x3, x4) w := by
    unfold Done
    obtain ⟨x1, hx1⟩ : ∃ x1 : Int, x1 = 1 := ⟨_, rfl⟩
    rw [show doL l (1, x2, x3, x4) = if 0 ≤ x2 ∧ x2 < l.length then l.set x2.toNat x3 else l by simp [doL]]
    rw [← hx1]
    have HV := Lib.hid hv
    have HL := Lib.hid hl
    have HS := Lib.hid hv.size
    have HONE := Lib.hid hv.one
    have HLEN := Lib.hid hv.len
    have t0 : ((x1 : Int) == 0) = false := by rw [hx1]; rfl
    have t1 : ((x1 : Int) == 1) = true := by rw [hx1]; rfl
    obtain ⟨w0, hw0⟩ : ∃ w0, ((w.alloc (.cells c 30)).alloc (.cells (op7C (x1, x2, x3, x4)) 34)).alloc (.cells #[.int .i64 0, .slice none 0 0, .slice none 0 0, .slice none 0 0] 30) = w0 := ⟨_, rfl⟩
    obtain ⟨hb0, hx0, ho0, hy0, hs0⟩ := three_new hw0
    have HX0 := Lib.hid hx0
    have HO0 := Lib.hid ho0
    have HY0 := Lib.hid hy0
    have HB0 := Lib.hid hb0
    have HSZ0 := Lib.hid hs0
    have q0 : w0.cell? ⟨w.heap.size + 1, 0, none⟩ = some (.int .i64 x1) := cell_in ho0 rfl
    have q1 : w0.cell? ⟨w.heap.size + 1, 1, none⟩ = some (.int .i64 x2) := cell_in ho0 rfl
    have q2 : w0.cell? ⟨w.heap.size + 1, 2, none⟩ = some (.int .i64 x3) := cell_in ho0 rfl
    have q3 : w0.cell? ⟨w.heap.size + 1, 3, none⟩ = some (.int .i64 x4) := cell_in ho0 rfl
    clear hb0 hx0 ho0 hy0 hs0
    have HREF := Lib.hid (fun w' (h : Below w.heap.size w w') => ref_Set7 v l x2 x3 w' (HL.out.later h) HLEN.out)
    by_cases hi : 0 ≤ x2 ∧ x2 < l.length
    · have HSET := Lib.hid (pv_Set_on w0 (VecAt.later HV.out HB0.out) x2 x3 hi)
      simp only [if_pos hi] at HREF ⊢
      have HI := Lib.hid hi
      clear hv hl hi hx1
      go_enter Try.func10, Try.ntmps10
      go_upto_region 1 with fail
      clear hw0
      go_wp2_with (first
        | (refine ld_if (by rfl) 30 _ rfl w.heap.size rfl 30 _ _ _ HX0.out Try.underlying30 rfl (by rw [HS.out]; exact vec_size) ?_)
        | (go_at_call 24; with_reducible refine HSET.out.mono ?_; rintro e w1 ⟨c1, rfl, hv1, hb⟩; have HX1 := Lib.hid (((hb).block _ (Array.getElem?_eq_some_iff.1 HX0.out).1).trans HX0.out); have HO1 := Lib.hid (((hb).block _ (Array.getElem?_eq_some_iff.1 HO0.out).1).trans HO0.out); have HY1 := Lib.hid (((hb).block _ (Array.getElem?_eq_some_iff.1 HY0.out).1).trans HY0.out); have HB1 := Lib.hid (HB0.out.trans ((hb).mono HB0.out.size)); have HV1 := Lib.hid hv1; have r1 : w1.cell? ⟨w.heap.size + 1, 1, none⟩ = some (.int .i64 x2) := cell_in HO1.out rfl; have r2 : w1.cell? ⟨w.heap.size + 1, 2, none⟩ = some (.int .i64 x3) := cell_in HO1.out rfl; have HYW := Lib.hid (show w.heap.size + 1 + 1 < w1.heap.size from (Array.getElem?_eq_some_iff.1 HY1.out).1); clear hb hv1)
        | (refine st_agg rfl 30 _ _ rfl w1.heap.size c1 rfl rfl 30 #[.int .i64 0, .slice none 0 0, .slice none 0 0, .slice none 0 0] (heap_alloc_last w1 _) (by rw [VecG.size HV1.out]; exact vec_size) (by rw [VecG.size HV1.out]; rfl) (VecG.one HV1.out) ?_; intro w2 h2 k2; have hb := Below.newly' w1 (.cells #[.int .i64 0, .slice none 0 0, .slice none 0 0, .slice none 0 0] 30); have HO2 := Lib.hid (k2.other ((hb.block _ (Array.getElem?_eq_some_iff.1 HO1.out).1).trans HO1.out) (by have := HYW.out; omega)); have HY2 := Lib.hid (k2.other ((hb.block _ (Array.getElem?_eq_some_iff.1 HY1.out).1).trans HY1.out) (by have := HYW.out; omega)); have HX2 := Lib.hid h2; have HB2 := Lib.hid ((HB1.out.alloc HB1.out.size _).trans (k2.below HB1.out.size)); have HV2 := Lib.hid (VecAt.but (VecAt.later HV1.out hb) k2 (heap_alloc_last w1 _) (by decide) (by decide)); have s1 : w2.cell? ⟨w.heap.size + 1, 1, none⟩ = some (.int .i64 x2) := cell_in HO2.out rfl; have s2 : w2.cell? ⟨w.heap.size + 1, 2, none⟩ = some (.int .i64 x3) := cell_in HO2.out rfl; clear h2 k2 hb)
        | (go_at_call 25; with_reducible refine (HREF.out _ HB2.out).mono ?_; rintro e w3 ⟨v3, rfl, hl3, hb⟩; have HX3 := Lib.hid ((hb.block _ (Array.getElem?_eq_some_iff.1 HX2.out).1).trans HX2.out); have HY3 := Lib.hid ((hb.block _ (Array.getElem?_eq_some_iff.1 HY2.out).1).trans HY2.out); have HB3 := Lib.hid (HB2.out.trans (hb.mono HB2.out.size)); have HV3 := Lib.hid (VecAt.later HV2.out hb); have HL3 := Lib.hid (hl3 HI.out); clear hb hl3)
        | (refine ld_if (by rfl) 30 _ rfl w1.heap.size rfl 30 _ _ _ HX3.out Try.underlying30 rfl (by rw [VecG.size HV1.out]; exact vec_size) ?_)
        | (refine st_agg rfl 30 _ _ rfl (w.heap.size + 1 + 1) c1 rfl rfl 30 #[.int .i64 0, .slice none 0 0, .slice none 0 0, .slice none 0 0] HY3.out (by rw [VecG.size HV1.out]; exact vec_size) (by rw [VecG.size HV1.out]; rfl) (VecG.one HV1.out) ?_; intro w9 h9 k9))
      refine bodyPost_ret (results_cell_row2 rfl _ _ (w.heap.size + 1 + 1) 30 _ (0, 0) _ rfl h9 Try.underlying30 rfl (by rw [VecG.size HV1.out]; exact vec_size)) rfl ⟨_, _, rfl, ?_, ?_, HB3.out.trans (k9.below (by omega))⟩
      · have h := VL.of (VecAt.but HV3.out k9 HY3.out (by decide) (by decide))
        rwa [lsF_upd] at h
      · exact HL3.out.but k9 HY3.out (by decide)
    · have HSET := Lib.hid (pv_Set_off w0 (VecAt.later HV.out HB0.out) x2 x3 hi)
      simp only [if_neg hi] at HREF ⊢
      have HI := Lib.hid hi
      clear hv hl hi hx1
      go_enter Try.func10, Try.ntmps10
      go_upto_region 1 with fail
      clear hw0
      go_upto_region 18 with (first
        | (refine ld_if (by rfl) 30 _ rfl w.heap.size rfl 30 _ _ _ HX0.out Try.underlying30 rfl (by rw [HS.out]; exact vec_size) ?_)
        | (go_at_call 24; with_reducible refine HSET.out.mono ?_; rintro e w1 ⟨c1, rfl, hv1, hb⟩; have HX1 := Lib.hid (((hb).block _ (Array.getElem?_eq_some_iff.1 HX0.out).1).trans HX0.out); have HO1 := Lib.hid (((hb).block _ (Array.getElem?_eq_some_iff.1 HO0.out).1).trans HO0.out); have HY1 := Lib.hid (((hb).block _ (Array.getElem?_eq_some_iff.1 HY0.out).1).trans HY0.out); have HB1 := Lib.hid (HB0.out.trans ((hb).mono HB0.out.size)); have HV1 := Lib.hid hv1; have r1 : w1.cell? ⟨w.heap.size + 1, 1, none⟩ = some (.int .i64 x2) := cell_in HO1.out rfl; have r2 : w1.cell? ⟨w.heap.size + 1, 2, none⟩ = some (.int .i64 x3) := cell_in HO1.out rfl; have HYW := Lib.hid (show w.heap.size + 1 + 1 < w1.heap.size from (Array.getElem?_eq_some_iff.1 HY1.out).1); clear hb hv1)
        | (refine st_agg rfl 30 _ _ rfl w1.heap.size c1 rfl rfl 30 #[.int .i64 0, .slice none 0 0, .slice none 0 0, .slice none 0 0] (heap_alloc_last w1 _) (by rw [VecG.size HV1.out]; exact vec_size) (by rw [VecG.size HV1.out]; rfl) (VecG.one HV1.out) ?_; intro w2 h2 k2; have hb := Below.newly' w1 (.cells #[.int .i64 0, .slice none 0 0, .slice none 0 0, .slice none 0 0] 30); have HXX2 := Lib.hid (k2.other ((hb.block _ (Array.getElem?_eq_some_iff.1 HX1.out).1).trans HX1.out) (by have := HYW.out; omega)); have HO2 := Lib.hid (k2.other ((hb.block _ (Array.getElem?_eq_some_iff.1 HO1.out).1).trans HO1.out) (by have := HYW.out; omega)); have HY2 := Lib.hid (k2.other ((hb.block _ (Array.getElem?_eq_some_iff.1 HY1.out).1).trans HY1.out) (by have := HYW.out; omega)); have HX2 := Lib.hid h2; have HB2 := Lib.hid ((HB1.out.alloc HB1.out.size _).trans (k2.below HB1.out.size)); have HV2 := Lib.hid (VecAt.but (VecAt.later HV1.out hb) k2 (heap_alloc_last w1 _) (by decide) (by decide)); have s1 : w2.cell? ⟨w.heap.size + 1, 1, none⟩ = some (.int .i64 x2) := cell_in HO2.out rfl; have s2 : w2.cell? ⟨w.heap.size + 1, 2, none⟩ = some (.int .i64 x3) := cell_in HO2.out rfl; clear h2 k2 hb)
        | (go_at_call 25; with_reducible refine (HREF.out _ HB2.out).mono ?_; rintro e w3 ⟨v3, rfl, _, hb⟩; have HXX3 := Lib.hid ((hb.block _ (Array.getElem?_eq_some_iff.1 HXX2.out).1).trans HXX2.out); have HX3 := Lib.hid ((hb.block _ (Array.getElem?_eq_some_iff.1 HX2.out).1).trans HX2.out); have HY3 := Lib.hid ((hb.block _ (Array.getElem?_eq_some_iff.1 HY2.out).1).trans HY2.out); have HB3 := Lib.hid (HB2.out.trans (hb.mono HB2.out.size)); have HV3 := Lib.hid (VecAt.later HV2.out hb); clear hb))
      have HX4 : Hid (w3.drew.heap[w1.heap.size]? = some (.cells c1 30 (0, 0))) := HX3.out
      have HXX4 : Hid (w3.drew.heap[w.heap.size]? = some (.cells c 30 (0, 0))) := HXX3.out
      have HY4 : Hid (w3.drew.heap[w.heap.size + 1 + 1]? = some (.cells #[.int .i64 0, .slice none 0 0, .slice none 0 0, .slice none 0 0] 30 (0, 0))) := HY3.out
      have HB4 := Lib.hid (HB3.out.trans ((drawn_below w3).mono HB3.out.size))
      have HLEN4 := Lib.hid (pv_Len w3.drew (VecG.later HV3.out (drawn_below w3)))
      refine wp_region_T (S := fun V => V.heap[w.heap.size]? = some (.cells c 30 (0, 0)) ∧ V.heap[w1.heap.size]? = some (.cells c1 30 (0, 0))) [] (by kernel_rfl) (by first | exact ⟨HXX4.out, HX4.out⟩ | exact ⟨HXX5.out, HX5.out⟩ | exact ⟨HXX9.out, HX9.out⟩) (fun hHeld => ?_)
      refine wpAnyT_take (i := 0) (oi := ⟨some 77, _, _, _, _, _⟩) (v := _) rfl (by kernel_rfl) (by kernel_rfl) (by kernel_rfl) (by kernel_rfl) (fun _ _ _ h => h) (yieldsIf_load_row (by rfl) 30 _ rfl w.heap.size rfl c 30 (0, 0) _ (fun w hw => hw.1) Try.underlying30 rfl (by rw [HS.out]; exact vec_size)) (by assumption) ?_
      (try simp only [Act.put, List.setIfInBounds_toArray, List.set_cons_zero, List.set_cons_succ])
      refine wpAnyT_take (i := 1) (oi := ⟨some 78, _, _, _, _, _⟩) (v := ?vg1_1) rfl (by kernel_rfl) (by kernel_rfl) (by kernel_rfl) (by kernel_rfl) (fun _ _ _ h => h) (Or.inl ⟨by rfl, ?hg1_1⟩) (by assumption) ?rg1_1
      case hg1_1 => (intro w hSw; (try dsimp only at hSw); first | (go_simp; done) | (go_simp; with_reducible rfl))
      (try simp only [Act.put, List.setIfInBounds_toArray, List.set_cons_zero, List.set_cons_succ])
      refine wpAnyT_take (i := 2) (oi := ⟨some 79, _, _, _, _, _⟩) (v := _) rfl (by kernel_rfl) (by kernel_rfl) (by kernel_rfl) (by kernel_rfl) (fun _ _ _ h => h) (yieldsIf_load_row (by rfl) 30 _ rfl w1.heap.size rfl c1 30 (0, 0) _ (fun w hw => hw.2) Try.underlying30 rfl (by rw [VecG.size HV1.out]; exact vec_size)) (by assumption) ?_
      (try simp only [Act.put, List.setIfInBounds_toArray, List.set_cons_zero, List.set_cons_succ])
      refine wpAnyT_one (i := 3) (o := ⟨some 80, _, _, _, _, _⟩) (by kernel_rfl) rfl (fun K hK => ?_)
      go_simp
      go_at_call 21
      with_reducible refine HLEN4.out.mono ?_
      rintro e w5 ⟨rfl, hb⟩
      have HXX5 := Lib.hid ((hb.block _ (Array.getElem?_eq_some_iff.1 HXX4.out).1).trans HXX4.out)
      have HX5 := Lib.hid ((hb.block _ (Array.getElem?_eq_some_iff.1 HX4.out).1).trans HX4.out)
      have HY5 := Lib.hid ((hb.block _ (Array.getElem?_eq_some_iff.1 HY4.out).1).trans HY4.out)
      have HB5 := Lib.hid (HB4.out.trans (hb.mono HB4.out.size))
      clear hb
      dsimp only
      refine hK.out _ _ (by first | exact ⟨HXX4.out, HX4.out⟩ | exact ⟨HXX5.out, HX5.out⟩ | exact ⟨HXX9.out, HX9.out⟩) (fun hHeld => ?_)
      clear hK K
      (try simp only [Act.put, List.setIfInBounds_toArray, List.set_cons_zero, List.set_cons_succ])
      refine wpAnyT_take (i := 4) (oi := ⟨some 81, _, _, _, _, _⟩) (v := ?vg1_4) rfl (by kernel_rfl) (by kernel_rfl) (by kernel_rfl) (by kernel_rfl) (fun _ _ _ h => h) (Or.inl ⟨by rfl, ?hg1_4⟩) (by assumption) ?rg1_4
      case hg1_4 => (intro w hSw; (try dsimp only at hSw); first | (go_simp; done) | (go_simp; with_reducible rfl))
      (try simp only [Act.put, List.setIfInBounds_toArray, List.set_cons_zero, List.set_cons_succ])
      refine wpAnyT_one (i := 5) (o := ⟨none, _, _, _, _, _⟩) (by kernel_rfl) rfl (fun K hK => ?_)
      refine st_agg_wp 30 _ _ rfl (w.heap.size + 1 + 1) c rfl rfl 30 #[.int .i64 0, .slice none 0 0, .slice none 0 0, .slice none 0 0] HY5.out (by rw [HS.out]; exact vec_size) (by rw [HS.out]; rfl) HONE.out ?_
      intro w9 h9 k9
      have HXX9 := Lib.hid (k9.other HXX5.out (by omega))
      have HX9 := Lib.hid (k9.other HX5.out (by have := HYW.out; omega))
      refine hK.out _ _ (by first | exact ⟨HXX4.out, HX4.out⟩ | exact ⟨HXX5.out, HX5.out⟩ | exact ⟨HXX9.out, HX9.out⟩) (fun hHeld => ?_)
      clear hK K
      (try simp only [Act.put, List.setIfInBounds_toArray, List.set_cons_zero, List.set_cons_succ])
      refine wpAnyT_one (i := 6) (o := ⟨some 7, _, _, _, _, _⟩) (by kernel_rfl) rfl (fun K hK => ?_)
      go_simp
      refine hK.out _ _ (by first | exact ⟨HXX4.out, HX4.out⟩ | exact ⟨HXX5.out, HX5.out⟩ | exact ⟨HXX9.out, HX9.out⟩) (fun hHeld => ?_)
      clear hK K
      (try simp only [Act.put, List.setIfInBounds_toArray, List.set_cons_zero, List.set_cons_succ])
      refine wpAnyT_one (i := 7) (o := ⟨some 8, _, _, _, _, _⟩) (by kernel_rfl) rfl (fun K hK => ?_)
      go_simp
      refine hK.out _ _ (by first | exact ⟨HXX4.out, HX4.out⟩ | exact ⟨HXX5.out, HX5.out⟩ | exact ⟨HXX9.out, HX9.out⟩) (fun hHeld => ?_)
      clear hK K
      (try simp only [Act.put, List.setIfInBounds_toArray, List.set_cons_zero, List.set_cons_succ])
      refine wpAnyT_done (by kernel_rfl) ?_ _
      go_wp2_with fail
      refine bodyPost_ret (results_cell_row2 rfl _ _ (w.heap.size + 1 + 1) 30 _ (0, 0) _ rfl h9 Try.underlying30 rfl (by rw [HS.out]; exact vec_size)) rfl ⟨_, _, rfl, ?_, ?_, HB5.out.trans (k9.below (by omega))⟩
      · exact (HV.out.later HB5.out).but k9 HY5.out (by decide) (by decide)
      · exact (HL.out.later HB5.out).but k9 HY5.out (by decide)
set_option maxHeartbeats 4000000 in
theorem does7_keep (c : Array Value) (v : Value) (l : List Int) (x2 x3 x4 : Int) (w : World) (hv : VL w c l) (hl : Lst (fun _ => True) w v l) : Done c v l (3, x2, x3, x4) w := by
    unfold Done
    obtain ⟨x1, hx1⟩ : ∃ x1 : Int, x1 = 3 := ⟨_, rfl⟩
    rw [show doL l (3, x2, x3, x4) = l.take x4.toNat by simp [doL]]
    rw [← hx1]
    have HV := Lib.hid hv
    have HL := Lib.hid hl
    have HS := Lib.hid hv.size
    have HLEN := Lib.hid hv.len
    have t0 : ((x1 : Int) == 0) = false := by rw [hx1]; rfl
    have t1 : ((x1 : Int) == 1) = false := by rw [hx1]; rfl
    have t2 : ((x1 : Int) == 2) = false := by rw [hx1]; rfl
    have t3 : ((x1 : Int) == 3) = true := by rw [hx1]; rfl
    obtain ⟨w0, hw0⟩ : ∃ w0, ((w.alloc (.cells c 30)).alloc (.cells (op7C (x1, x2, x3, x4)) 34)).alloc (.cells #[.int .i64 0, .slice none 0 0, .slice none 0 0, .slice none 0 0] 30) = w0 := ⟨_, rfl⟩
    obtain ⟨hb0, hx0, ho0, hy0, hs0⟩ := three_new hw0
    have HX0 := Lib.hid hx0
    have HO0 := Lib.hid ho0
    have HY0 := Lib.hid hy0
    have HB0 := Lib.hid hb0
    have HSZ0 := Lib.hid hs0
    have q0 : w0.cell? ⟨w.heap.size + 1, 0, none⟩ = some (.int .i64 x1) := cell_in ho0 rfl
    have q1 : w0.cell? ⟨w.heap.size + 1, 1, none⟩ = some (.int .i64 x2) := cell_in ho0 rfl
    have q2 : w0.cell? ⟨w.heap.size + 1, 2, none⟩ = some (.int .i64 x3) := cell_in ho0 rfl
    have q3 : w0.cell? ⟨w.heap.size + 1, 3, none⟩ = some (.int .i64 x4) := cell_in ho0 rfl
    clear hb0 hx0 ho0 hy0 hs0
    have HK := Lib.hid (fun w' (h : Below w.heap.size w w') => pv_Keep w' (VecAt.later HV.out h) x4)
    have HREF := Lib.hid (fun w' (h : Below w.heap.size w w') => ref_Keep7 v l x4 w' (HL.out.later h) HLEN.out)
    clear hv hl hx1
    go_enter Try.func10, Try.ntmps10
    go_upto_region 1 with fail
    clear hw0
    go_upto_region 31 with fail
    have HX1 : Hid (w0.drew.heap[w.heap.size]? = some (.cells c 30 (0, 0))) := HX0.out
    have HO1 : Hid (w0.drew.heap[w.heap.size + 1]? = some (.cells (op7C (x1, x2, x3, x4)) 34 (0, 0))) := HO0.out
    have HY1 : Hid (w0.drew.heap[w.heap.size + 1 + 1]? = some (.cells #[.int .i64 0, .slice none 0 0, .slice none 0 0, .slice none 0 0] 30 (0, 0))) := HY0.out
    have HB1 := Lib.hid (HB0.out.trans ((drawn_below w0).mono HB0.out.size))
    refine wp_region_T (S := fun V => V.heap[w.heap.size]? = some (.cells c 30 (0, 0)) ∧ V.cell? ⟨w.heap.size + 1, 3, none⟩ = some (.int .i64 x4)) [] (by kernel_rfl) (by first | exact ⟨HX1.out, cell_in HO1.out rfl⟩ | exact ⟨HX2.out, cell_in HO2.out rfl⟩ | exact ⟨HX3.out, cell_in HO3.out rfl⟩ | exact ⟨HX9.out, cell_in HO9.out rfl⟩) (fun hHeld => ?_)
    refine wpAnyT_take (i := 0) (oi := ⟨some 138, _, _, _, _, _⟩) (v := _) rfl (by kernel_rfl) (by kernel_rfl) (by kernel_rfl) (by kernel_rfl) (fun _ _ _ h => h) (yieldsIf_load_row (by rfl) 30 _ rfl w.heap.size rfl c 30 (0, 0) _ (fun w hw => hw.1) Try.underlying30 rfl (by rw [HS.out]; exact vec_size)) (by assumption) ?_
    (try simp only [Act.put, List.setIfInBounds_toArray, List.set_cons_zero, List.set_cons_succ])
    refine wpAnyT_take (i := 1) (oi := ⟨some 139, _, _, _, _, _⟩) (v := ?vg2_1) rfl (by kernel_rfl) (by kernel_rfl) (by kernel_rfl) (by kernel_rfl) (fun _ _ _ h => h) (Or.inl ⟨by rfl, ?hg2_1⟩) (by assumption) ?rg2_1
    case hg2_1 => (intro w hSw; (try dsimp only at hSw); first | (go_simp; done) | (go_simp; with_reducible rfl))
    (try simp only [Act.put, List.setIfInBounds_toArray, List.set_cons_zero, List.set_cons_succ])
    refine wpAnyT_take (i := 2) (oi := ⟨some 140, _, _, _, _, _⟩) (v := ?vg2_2) rfl (by kernel_rfl) (by kernel_rfl) (by kernel_rfl) (by kernel_rfl) (fun _ _ _ h => h) (Or.inl ⟨by rfl, ?hg2_2⟩) (by assumption) ?rg2_2
    case hg2_2 => (intro w hSw; (try dsimp only at hSw); first | (go_simp; done) | (go_simp; with_reducible rfl))
    (try simp only [Act.put, List.setIfInBounds_toArray, List.set_cons_zero, List.set_cons_succ])
    refine wpAnyT_take (i := 4) (oi := ⟨some 142, _, _, _, _, _⟩) (v := ?vg2_4) rfl (by kernel_rfl) (by kernel_rfl) (by kernel_rfl) (by kernel_rfl) (fun _ _ _ h => h) (Or.inl ⟨by rfl, ?hg2_4⟩) (by assumption) ?rg2_4
    case hg2_4 => (intro w hSw; (try dsimp only at hSw); first | (go_simp; done) | (go_simp; with_reducible rfl))
    (try simp only [Act.put, List.setIfInBounds_toArray, List.set_cons_zero, List.set_cons_succ])
    refine wpAnyT_take (i := 5) (oi := ⟨some 143, _, _, _, _, _⟩) (v := ?vg2_5) rfl (by kernel_rfl) (by kernel_rfl) (by kernel_rfl) (by kernel_rfl) (fun _ _ _ h => h) (Or.inl ⟨by rfl, ?hg2_5⟩) (by assumption) ?rg2_5
    case hg2_5 => (intro w hSw; (try dsimp only at hSw); first | (go_simp; done) | (go_simp; with_reducible rfl))
    (try simp only [Act.put, List.setIfInBounds_toArray, List.set_cons_zero, List.set_cons_succ])
    refine wpAnyT_take (i := 6) (oi := ⟨some 144, _, _, _, _, _⟩) (v := ?vg2_6) rfl (by kernel_rfl) (by kernel_rfl) (by kernel_rfl) (by kernel_rfl) (fun _ _ _ h => h) (Or.inl ⟨by rfl, ?hg2_6⟩) (by assumption) ?rg2_6
    case hg2_6 => (intro w hSw; (try dsimp only at hSw); first | (go_simp; done) | (go_simp; with_reducible rfl))
    (try simp only [Act.put, List.setIfInBounds_toArray, List.set_cons_zero, List.set_cons_succ])
    refine wpAnyT_one (i := 3) (o := ⟨some 141, _, _, _, _, _⟩) (by kernel_rfl) rfl (fun K hK => ?_)
    go_simp
    go_at_call 27
    with_reducible refine (HK.out _ HB1.out).mono ?_
    rintro e w2 ⟨c2, rfl, hv2, hb⟩
    have HX2 := Lib.hid (((hb).block _ (Array.getElem?_eq_some_iff.1 HX1.out).1).trans HX1.out); have HO2 := Lib.hid (((hb).block _ (Array.getElem?_eq_some_iff.1 HO1.out).1).trans HO1.out); have HY2 := Lib.hid (((hb).block _ (Array.getElem?_eq_some_iff.1 HY1.out).1).trans HY1.out); have HB2 := Lib.hid (HB1.out.trans ((hb).mono HB1.out.size))
    have HV2 := Lib.hid hv2
    clear hb hv2
    dsimp only
    refine hK.out _ _ (by first | exact ⟨HX1.out, cell_in HO1.out rfl⟩ | exact ⟨HX2.out, cell_in HO2.out rfl⟩ | exact ⟨HX3.out, cell_in HO3.out rfl⟩ | exact ⟨HX9.out, cell_in HO9.out rfl⟩) (fun hHeld => ?_)
    clear hK K
    (try simp only [Act.put, List.setIfInBounds_toArray, List.set_cons_zero, List.set_cons_succ])
    refine wpAnyT_one (i := 7) (o := ⟨some 145, _, _, _, _, _⟩) (by kernel_rfl) rfl (fun K hK => ?_)
    go_simp
    go_at_call 26
    with_reducible refine (HREF.out _ HB2.out).mono ?_
    rintro e w3 ⟨v3, rfl, hi3, hb⟩
    have HX3 := Lib.hid (((hb).block _ (Array.getElem?_eq_some_iff.1 HX2.out).1).trans HX2.out); have HO3 := Lib.hid (((hb).block _ (Array.getElem?_eq_some_iff.1 HO2.out).1).trans HO2.out); have HY3 := Lib.hid (((hb).block _ (Array.getElem?_eq_some_iff.1 HY2.out).1).trans HY2.out); have HB3 := Lib.hid (HB2.out.trans ((hb).mono HB2.out.size))
    have HV3 := Lib.hid (VecAt.later HV2.out hb)
    have HL3 := Lib.hid hi3.lst
    clear hb hi3
    dsimp only
    refine hK.out _ _ (by first | exact ⟨HX1.out, cell_in HO1.out rfl⟩ | exact ⟨HX2.out, cell_in HO2.out rfl⟩ | exact ⟨HX3.out, cell_in HO3.out rfl⟩ | exact ⟨HX9.out, cell_in HO9.out rfl⟩) (fun hHeld => ?_)
    clear hK K
    (try simp only [Act.put, List.setIfInBounds_toArray, List.set_cons_zero, List.set_cons_succ])
    refine wpAnyT_one (i := 8) (o := ⟨none, _, _, _, _, _⟩) (by kernel_rfl) rfl (fun K hK => ?_)
    refine st_agg_wp 30 _ _ rfl (w.heap.size + 1 + 1) c2 rfl rfl 30 #[.int .i64 0, .slice none 0 0, .slice none 0 0, .slice none 0 0] HY3.out (by rw [VecG.size HV2.out]; exact vec_size) (by rw [VecG.size HV2.out]; rfl) (VecG.one HV2.out) ?_
    intro w9 h9 k9
    have HX9 := Lib.hid (k9.other HX3.out (by omega))
    have HO9 := Lib.hid (k9.other HO3.out (by omega))
    refine hK.out _ _ (by first | exact ⟨HX1.out, cell_in HO1.out rfl⟩ | exact ⟨HX2.out, cell_in HO2.out rfl⟩ | exact ⟨HX3.out, cell_in HO3.out rfl⟩ | exact ⟨HX9.out, cell_in HO9.out rfl⟩) (fun hHeld => ?_)
    clear hK K
    (try simp only [Act.put, List.setIfInBounds_toArray, List.set_cons_zero, List.set_cons_succ])
    refine wpAnyT_one (i := 9) (o := ⟨some 7, _, _, _, _, _⟩) (by kernel_rfl) rfl (fun K hK => ?_)
    go_simp
    refine hK.out _ _ (by first | exact ⟨HX1.out, cell_in HO1.out rfl⟩ | exact ⟨HX2.out, cell_in HO2.out rfl⟩ | exact ⟨HX3.out, cell_in HO3.out rfl⟩ | exact ⟨HX9.out, cell_in HO9.out rfl⟩) (fun hHeld => ?_)
    clear hK K
    (try simp only [Act.put, List.setIfInBounds_toArray, List.set_cons_zero, List.set_cons_succ])
    refine wpAnyT_one (i := 10) (o := ⟨some 8, _, _, _, _, _⟩) (by kernel_rfl) rfl (fun K hK => ?_)
    go_simp
    refine hK.out _ _ (by first | exact ⟨HX1.out, cell_in HO1.out rfl⟩ | exact ⟨HX2.out, cell_in HO2.out rfl⟩ | exact ⟨HX3.out, cell_in HO3.out rfl⟩ | exact ⟨HX9.out, cell_in HO9.out rfl⟩) (fun hHeld => ?_)
    clear hK K
    (try simp only [Act.put, List.setIfInBounds_toArray, List.set_cons_zero, List.set_cons_succ])
    refine wpAnyT_done (by kernel_rfl) ?_ _
    go_wp2_with fail
    refine bodyPost_ret (results_cell_row2 rfl _ _ (w.heap.size + 1 + 1) 30 _ (0, 0) _ rfl h9 Try.underlying30 rfl (by rw [VecG.size HV2.out]; exact vec_size)) rfl ⟨_, _, rfl, ?_, ?_, HB3.out.trans (k9.below (by omega))⟩
    · have h := VL.of (VecAt.but HV3.out k9 HY3.out (by decide) (by decide))
      rw [lsF_take _ _ (by unfold kept; omega)] at h
      unfold kept at h
      rwa [show l.take (min l.length x4.toNat) = l.take x4.toNat by rw [Nat.min_comm, ← List.take_take, List.take_length]] at h
    · exact (HL3.out.weak fun _ _ => trivial).but k9 HY3.out (by decide)
end Go.Proofs.Ytpjbhdplginbaaa
