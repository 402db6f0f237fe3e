/- Layer 7's laws: what an operation does: pop, push. (written by tools/gen07/does7b.py) -/
import Derived.Test.YtpjbhdplginbaaaLaw07Do
namespace Go.Proofs.Ytpjbhdplginbaaa
open Go.RowKit
set_option maxRecDepth 1000000
set_option linter.unusedSimpArgs false

theorem VL.popped {w : World} {c : Array Value} {l : List Int} (h : VecAt w c (fun i => l.getD i 0) (l.length - 1)) : VL w c (l.take (l.length - 1)) := by
  have := VL.of h
  rwa [lsF_take _ _ (by omega)] at this
theorem take_one (l : List Int) (j : Nat) : (l.take (l.length - j)).take ((l.take (l.length - j)).length - 1) = l.take (l.length - (j + 1)) := by
  rw [List.take_take, List.length_take]
  congr 1
  omega
set_option maxHeartbeats 2000000 in
theorem does7_pop (c : Array Value) (v : Value) (l : List Int) (x2 x3 x4 : Int) (w : World) (hv : VL w c l) (hl : Lst (fun _ => True) w v l) (hx4 : x4 ≤ 1500) : Done c v l (2, x2, x3, x4) w := by
    unfold Done
    obtain ⟨x1, hx1⟩ : ∃ x1 : Int, x1 = 2 := ⟨_, rfl⟩
    rw [show doL l (2, x2, x3, x4) = l.take (l.length - x4.toNat) by simp [doL]]
    rw [← hx1]
    have HV := Lib.hid hv
    have HL := Lib.hid hl
    have HLEN := Lib.hid hv.len
    have t0 : ((x1 : Int) == 0) = false := by rw [hx1]; rfl
    have t1 : ((x1 : Int) == 1) = false := by rw [hx1]; rfl
    have t2 : ((x1 : Int) == 2) = true := by rw [hx1]; rfl
    obtain ⟨m, hm⟩ : ∃ m, m = x4.toNat := ⟨_, rfl⟩
    have hmm : max x4 0 = (m : Int) := by omega
    have hm15 : (m : Int) ≤ 1500 := by omega
    rw [← hm]
    obtain ⟨a, cp, rfl, _⟩ := hl.shape
    obtain ⟨w0, hw0⟩ : ∃ w0, ((w.alloc (.cells c 30)).alloc (.cells (op7C (x1, x2, x3, x4)) 34)).alloc (.cells #[.int .i64 0, .slice none 0 0, .slice none 0 0, .slice none 0 0] 30) = w0 := ⟨_, rfl⟩
    obtain ⟨hb0, hx0, ho0, hy0, hs0⟩ := three_new hw0
    have HX0 := Lib.hid hx0
    have HO0 := Lib.hid ho0
    have HY0 := Lib.hid hy0
    have HB0 := Lib.hid hb0
    have HSZ0 := Lib.hid hs0
    have q0 : w0.cell? ⟨w.heap.size + 1, 0, none⟩ = some (.int .i64 x1) := cell_in ho0 rfl
    have q1 : w0.cell? ⟨w.heap.size + 1, 1, none⟩ = some (.int .i64 x2) := cell_in ho0 rfl
    have q2 : w0.cell? ⟨w.heap.size + 1, 2, none⟩ = some (.int .i64 x3) := cell_in ho0 rfl
    have q3 : w0.cell? ⟨w.heap.size + 1, 3, none⟩ = some (.int .i64 x4) := cell_in ho0 rfl
    clear hb0 hx0 ho0 hy0 hs0
    clear hv hl hx1 hm hx4
    go_enter Try.func10, Try.ntmps10
    go_upto_region 1 with fail
    clear hw0
    go_wp2_with fail
    go_loopw [1, 89] (fun lv iv wl => ∃ (j : Nat) (c1 : Array Value), iv = .int .i64 (j : Int) ∧ j ≤ m ∧ Lst (fun _ => True) wl lv (l.take (l.length - j)) ∧ wl.heap[w.heap.size]? = some (.cells c1 30 (0, 0)) ∧ wl.heap[w.heap.size + 1 + 1]? = some (.cells #[.int .i64 0, .slice none 0 0, .slice none 0 0, .slice none 0 0] 30 (0, 0)) ∧ VL wl c1 (l.take (l.length - j)) ∧ Below w.heap.size w wl) (fun _ iv _ => m - (intOf iv).toNat)
    case atStart => exact ⟨0, c, rfl, by omega, by rw [Nat.sub_zero, List.take_length]; exact HL.out.later HB0.out, HX0.out, HY0.out, by rw [Nat.sub_zero, List.take_length]; exact HV.out.later HB0.out, HB0.out⟩
    case round =>
      clear q0 q1 q2 q3 HX0 HO0 HY0 HB0 HSZ0 HV HL
      obtain ⟨j, c1, rfl, hj, hl1, hx, hy, hv1, hb⟩ := hrel
      obtain ⟨L, hLe⟩ : ∃ L, L = l.take (l.length - j) := ⟨_, rfl⟩
      have hTK := take_one l j
      rw [← hLe] at hl1 hv1 hTK
      have HLE := Lib.hid hLe
      have HTK := Lib.hid hTK
      have HX1 := Lib.hid hx
      have HY1 := Lib.hid hy
      have HV1 := Lib.hid hv1
      have HL1 := Lib.hid hl1
      have HB1 := Lib.hid hb
      have HS1 := Lib.hid hv1.size
      have HONE1 := Lib.hid hv1.one
      replace HLEN : Hid (L.length ≤ 1000000) := hv1.len
      have HXW := Lib.hid (show w.heap.size + 1 + 1 < wr.heap.size from (Array.getElem?_eq_some_iff.1 hy).1)
      obtain ⟨al, cl, rfl, _⟩ := hl1.shape
      clear hLe hTK hx hy hv1 hb
      by_cases hlt : (j : Int) < (m : Int)
      · have HPOP := pv_Pop wr HV1.out
        by_cases h0 : 0 < L.length
        · obtain ⟨n1, hn1⟩ : ∃ n1, n1 = L.length - 1 := ⟨_, rfl⟩
          have hg : getF (fun i => L.getD i 0) L.length ((L.length : Int) - 1) = (L.getD n1 0, true) := by
            unfold getF
            rw [if_pos (by omega), show ((L.length : Int) - 1).toNat = n1 by omega]
          rw [hg] at HPOP
          obtain ⟨gg, cg, ev, hcl⟩ := HL1.out.cell (show n1 < L.length by omega)
          simp only [Value.slice.injEq, true_and] at ev
          obtain ⟨rfl, rfl⟩ := ev
          have e1 : (L.length : Int) - 1 = (n1 : Int) := by omega
          have HREF := Lib.hid (fun w' (hL : Lst (fun _ => True) w' (.slice (some ⟨gg, 0, none⟩) L.length cl) L) => ref_Keep7 _ L (n1 : Int) w' hL HLEN.out)
          have n0' : (0 : Int) < (L.length : Int) := by omega
          have n1' : (n1 : Int) < (L.length : Int) := by omega
          have n10 : 0 ≤ (n1 : Int) := by omega
          have n16 : (L.length : Int) ≤ 1000000 := by have := HLEN.out; omega
          have n1w : IntKind.i64.wrap (n1 : Int) = (n1 : Int) := by rw [IntKind.wrap_i64]; omega
          have HN1 := Lib.hid hn1
          rw [← hn1] at HPOP
          obtain ⟨z, hz⟩ : ∃ z, z = L.getD n1 0 := ⟨_, rfl⟩
          rw [← hz] at hcl HPOP
          have HPP := Lib.hid HPOP
          have HCL := Lib.hid hcl
          have HGG := Lib.hid (World.block_lt_of_cell? _ _ hcl)
          clear hg hn1 hz HPOP hl1 h0 hcl
          go_upto_region 24 with (first
            | (refine ld_if rfl 30 _ rfl w.heap.size rfl 30 _ _ _ HX1.out Try.underlying30 rfl (by rw [HS1.out]; exact vec_size) ?_)
            | (go_at_call 20; with_reducible refine HPP.out.mono ?_; rintro e w2 ⟨c2, rfl, hv2, hb⟩; have HX2 := Lib.hid ((hb.block _ (Array.getElem?_eq_some_iff.1 HX1.out).1).trans HX1.out); have HY2 := Lib.hid ((hb.block _ (Array.getElem?_eq_some_iff.1 HY1.out).1).trans HY1.out); have HB2 := Lib.hid (HB1.out.trans (hb.mono HB1.out.size)); have HV2 := Lib.hid hv2; have HL2 := Lib.hid (HL1.out.later hb); have HC2 := Lib.hid ((hb.cell (p := ⟨gg, n1, none⟩) HGG.out).trans HCL.out); have HW2 := Lib.hid (Nat.lt_of_lt_of_le HXW.out hb.size); clear hb hv2)
            | (refine st_agg rfl 30 _ _ rfl w2.heap.size c2 rfl rfl 30 #[.int .i64 0, .slice none 0 0, .slice none 0 0, .slice none 0 0] (heap_alloc_last w2 _) (by rw [VecG.size HV2.out]; exact vec_size) (by rw [VecG.size HV2.out]; rfl) (VecG.one HV2.out) ?_; intro w3 h3 k3; have hb := Below.newly' w2 (.cells #[.int .i64 0, .slice none 0 0, .slice none 0 0, .slice none 0 0] 30); have HX3 := Lib.hid (k3.other ((hb.block _ (Array.getElem?_eq_some_iff.1 HX2.out).1).trans HX2.out) (by have := HW2.out; omega)); have HY3 := Lib.hid (k3.other ((hb.block _ (Array.getElem?_eq_some_iff.1 HY2.out).1).trans HY2.out) (by have := HW2.out; omega)); have HZ3 := Lib.hid h3; have HB3 := Lib.hid ((HB2.out.alloc HB2.out.size _).trans (k3.below HB2.out.size)); have HV3 := Lib.hid (VecAt.but (VecAt.later HV2.out hb) k3 (heap_alloc_last w2 _) (by decide) (by decide)); have HL3 := Lib.hid ((HL2.out.later hb).but k3 (heap_alloc_last w2 _) (by decide)); have hcl3 : w3.cell? ⟨gg, n1, none⟩ = some (.int .i64 z) := (by obtain ⟨g', c', e', h'⟩ := HL3.out.cell (show n1 < L.length by have := HN1.out; omega); simp only [Value.slice.injEq, Option.some.injEq, Addr.mk.injEq, and_true, true_and] at e'; obtain ⟨rfl, rfl⟩ := e'; rw [h']; obtain ⟨g2, c2', e2', h2'⟩ := HL2.out.cell (show n1 < L.length by have := HN1.out; omega); simp only [Value.slice.injEq, Option.some.injEq, Addr.mk.injEq, and_true, true_and] at e2'; obtain ⟨rfl, rfl⟩ := e2'; rw [← h2']; exact HC2.out); clear h3 k3 hb))
          go_upto_region 26 with fail
          obtain ⟨Z, hZ⟩ : ∃ Z, Z = w2.heap.size := ⟨_, rfl⟩
          rw [← hZ] at HZ3 HW2 ⊢
          have HZW := Lib.hid (show w.heap.size + 1 + 1 < Z from HW2.out)
          have HX4 : Hid (w3.drew.heap[w.heap.size]? = some (.cells c1 30 (0, 0))) := HX3.out
          have HY4 : Hid (w3.drew.heap[w.heap.size + 1 + 1]? = some (.cells #[.int .i64 0, .slice none 0 0, .slice none 0 0, .slice none 0 0] 30 (0, 0))) := HY3.out
          have HZ4 : Hid (w3.drew.heap[Z]? = some (.cells c2 30 (0, 0))) := HZ3.out
          have HB4 := Lib.hid (HB3.out.trans ((drawn_below w3).mono HB3.out.size))
          have HV4 := Lib.hid (VecAt.later HV3.out (drawn_below w3))
          have HL4 := Lib.hid (HL3.out.later (drawn_below w3))
          clear hZ HX3 HY3 HZ3 HX2 HY2 HB2 HV2 HL2 HC2 HX1 HY1 HV1 HL1 HB1 hcl3
          refine wp_region_T (S := fun V => V.heap[Z]? = some (.cells c2 30 (0, 0))) [] (by kernel_rfl) (by first | exact HZ4.out | exact HZ5.out | exact HZ9.out) (fun hHeld => ?_)
          refine wpAnyT_take (i := 0) (oi := ⟨some 125, _, _, _, _, _⟩) (v := _) rfl (by kernel_rfl) (by kernel_rfl) (by kernel_rfl) (by kernel_rfl) (fun _ _ _ h => h) (yieldsIf_load_row (by rfl) 30 _ rfl Z rfl c2 30 (0, 0) _ (fun w hw => hw) Try.underlying30 rfl (by rw [VecG.size HV3.out]; exact vec_size)) (by assumption) ?_
          (try simp only [Act.put, List.setIfInBounds_toArray, List.set_cons_zero, List.set_cons_succ])
          refine wpAnyT_take (i := 1) (oi := ⟨some 126, _, _, _, _, _⟩) (v := ?vg3_1) rfl (by kernel_rfl) (by kernel_rfl) (by kernel_rfl) (by kernel_rfl) (fun _ _ _ h => h) (Or.inl ⟨by rfl, ?hg3_1⟩) (by assumption) ?rg3_1
          case hg3_1 => (intro w hSw; (try dsimp only at hSw); first | (go_simp; done) | (go_simp; with_reducible rfl))
          (try simp only [Act.put, List.setIfInBounds_toArray, List.set_cons_zero, List.set_cons_succ])
          refine wpAnyT_take (i := 2) (oi := ⟨some 127, _, _, _, _, _⟩) (v := ?vg3_2) rfl (by kernel_rfl) (by kernel_rfl) (by kernel_rfl) (by kernel_rfl) (fun _ _ _ h => h) (Or.inl ⟨by rfl, ?hg3_2⟩) (by assumption) ?rg3_2
          case hg3_2 => (intro w hSw; (try dsimp only at hSw); first | (go_simp; done) | (go_simp; with_reducible rfl))
          (try simp only [Act.put, List.setIfInBounds_toArray, List.set_cons_zero, List.set_cons_succ])
          refine wpAnyT_take (i := 3) (oi := ⟨some 128, _, _, _, _, _⟩) (v := ?vg3_3) rfl (by kernel_rfl) (by kernel_rfl) (by kernel_rfl) (by kernel_rfl) (fun _ _ _ h => h) (Or.inl ⟨by rfl, ?hg3_3⟩) (by assumption) ?rg3_3
          case hg3_3 => (intro w hSw; (try dsimp only at hSw); first | (go_simp; done) | (go_simp; with_reducible rfl))
          (try simp only [Act.put, List.setIfInBounds_toArray, List.set_cons_zero, List.set_cons_succ])
          refine wpAnyT_take (i := 4) (oi := ⟨some 129, _, _, _, _, _⟩) (v := ?vg3_4) rfl (by kernel_rfl) (by kernel_rfl) (by kernel_rfl) (by kernel_rfl) (fun _ _ _ h => h) (Or.inl ⟨by rfl, ?hg3_4⟩) (by assumption) ?rg3_4
          case hg3_4 => (intro w hSw; (try dsimp only at hSw); first | (go_simp; done) | (go_simp; with_reducible rfl))
          (try simp only [Act.put, List.setIfInBounds_toArray, List.set_cons_zero, List.set_cons_succ])
          refine wpAnyT_one (i := 5) (o := ⟨some 130, _, _, _, _, _⟩) (by kernel_rfl) rfl (fun K hK => ?_)
          go_simp
          go_at_call 26
          with_reducible refine (HREF.out _ HL4.out).mono ?_
          rintro e w5 ⟨v5, rfl, hi5, hb⟩
          have HX5 := Lib.hid ((hb.block _ (Array.getElem?_eq_some_iff.1 HX4.out).1).trans HX4.out)
          have HY5 := Lib.hid ((hb.block _ (Array.getElem?_eq_some_iff.1 HY4.out).1).trans HY4.out)
          have HZ5 := Lib.hid ((hb.block _ (Array.getElem?_eq_some_iff.1 HZ4.out).1).trans HZ4.out)
          have HB5 := Lib.hid (HB4.out.trans (hb.mono HB4.out.size))
          have HV5 := Lib.hid (VecAt.later HV4.out hb)
          have hl5 := hi5.lst
          rw [Int.toNat_natCast] at hl5
          have HL5 := Lib.hid (hl5.weak (S' := fun _ => True) fun _ _ => trivial)
          clear hb hi5 hl5
          dsimp only
          refine hK.out _ _ (by first | exact HZ4.out | exact HZ5.out | exact HZ9.out) (fun hHeld => ?_)
          clear hK K
          (try simp only [Act.put, List.setIfInBounds_toArray, List.set_cons_zero, List.set_cons_succ])
          refine wpAnyT_one (i := 6) (o := ⟨none, _, _, _, _, _⟩) (by kernel_rfl) rfl (fun K hK => ?_)
          refine st_agg_wp 30 _ _ rfl w.heap.size c2 rfl rfl 30 c1 HX5.out (by rw [VecG.size HV3.out]; exact vec_size) (by rw [VecG.size HV3.out, HS1.out]) (VecG.one HV3.out) ?_
          intro w9 h9 k9
          have HX9 := Lib.hid h9
          have HY9 := Lib.hid (k9.other HY5.out (by omega))
          have HZ9 := Lib.hid (k9.other HZ5.out (by have := HZW.out; omega))
          have HB9 := Lib.hid (HB5.out.trans (k9.below (Nat.le_refl _)))
          have HV9 := Lib.hid (VecAt.but HV5.out k9 HX5.out (by decide) (by decide))
          have HL9 := Lib.hid (HL5.out.but k9 HX5.out (by decide))
          clear h9 k9
          refine hK.out _ _ (by first | exact HZ4.out | exact HZ5.out | exact HZ9.out) (fun hHeld => ?_)
          clear hK K
          (try simp only [Act.put, List.setIfInBounds_toArray, List.set_cons_zero, List.set_cons_succ])
          refine wpAnyT_one (i := 7) (o := ⟨some 1, _, _, _, _, _⟩) (by kernel_rfl) rfl (fun K hK => ?_)
          go_simp
          refine hK.out _ _ (by first | exact HZ4.out | exact HZ5.out | exact HZ9.out) (fun hHeld => ?_)
          clear hK K
          (try simp only [Act.put, List.setIfInBounds_toArray, List.set_cons_zero, List.set_cons_succ])
          refine wpAnyT_done (by kernel_rfl) ?_ _
          go_wp2_with fail
          go_roundw
          case rel =>
            have hn1 := HN1.out
            have hlen : L.length = (l.take (l.length - j)).length := by rw [HLE.out]
            rw [List.length_take] at hlen
            refine ⟨j + 1, c2, by simp, by omega, ?_, HX9.out, HY9.out, ?_, HB9.out⟩
            · rw [← HTK.out, ← hn1]
              exact HL9.out
            · rw [← HTK.out]
              refine VL.popped ?_
              rw [← hn1]
              exact HV9.out
          case measure => simp [intOf]; omega
        · have hg : getF (fun i => L.getD i 0) L.length ((L.length : Int) - 1) = (0, false) := by
            unfold getF
            rw [if_neg (by omega)]
          rw [hg] at HPOP
          have hL0 : L.length = 0 := by omega
          have HL00 := Lib.hid hL0
          have HREF := Lib.hid (fun w' (hL : Lst (fun _ => True) w' (.slice al L.length cl) L) => ref_Keep7 _ L (-1) w' hL HLEN.out)
          rw [hL0] at HREF ⊢
          have n1w : IntKind.i64.wrap (-1) = -1 := by decide
          have HPP := Lib.hid HPOP
          have HLNIL := Lib.hid (List.eq_nil_of_length_eq_zero (show L.length = 0 by omega))
          clear hg HPOP hl1 h0 hL0
          go_upto_region 24 with (first
            | (refine ld_if rfl 30 _ rfl w.heap.size rfl 30 _ _ _ HX1.out Try.underlying30 rfl (by rw [HS1.out]; exact vec_size) ?_)
            | (go_at_call 20; with_reducible refine HPP.out.mono ?_; rintro e w2 ⟨c2, rfl, hv2, hb⟩; have HX2 := Lib.hid ((hb.block _ (Array.getElem?_eq_some_iff.1 HX1.out).1).trans HX1.out); have HY2 := Lib.hid ((hb.block _ (Array.getElem?_eq_some_iff.1 HY1.out).1).trans HY1.out); have HB2 := Lib.hid (HB1.out.trans (hb.mono HB1.out.size)); have HV2 := Lib.hid hv2; have HL2 := Lib.hid (HL1.out.later hb); have HW2 := Lib.hid (Nat.lt_of_lt_of_le HXW.out hb.size); clear hb hv2)
            | (refine st_agg rfl 30 _ _ rfl w2.heap.size c2 rfl rfl 30 #[.int .i64 0, .slice none 0 0, .slice none 0 0, .slice none 0 0] (heap_alloc_last w2 _) (by rw [VecG.size HV2.out]; exact vec_size) (by rw [VecG.size HV2.out]; rfl) (VecG.one HV2.out) ?_; intro w3 h3 k3; have hb := Below.newly' w2 (.cells #[.int .i64 0, .slice none 0 0, .slice none 0 0, .slice none 0 0] 30); have HX3 := Lib.hid (k3.other ((hb.block _ (Array.getElem?_eq_some_iff.1 HX2.out).1).trans HX2.out) (by have := HW2.out; omega)); have HY3 := Lib.hid (k3.other ((hb.block _ (Array.getElem?_eq_some_iff.1 HY2.out).1).trans HY2.out) (by have := HW2.out; omega)); have HZ3 := Lib.hid h3; have HB3 := Lib.hid ((HB2.out.alloc HB2.out.size _).trans (k3.below HB2.out.size)); have HV3 := Lib.hid (VecAt.but (VecAt.later HV2.out hb) k3 (heap_alloc_last w2 _) (by decide) (by decide)); have HL3 := Lib.hid ((HL2.out.later hb).but k3 (heap_alloc_last w2 _) (by decide)); clear h3 k3 hb))
          go_upto_region 26 with fail
          obtain ⟨Z, hZ⟩ : ∃ Z, Z = w2.heap.size := ⟨_, rfl⟩
          rw [← hZ] at HZ3 HW2 ⊢
          have HZW := Lib.hid (show w.heap.size + 1 + 1 < Z from HW2.out)
          have HX4 : Hid (w3.drew.heap[w.heap.size]? = some (.cells c1 30 (0, 0))) := HX3.out
          have HY4 : Hid (w3.drew.heap[w.heap.size + 1 + 1]? = some (.cells #[.int .i64 0, .slice none 0 0, .slice none 0 0, .slice none 0 0] 30 (0, 0))) := HY3.out
          have HZ4 : Hid (w3.drew.heap[Z]? = some (.cells c2 30 (0, 0))) := HZ3.out
          have HB4 := Lib.hid (HB3.out.trans ((drawn_below w3).mono HB3.out.size))
          have HV4 := Lib.hid (VecAt.later HV3.out (drawn_below w3))
          have HL4 := Lib.hid (HL3.out.later (drawn_below w3))
          rw [HL00.out] at HL4
          clear hZ HX3 HY3 HZ3 HX2 HY2 HB2 HV2 HL2 HX1 HY1 HV1 HL1 HB1
          refine wp_region_T (S := fun V => V.heap[Z]? = some (.cells c2 30 (0, 0))) [] (by kernel_rfl) (by first | exact HZ4.out | exact HZ5.out | exact HZ9.out) (fun hHeld => ?_)
          refine wpAnyT_take (i := 0) (oi := ⟨some 125, _, _, _, _, _⟩) (v := _) rfl (by kernel_rfl) (by kernel_rfl) (by kernel_rfl) (by kernel_rfl) (fun _ _ _ h => h) (yieldsIf_load_row (by rfl) 30 _ rfl Z rfl c2 30 (0, 0) _ (fun w hw => hw) Try.underlying30 rfl (by rw [VecG.size HV3.out]; exact vec_size)) (by assumption) ?_
          (try simp only [Act.put, List.setIfInBounds_toArray, List.set_cons_zero, List.set_cons_succ])
          refine wpAnyT_take (i := 1) (oi := ⟨some 126, _, _, _, _, _⟩) (v := ?vg4_1) rfl (by kernel_rfl) (by kernel_rfl) (by kernel_rfl) (by kernel_rfl) (fun _ _ _ h => h) (Or.inl ⟨by rfl, ?hg4_1⟩) (by assumption) ?rg4_1
          case hg4_1 => (intro w hSw; (try dsimp only at hSw); first | (go_simp; done) | (go_simp; with_reducible rfl))
          (try simp only [Act.put, List.setIfInBounds_toArray, List.set_cons_zero, List.set_cons_succ])
          refine wpAnyT_take (i := 2) (oi := ⟨some 127, _, _, _, _, _⟩) (v := ?vg4_2) rfl (by kernel_rfl) (by kernel_rfl) (by kernel_rfl) (by kernel_rfl) (fun _ _ _ h => h) (Or.inl ⟨by rfl, ?hg4_2⟩) (by assumption) ?rg4_2
          case hg4_2 => (intro w hSw; (try dsimp only at hSw); first | (go_simp; done) | (go_simp; with_reducible rfl))
          (try simp only [Act.put, List.setIfInBounds_toArray, List.set_cons_zero, List.set_cons_succ])
          refine wpAnyT_take (i := 3) (oi := ⟨some 128, _, _, _, _, _⟩) (v := ?vg4_3) rfl (by kernel_rfl) (by kernel_rfl) (by kernel_rfl) (by kernel_rfl) (fun _ _ _ h => h) (Or.inl ⟨by rfl, ?hg4_3⟩) (by assumption) ?rg4_3
          case hg4_3 => (intro w hSw; (try dsimp only at hSw); first | (go_simp; done) | (go_simp; with_reducible rfl))
          (try simp only [Act.put, List.setIfInBounds_toArray, List.set_cons_zero, List.set_cons_succ])
          refine wpAnyT_take (i := 4) (oi := ⟨some 129, _, _, _, _, _⟩) (v := ?vg4_4) rfl (by kernel_rfl) (by kernel_rfl) (by kernel_rfl) (by kernel_rfl) (fun _ _ _ h => h) (Or.inl ⟨by rfl, ?hg4_4⟩) (by assumption) ?rg4_4
          case hg4_4 => (intro w hSw; (try dsimp only at hSw); first | (go_simp; done) | (go_simp; with_reducible rfl))
          (try simp only [Act.put, List.setIfInBounds_toArray, List.set_cons_zero, List.set_cons_succ])
          refine wpAnyT_one (i := 5) (o := ⟨some 130, _, _, _, _, _⟩) (by kernel_rfl) rfl (fun K hK => ?_)
          go_simp
          go_at_call 26
          with_reducible refine (HREF.out _ HL4.out).mono ?_
          rintro e w5 ⟨v5, rfl, hi5, hb⟩
          have HX5 := Lib.hid ((hb.block _ (Array.getElem?_eq_some_iff.1 HX4.out).1).trans HX4.out)
          have HY5 := Lib.hid ((hb.block _ (Array.getElem?_eq_some_iff.1 HY4.out).1).trans HY4.out)
          have HZ5 := Lib.hid ((hb.block _ (Array.getElem?_eq_some_iff.1 HZ4.out).1).trans HZ4.out)
          have HB5 := Lib.hid (HB4.out.trans (hb.mono HB4.out.size))
          have HV5 := Lib.hid (VecAt.later HV4.out hb)
          have hl5 := hi5.lst
          rw [show L.take (-1 : Int).toNat = L by rw [HLNIL.out]; rfl] at hl5
          have HL5 := Lib.hid (hl5.weak (S' := fun _ => True) fun _ _ => trivial)
          clear hb hi5 hl5
          dsimp only
          refine hK.out _ _ (by first | exact HZ4.out | exact HZ5.out | exact HZ9.out) (fun hHeld => ?_)
          clear hK K
          (try simp only [Act.put, List.setIfInBounds_toArray, List.set_cons_zero, List.set_cons_succ])
          refine wpAnyT_one (i := 6) (o := ⟨none, _, _, _, _, _⟩) (by kernel_rfl) rfl (fun K hK => ?_)
          refine st_agg_wp 30 _ _ rfl w.heap.size c2 rfl rfl 30 c1 HX5.out (by rw [VecG.size HV3.out]; exact vec_size) (by rw [VecG.size HV3.out, HS1.out]) (VecG.one HV3.out) ?_
          intro w9 h9 k9
          have HX9 := Lib.hid h9
          have HY9 := Lib.hid (k9.other HY5.out (by omega))
          have HZ9 := Lib.hid (k9.other HZ5.out (by have := HZW.out; omega))
          have HB9 := Lib.hid (HB5.out.trans (k9.below (Nat.le_refl _)))
          have HV9 := Lib.hid (VecAt.but HV5.out k9 HX5.out (by decide) (by decide))
          have HL9 := Lib.hid (HL5.out.but k9 HX5.out (by decide))
          clear h9 k9
          refine hK.out _ _ (by first | exact HZ4.out | exact HZ5.out | exact HZ9.out) (fun hHeld => ?_)
          clear hK K
          (try simp only [Act.put, List.setIfInBounds_toArray, List.set_cons_zero, List.set_cons_succ])
          refine wpAnyT_one (i := 7) (o := ⟨some 1, _, _, _, _, _⟩) (by kernel_rfl) rfl (fun K hK => ?_)
          go_simp
          refine hK.out _ _ (by first | exact HZ4.out | exact HZ5.out | exact HZ9.out) (fun hHeld => ?_)
          clear hK K
          (try simp only [Act.put, List.setIfInBounds_toArray, List.set_cons_zero, List.set_cons_succ])
          refine wpAnyT_done (by kernel_rfl) ?_ _
          have HSZ9 := Lib.hid (VecG.size HV9.out)
          have HONE9 := Lib.hid (VecG.one HV9.out)
          go_wp2_with (first
            | (refine ld_if rfl 30 _ rfl w.heap.size rfl 30 _ _ _ HX9.out Try.underlying30 rfl (by rw [HSZ9.out]; exact vec_size) ?_)
            | (refine st_agg rfl 30 _ _ rfl (w.heap.size + 1 + 1) c2 rfl rfl 30 #[.int .i64 0, .slice none 0 0, .slice none 0 0, .slice none 0 0] HY9.out (by rw [HSZ9.out]; exact vec_size) (by rw [HSZ9.out]; rfl) HONE9.out ?_; intro w10 h9 k9))
          have hnil := HLNIL.out
          have hlen : L.length = (l.take (l.length - j)).length := by rw [HLE.out]
          rw [List.length_take] at hlen
          have hl0 : l.length - m = 0 := by have := HL00.out; have e : L.length = 0 := by rw [hnil]; rfl
                                            omega
          rw [hl0, List.take_zero]
          refine bodyPost_ret (results_cell_row2 rfl _ _ (w.heap.size + 1 + 1) 30 _ (0, 0) _ rfl h9 Try.underlying30 rfl (by rw [HSZ9.out]; exact vec_size)) rfl ⟨_, _, rfl, ?_, ?_, HB9.out.trans (k9.below (by omega))⟩
          · have h := VL.popped HV9.out
            rw [hnil] at h
            exact h.but k9 HY9.out (by decide) (by decide)
          · have h := HL9.out
            rw [hnil] at h
            exact h.but k9 HY9.out (by decide)
      · obtain rfl : j = m := by omega
        have HSZ := HS1
        clear hlt
        go_wp2_with (first
          | (refine ld_if rfl 30 _ rfl w.heap.size rfl 30 _ _ _ HX1.out Try.underlying30 rfl (by rw [HS1.out]; exact vec_size) ?_)
          | (refine st_agg rfl 30 _ _ rfl (w.heap.size + 1 + 1) c1 rfl rfl 30 #[.int .i64 0, .slice none 0 0, .slice none 0 0, .slice none 0 0] HY1.out (by rw [HS1.out]; exact vec_size) (by rw [HS1.out]; rfl) HONE1.out ?_; intro w10 h9 k9))
        rw [← HLE.out]
        exact bodyPost_ret (results_cell_row2 rfl _ _ (w.heap.size + 1 + 1) 30 _ (0, 0) _ rfl h9 Try.underlying30 rfl (by rw [HS1.out]; exact vec_size)) rfl ⟨_, _, rfl, HV1.out.but k9 HY1.out (by decide) (by decide), HL1.out.but k9 HY1.out (by decide), HB1.out.trans (k9.below (by omega))⟩
end Go.Proofs.Ytpjbhdplginbaaa
