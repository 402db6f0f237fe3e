/- The document's maps put together: pick, Meet, Less, Between, Union. (written by tools/gen10/rd2.py) -/
import Derived.Test.YtnnlfgfgfegjkaaDoorRd1
import Derived.Test.YtnnlfgfgfegjkaaDoorDc4
namespace Go.Proofs.YtnnlfgfgfegjkaaDoor
open Go.RowKit
set_option maxRecDepth 1000000
set_option linter.unusedSimpArgs false

theorem short_filter {L : List Ent} (h : Short L) (p : Ent → Bool) : Short (L.filter p) := fun e he => h e (List.mem_filter.1 he).1
theorem short_take {L : List Ent} (h : Short L) (j : Nat) : Short (L.take j) := fun e he => h e (List.mem_of_mem_take he)
theorem rise_takeL {L : List Ent} (h : Rise L) (j : Nat) : Rise (L.take j) := h.sub (List.take_sublist _ _)
theorem short_uni {A B : List Ent} (hA : Short A) (hB : Short B) : Short (uniE A B) := by
  induction A generalizing B with
  | nil => exact hB
  | cons e A ih => exact ih (fun a ha => hA a (List.mem_cons_of_mem _ ha)) (short_ins hB (hA e List.mem_cons_self) _)
/-- A cell of a map of the document's. -/
theorem refm_at {w : World} {a1 a2 : Option Addr} {N c1 c2 : Nat} {L : List Ent} (hk : LsS w (.slice a1 N c1) (keysE L)) (hx : LsI w (.slice a2 N c2) (valsE L)) {j : Nat} (hj : j < L.length) :
    ∃ g1 g2, a1 = some ⟨g1, 0, none⟩ ∧ a2 = some ⟨g2, 0, none⟩ ∧ w.cell? ⟨g1, j, none⟩ = some (.string L[j].1) ∧ w.cell? ⟨g2, j, none⟩ = some (.int .i64 L[j].2) := by
  obtain ⟨g1, d1, e1, h1⟩ := hk.cell (j := j) (by rw [keysE_len]; exact hj)
  obtain ⟨g2, d2, e2, h2⟩ := hx.cell (j := j) (by rw [valsE_len]; exact hj)
  simp only [Value.slice.injEq] at e1 e2
  refine ⟨g1, g2, e1.1, e2.1, ?_, ?_⟩
  · rw [h1]; simp [keysE]
  · rw [h2]; simp [valsE]
def pickP (B : List Ent) (t : Bool) (e : Ent) : Bool := hasE B e == t
set_option maxHeartbeats 8000000 in
theorem rf_pick (w : World) (ca cb : Array Value) (A B : List Ent) (t : Bool) (ha : RefM w ca A) (hb : RefM w cb B) (hA : Rise A) (hB : Rise B) (hSA : Short A) (hSB : Short B) (hn : A.length ≤ 40000) (hm : B.length ≤ 40000) :
    Calls Tryd.prog 60 #[.agg ca, .agg cb, .bool t] w fun r w' => ∃ c', r = .returned (.agg c') ∧ RefM w' c' (A.filter (pickP B t)) ∧ Below w.heap.size w w' := by
  obtain ⟨kv, xv, rfl, hk, hx⟩ := ha
  have HLS := Lib.hid hk
  have HLI := Lib.hid hx
  obtain ⟨a1, c1, rfl, _⟩ := hk.shape
  obtain ⟨a2, c2, rfl, _⟩ := hx.shape
  rw [keysE_len, valsE_len] at *
  obtain ⟨N, hN⟩ : ∃ N, N = A.length := ⟨_, rfl⟩
  rw [← hN] at HLS HLI ⊢
  have hN4 : (N : Int) ≤ 40000 := by omega
  have HNL : Hid (N = A.length ∧ N ≤ 40000) := ⟨hN, by omega⟩
  obtain ⟨w3, hw3⟩ : ∃ w3, ((w.alloc (.cells #[.slice a1 N c1, .slice a2 N c2] 40)).alloc (.cells cb 40)).alloc (.cells refZ 40) = w3 := ⟨_, rfl⟩
  obtain ⟨hb3, hx3, hy3, hz3, hs3⟩ := three_newG hw3
  obtain ⟨w0, hw0⟩ : ∃ w0, w3.alloc (.cells refZ 40) = w0 := ⟨_, rfl⟩
  obtain ⟨hb4, ho4, hs4⟩ := new_below hw0
  have HXA := Lib.hid ((hb4.block _ (Array.getElem?_eq_some_iff.1 hx3).1).trans hx3)
  have hy0 := (hb4.block _ (Array.getElem?_eq_some_iff.1 hy3).1).trans hy3
  have HR : Hid (w0.heap[w.heap.size + 1 + 1]? = some (.cells refZ 40 (0, 0))) := (hb4.block _ (Array.getElem?_eq_some_iff.1 hz3).1).trans hz3
  have hbw : Below w.heap.size w w0 := hb3.trans (hb4.mono hb3.size)
  have HB := Lib.hid hbw
  have HO : Hid (RB w0 ((A.take 0).filter (pickP B t)) (w.heap.size + 3)) := ⟨refZ, by rw [show w.heap.size + 3 = w3.heap.size by omega]; exact ho4, RefM.zero _⟩
  have HYB : Hid (∀ V, Below w0.heap.size w0 V → V.heap[w.heap.size + 1]? = some (.cells cb 40 (0, 0))) := fun V hV => (hV.block _ (Array.getElem?_eq_some_iff.1 hy0).1).trans hy0
  have HYR := Lib.hid hy0
  have HZB := Lib.hid hb.size
  have HBAT := Lib.hid (fun W (h : Below w.heap.size w W) k => ref_At9 W cb B k (hb.later h) hB hSB (by omega))
  have HSA := Lib.hid hSA
  have HRA := Lib.hid hA
  rw [← hw3] at hw0
  clear hb hA hB hSA hSB hn hm hk hx hN hb3 hx3 hy3 hz3 hs3 hb4 ho4 hs4 hy0 hbw hw3
  clear HYB
  go_enter Tryd.func60, Tryd.ntmps60
  go_upto_region 2 with fail
  try rw [hw0]
  have hx0c : w0.cell? ⟨w.heap.size, 0, none⟩ = some (.slice a1 N c1) := cell_in HXA.out rfl
  go_wp2_with fail
  clear hw0 hx0c
  go_loopw [15] (fun i wl => ∃ j : Nat, i = .int .i64 (j : Int) ∧ j ≤ N ∧ Hid (wl.heap[w.heap.size]? = some (.cells #[.slice a1 N c1, .slice a2 N c2] 40 (0, 0))) ∧ Hid (RB wl ((A.take j).filter (pickP B t)) (w.heap.size + 3)) ∧ Hid (wl.heap[w.heap.size + 1 + 1]? = some (.cells refZ 40 (0, 0))) ∧ Hid (wl.heap[w.heap.size + 1]? = some (.cells cb 40 (0, 0))) ∧ Hid (Below w.heap.size w wl)) (fun i _ => N - (intOf i).toNat)
  case atStart => exact ⟨0, rfl, Nat.zero_le _, HXA, HO, HR, HYR, HB⟩
  case round =>
    clear HXA HO HR HYR HB
    obtain ⟨j, rfl, hj, HXA, HO, HR, HYR, HB⟩ := hrel
    by_cases hlt : j < N
    · have hlt' : (j : Int) < (N : Int) := by omega
      have i0 : (0 : Int) ≤ (j : Int) := by omega
      have hjL : j < A.length := by rw [← HNL.out.1]; exact hlt
      obtain ⟨g1, g2, rfl, rfl, hc1, hc2⟩ := refm_at (HLS.out.later HB.out) (HLI.out.later HB.out) hjL
      have HLT := Lib.hid hlt
      have HC2 := Lib.hid hc2
      have hon := fun h => keep_on (p := pickP B t) HRA.out hjL h
      have hoff := fun h => keep_off (p := pickP B t) hjL h
      have hpd : pickP B t A[j] = ((getE B A[j].1).isSome == t) := rfl
      rw [hpd] at hon hoff
      have HRD := Lib.hid ((rise_takeL HRA.out j).filter (pickP B t))
      have HSD := Lib.hid (short_filter (short_take HSA.out j) (pickP B t))
      have HLD : Hid (((A.take j).filter (pickP B t)).length ≤ 100000) := by show _ ≤ _; have h := List.length_filter_le (pickP B t) (A.take j); rw [List.length_take] at h; have := HNL.out; omega
      obtain ⟨D, hD⟩ : ∃ D, D = (A.take j).filter (pickP B t) := ⟨_, rfl⟩
      obtain ⟨⟨ky, xy⟩, hky⟩ : ∃ e, e = A[j] := ⟨_, rfl⟩
      rw [← hD] at hon hoff HO HRD HSD HLD
      rw [← hky] at hon hoff hc1 HC2
      simp only at hon hoff hc1
      obtain ⟨is_, his⟩ : ∃ i, i = (getE B ky).isSome := ⟨_, rfl⟩
      have hat := fun W h => HBAT.out W h ky
      rw [← his] at hon hoff hat
      have HAT := Lib.hid hat
      have HON := Lib.hid hon
      have HOFF := Lib.hid hoff
      clear hpd hky hD hc2 hjL hlt hat hon hoff his
      go_upto_region 6 with (first
        | (refine ld_if (by rfl) 40 _ rfl (w.heap.size + 1) rfl 40 cb _ _ HYR.out Tryd.underlying40 rfl (by rw [HZB.out]; exact refm_size) ?_)
        | (go_at_call 71; (with_reducible refine (HAT.out _ HB.out).mono ?_); rintro r wq ⟨rfl, hb⟩; replace HXA := Lib.hid ((hb.block _ (Array.getElem?_eq_some_iff.1 HXA.out).1).trans HXA.out); replace HO := Lib.hid (HO.out.later hb); replace HR := Lib.hid ((hb.block _ (Array.getElem?_eq_some_iff.1 HR.out).1).trans HR.out); replace HYR := Lib.hid ((hb.block _ (Array.getElem?_eq_some_iff.1 HYR.out).1).trans HYR.out); replace HB := Lib.hid (HB.out.trans (hb.mono HB.out.size)); have HCQ := Lib.hid ((hb.cell (World.block_lt_of_cell? wr _ HC2.out)).trans HC2.out); replace HC2 := HCQ; clear HCQ hb))
      by_cases hp : is_ = t
      · subst hp
        have HEA := Lib.hid (HON.out (by simp))
        have t1 : (is_ == is_) = true := by simp
        obtain ⟨co, hXo, hmo⟩ := HO.out
        have HXO := Lib.hid hXo
        have HZO := Lib.hid hmo.size
        have HST := Lib.hid (fun W (hb : Below wq.heap.size wq W) => ref_Set9 W co D ky xy (hmo.later hb) HRD.out HSD.out HLD.out)
        clear hXo hmo
        go_upto_region 7 with fail
        have HKS : Hid (∀ V, Below wq.heap.size wq V → V.heap[(w.heap.size + 3)]? = some (.cells co 40 (0, 0)) ∧ V.cell? ⟨w.heap.size, 1, none⟩ = some (.slice (some ⟨g2, 0, none⟩) N c2) ∧ V.cell? ⟨g2, j, none⟩ = some (.int .i64 xy)) := fun V hV => ⟨(hV.block _ (Array.getElem?_eq_some_iff.1 HXO.out).1).trans HXO.out, cell_in ((hV.block _ (Array.getElem?_eq_some_iff.1 HXA.out).1).trans HXA.out) rfl, (hV.cell (World.block_lt_of_cell? wq _ HC2.out)).trans HC2.out⟩
        have HW : Hid (Below wq.heap.size wq wq.drew) := drawn_below wq
        refine wp_region_T (S := (fun V => V.heap[(w.heap.size + 3)]? = some (.cells co 40 (0, 0)) ∧ V.cell? ⟨w.heap.size, 1, none⟩ = some (.slice (some ⟨g2, 0, none⟩) N c2) ∧ V.cell? ⟨g2, j, none⟩ = some (.int .i64 xy))) [8] (by kernel_rfl) (by exact HKS.out _ HW.out) (fun hHeld => ?_)
        refine wpAnyT_take (i := 0) (oi := ⟨some 29, _, _, _, _, _⟩) (v := _) rfl (by kernel_rfl) (by kernel_rfl) (by kernel_rfl) (by kernel_rfl) (fun _ _ _ h => h) (yieldsIf_load_row (by rfl) 40 _ rfl (w.heap.size + 3) rfl co 40 (0, 0) _ (fun w hw => hw.1) Tryd.underlying40 rfl (by rw [HZO.out]; exact refm_size)) (by assumption) ?_
        (try simp only [Act.put, List.setIfInBounds_toArray, List.set_cons_zero, List.set_cons_succ])
        refine wpAnyT_take (i := 1) (oi := ⟨some 30, _, _, _, _, _⟩) (v := ?vg1_1) rfl (by kernel_rfl) (by kernel_rfl) (by kernel_rfl) (by kernel_rfl) (fun _ _ _ h => h) (Or.inl ⟨by rfl, ?hg1_1⟩) (by assumption) ?rg1_1
        case hg1_1 => (intro w hSw; (try dsimp only at hSw); first | (go_simp; done) | (go_simp; with_reducible rfl))
        (try simp only [Act.put, List.setIfInBounds_toArray, List.set_cons_zero, List.set_cons_succ])
        refine wpAnyT_take (i := 2) (oi := ⟨some 31, _, _, _, _, _⟩) (v := ?vg1_2) rfl (by kernel_rfl) (by kernel_rfl) (by kernel_rfl) (by kernel_rfl) (fun _ _ _ h => h) (Or.inl ⟨by rfl, ?hg1_2⟩) (by assumption) ?rg1_2
        case hg1_2 => (intro w hSw; (try dsimp only at hSw); first | (go_simp; done) | (go_simp; with_reducible rfl))
        (try simp only [Act.put, List.setIfInBounds_toArray, List.set_cons_zero, List.set_cons_succ])
        refine wpAnyT_take (i := 3) (oi := ⟨some 32, _, _, _, _, _⟩) (v := ?vg1_3) rfl (by kernel_rfl) (by kernel_rfl) (by kernel_rfl) (by kernel_rfl) (fun _ _ _ h => h) (Or.inl ⟨by rfl, ?hg1_3⟩) (by assumption) ?rg1_3
        case hg1_3 => (intro w hSw; (try dsimp only at hSw); first | (go_simp; done) | (go_simp; with_reducible rfl))
        (try simp only [Act.put, List.setIfInBounds_toArray, List.set_cons_zero, List.set_cons_succ])
        refine wpAnyT_take (i := 4) (oi := ⟨some 33, _, _, _, _, _⟩) (v := ?vg1_4) rfl (by kernel_rfl) (by kernel_rfl) (by kernel_rfl) (by kernel_rfl) (fun _ _ _ h => h) (Or.inl ⟨by rfl, ?hg1_4⟩) (by assumption) ?rg1_4
        case hg1_4 => (intro w hSw; (try dsimp only at hSw); first | (go_simp; done) | (go_simp; with_reducible rfl))
        (try simp only [Act.put, List.setIfInBounds_toArray, List.set_cons_zero, List.set_cons_succ])
        refine wpAnyT_take (i := 5) (oi := ⟨some 34, _, _, _, _, _⟩) (v := ?vg1_5) rfl (by kernel_rfl) (by kernel_rfl) (by kernel_rfl) (by kernel_rfl) (fun _ _ _ h => h) (Or.inl ⟨by rfl, ?hg1_5⟩) (by assumption) ?rg1_5
        case hg1_5 => (intro w hSw; (try dsimp only at hSw); first | (go_simp; done) | (go_simp; with_reducible rfl))
        (try simp only [Act.put, List.setIfInBounds_toArray, List.set_cons_zero, List.set_cons_succ])
        refine wpAnyT_take (i := 6) (oi := ⟨some 35, _, _, _, _, _⟩) (v := ?vg1_6) rfl (by kernel_rfl) (by kernel_rfl) (by kernel_rfl) (by kernel_rfl) (fun _ _ _ h => h) (Or.inl ⟨by rfl, ?hg1_6⟩) (by assumption) ?rg1_6
        case hg1_6 => (intro w hSw; (try dsimp only at hSw); first | (go_simp; done) | (go_simp; with_reducible rfl))
        (try simp only [Act.put, List.setIfInBounds_toArray, List.set_cons_zero, List.set_cons_succ])
        refine wpAnyT_one (i := 7) (o := ⟨some 36, _, _, _, _, _⟩) (by kernel_rfl) rfl (fun K hK => ?_)
        go_simp
        go_at_call 50
        (with_reducible refine (HST.out _ (by exact HW.out)).mono ?_)
        rintro r w5 ⟨c5, rfl, hm5, hb⟩
        have HM5 := Lib.hid hm5
        have HZ5 := Lib.hid hm5.size
        replace HW := Lib.hid (HW.out.trans (hb.mono HW.out.size))
        clear hm5 hb
        dsimp only
        refine hK.out _ _ (by exact HKS.out _ HW.out) (fun hHeld => ?_)
        clear hK K
        (try simp only [Act.put, List.setIfInBounds_toArray, List.set_cons_zero, List.set_cons_succ])
        refine wpAnyT_last (i := 8) (o := ⟨none, _, _, _, _, _⟩) (by kernel_rfl) (by decide) rfl (fun K hK => ?_)
        rw [if_pos (by rfl)]
        refine st_agg_wp 40 _ _ rfl (w.heap.size + 3) c5 rfl rfl 40 _ (HKS.out _ HW.out).1 (by rw [HZ5.out]; exact refm_size) (by rw [HZO.out, HZ5.out]) HM5.out.one ?_
        intro w6 h6 k6
        refine hK.out _ _ ?_
        clear hK K
        (try simp only [Act.put, List.setIfInBounds_toArray, List.set_cons_zero, List.set_cons_succ])
        refine wpAnyT_done (by kernel_rfl) ?_ _
        have hro := (HKS.out _ HW.out).1
        replace HR := Lib.hid ((HW.out.block _ (Array.getElem?_eq_some_iff.1 HR.out).1).trans HR.out)
        replace HXA := Lib.hid ((HW.out.block _ (Array.getElem?_eq_some_iff.1 HXA.out).1).trans HXA.out)
        replace HYR := Lib.hid ((HW.out.block _ (Array.getElem?_eq_some_iff.1 HYR.out).1).trans HYR.out)
        replace HB := Lib.hid (HB.out.trans (HW.out.mono HB.out.size))
        replace HR := Lib.hid (k6.other HR.out (by omega))
        replace HXA := Lib.hid (k6.other HXA.out (by omega))
        replace HYR := Lib.hid (k6.other HYR.out (by omega))
        replace HB := Lib.hid (HB.out.trans (k6.below (by omega)))
        have HO6 : Hid (RB w6 (insE D ky xy) (w.heap.size + 3)) := RB.wrote h6 k6 hro HM5.out
        clear HKS HW hHeld hro h6 k6 HM5 HZ5 HST
        go_wp2_with fail
        go_roundw
        case rel => exact ⟨j + 1, by simp, by have := HLT.out; omega, HXA, by rw [← HEA.out]; exact HO6, HR, HYR, HB⟩
        case measure => have := HLT.out; simp [intOf]; omega
      · have HEA := Lib.hid (HOFF.out (by simp [hp]))
        have t1 : (is_ == t) = false := by simp [hp]
        clear hp
        go_wp2_with fail
        go_roundw
        case rel => exact ⟨j + 1, by simp, by have := HLT.out; omega, HXA, by rw [HEA.out]; exact HO, HR, HYR, HB⟩
        case measure => have := HLT.out; simp [intOf]; omega
    · obtain rfl : j = N := by omega
      rw [HNL.out.1, List.take_length] at HO
      obtain ⟨co, hXo, hmo⟩ := HO.out
      have HXO := Lib.hid hXo
      have HMO := Lib.hid hmo
      have HZO := Lib.hid hmo.size
      clear hXo hmo
      go_wp2_with (first
        | (refine ld_if (by rfl) 40 _ rfl (w.heap.size + 3) rfl 40 co _ _ HXO.out Tryd.underlying40 rfl (by rw [HZO.out]; exact refm_size) ?_)
        | (refine st_agg rfl 40 _ _ rfl (w.heap.size + 1 + 1) co rfl rfl 40 refZ HR.out (by rw [HZO.out]; exact refm_size) (by rw [HZO.out]; rfl) HMO.out.one ?_; intro w4 h4 k4))
      exact bodyPost_ret (results_cell_row rfl _ _ (w.heap.size + 1 + 1) 40 _ (0, 0) _ rfl h4 Tryd.underlying40 rfl (by rw [HZO.out]; exact refm_size)) rfl ⟨co, rfl, HMO.out.but k4 HR.out (by decide) (by decide), HB.out.trans (k4.below (by omega))⟩
theorem pick_meet (B : List Ent) : pickP B true = hasE B := by
  funext e
  unfold pickP
  cases hasE B e <;> rfl
set_option maxHeartbeats 4000000 in
theorem rf_Meet (w : World) (ca cb : Array Value) (A B : List Ent) (ha : RefM w ca A) (hb : RefM w cb B) (hA : Rise A) (hB : Rise B) (hSA : Short A) (hSB : Short B) (hn : A.length ≤ 40000) (hm : B.length ≤ 40000) :
    Calls Tryd.prog 28 #[.agg ca, .agg cb] w fun r w' => ∃ c', r = .returned (.agg c') ∧ RefM w' c' (A.filter (hasE B)) ∧ Below w.heap.size w w' := by
  obtain ⟨w0, hw0⟩ : ∃ w0, ((w.alloc (.cells ca 40)).alloc (.cells cb 40)).alloc (.cells refZ 40) = w0 := ⟨_, rfl⟩
  obtain ⟨hb0, hx, hy, hz, hs0⟩ := three_newG hw0
  have HPK := Lib.hid (rf_pick w0 ca cb A B true (ha.later hb0) (hb.later hb0) hA hB hSA hSB hn hm)
  rw [pick_meet] at HPK
  have HXA := Lib.hid hx
  have HXB := Lib.hid hy
  have HR : Hid (w0.heap[w.heap.size + 1 + 1]? = some (.cells refZ 40 (0, 0))) := hz
  have HB := Lib.hid hb0
  have HZA := Lib.hid ha.size
  have HZB := Lib.hid hb.size
  clear ha hb hA hB hn hm hSA hSB hb0 hx hy hz hs0
  go_enter Tryd.func28, Tryd.ntmps28
  go_upto_region 1 with fail
  clear hw0
  go_wp2_with (first
    | (refine ld_if (by rfl) 40 _ rfl w.heap.size rfl 40 ca _ _ HXA.out Tryd.underlying40 rfl (by rw [HZA.out]; exact refm_size) ?_)
    | (refine ld_if (by rfl) 40 _ rfl (w.heap.size + 1) rfl 40 cb _ _ HXB.out Tryd.underlying40 rfl (by rw [HZB.out]; exact refm_size) ?_)
    | (go_at_call 60; (with_reducible refine HPK.out.mono ?_); rintro r w2 ⟨c2, rfl, hm2, hb⟩; replace HR := Lib.hid ((hb.block _ (Array.getElem?_eq_some_iff.1 HR.out).1).trans HR.out); replace HB := Lib.hid (HB.out.trans (hb.mono HB.out.size)); have HM2 := Lib.hid hm2; have HZ2 := Lib.hid hm2.size; clear hm2 hb)
    | (refine st_agg rfl 40 _ _ rfl (w.heap.size + 1 + 1) c2 rfl rfl 40 refZ HR.out (by rw [HZ2.out]; exact refm_size) (by rw [HZ2.out]; rfl) HM2.out.one ?_; intro w4 h4 k4))
  exact bodyPost_ret (results_cell_row rfl _ _ (w.heap.size + 1 + 1) 40 _ (0, 0) _ rfl h4 Tryd.underlying40 rfl (by rw [HZ2.out]; exact refm_size)) rfl ⟨c2, rfl, HM2.out.but k4 HR.out (by decide) (by decide), HB.out.trans (k4.below (by omega))⟩
theorem pick_less (B : List Ent) : pickP B false = (fun e => !hasE B e) := by
  funext e
  unfold pickP
  cases hasE B e <;> rfl
set_option maxHeartbeats 4000000 in
theorem rf_Less (w : World) (ca cb : Array Value) (A B : List Ent) (ha : RefM w ca A) (hb : RefM w cb B) (hA : Rise A) (hB : Rise B) (hSA : Short A) (hSB : Short B) (hn : A.length ≤ 40000) (hm : B.length ≤ 40000) :
    Calls Tryd.prog 30 #[.agg ca, .agg cb] w fun r w' => ∃ c', r = .returned (.agg c') ∧ RefM w' c' (A.filter (fun e => !hasE B e)) ∧ Below w.heap.size w w' := by
  obtain ⟨w0, hw0⟩ : ∃ w0, ((w.alloc (.cells ca 40)).alloc (.cells cb 40)).alloc (.cells refZ 40) = w0 := ⟨_, rfl⟩
  obtain ⟨hb0, hx, hy, hz, hs0⟩ := three_newG hw0
  have HPK := Lib.hid (rf_pick w0 ca cb A B false (ha.later hb0) (hb.later hb0) hA hB hSA hSB hn hm)
  rw [pick_less] at HPK
  have HXA := Lib.hid hx
  have HXB := Lib.hid hy
  have HR : Hid (w0.heap[w.heap.size + 1 + 1]? = some (.cells refZ 40 (0, 0))) := hz
  have HB := Lib.hid hb0
  have HZA := Lib.hid ha.size
  have HZB := Lib.hid hb.size
  clear ha hb hA hB hn hm hSA hSB hb0 hx hy hz hs0
  go_enter Tryd.func30, Tryd.ntmps30
  go_upto_region 1 with fail
  clear hw0
  go_wp2_with (first
    | (refine ld_if (by rfl) 40 _ rfl w.heap.size rfl 40 ca _ _ HXA.out Tryd.underlying40 rfl (by rw [HZA.out]; exact refm_size) ?_)
    | (refine ld_if (by rfl) 40 _ rfl (w.heap.size + 1) rfl 40 cb _ _ HXB.out Tryd.underlying40 rfl (by rw [HZB.out]; exact refm_size) ?_)
    | (go_at_call 60; (with_reducible refine HPK.out.mono ?_); rintro r w2 ⟨c2, rfl, hm2, hb⟩; replace HR := Lib.hid ((hb.block _ (Array.getElem?_eq_some_iff.1 HR.out).1).trans HR.out); replace HB := Lib.hid (HB.out.trans (hb.mono HB.out.size)); have HM2 := Lib.hid hm2; have HZ2 := Lib.hid hm2.size; clear hm2 hb)
    | (refine st_agg rfl 40 _ _ rfl (w.heap.size + 1 + 1) c2 rfl rfl 40 refZ HR.out (by rw [HZ2.out]; exact refm_size) (by rw [HZ2.out]; rfl) HM2.out.one ?_; intro w4 h4 k4))
  exact bodyPost_ret (results_cell_row rfl _ _ (w.heap.size + 1 + 1) 40 _ (0, 0) _ rfl h4 Tryd.underlying40 rfl (by rw [HZ2.out]; exact refm_size)) rfl ⟨c2, rfl, HM2.out.but k4 HR.out (by decide) (by decide), HB.out.trans (k4.below (by omega))⟩
set_option maxHeartbeats 8000000 in
theorem rf_Between (w : World) (ca : Array Value) (A : List Ent) (lo hi : ByteArray) (ha : RefM w ca A) (hA : Rise A) (hSA : Short A) (hn : A.length ≤ 40000) :
    Calls Tryd.prog 32 #[.agg ca, .string lo, .string hi] w fun r w' => ∃ c', r = .returned (.agg c') ∧ RefM w' c' (A.filter (betE lo hi)) ∧ Below w.heap.size w w' := by
  obtain ⟨kv, xv, rfl, hk, hx⟩ := ha
  have HLS := Lib.hid hk
  have HLI := Lib.hid hx
  obtain ⟨a1, c1, rfl, _⟩ := hk.shape
  obtain ⟨a2, c2, rfl, _⟩ := hx.shape
  rw [keysE_len, valsE_len] at *
  obtain ⟨N, hN⟩ : ∃ N, N = A.length := ⟨_, rfl⟩
  rw [← hN] at HLS HLI ⊢
  have hN4 : (N : Int) ≤ 40000 := by omega
  have HNL : Hid (N = A.length ∧ N ≤ 40000) := ⟨hN, by omega⟩
  obtain ⟨w0, hw0⟩ : ∃ w0, ((w.alloc (.cells #[.slice a1 N c1, .slice a2 N c2] 40)).alloc (.cells refZ 40)).alloc (.cells refZ 40) = w0 := ⟨_, rfl⟩
  obtain ⟨hb0, hx0, hy0, hz0, hs0⟩ := three_newG hw0
  have HXA := Lib.hid hx0
  have HR := Lib.hid hy0
  have HB := Lib.hid hb0
  have HO : Hid (RB w0 ((A.take 0).filter (betE lo hi)) (w.heap.size + 1 + 1)) := ⟨refZ, hz0, RefM.zero _⟩
  have HSA := Lib.hid hSA
  have HRA := Lib.hid hA
  clear hA hSA hn hk hx hN hb0 hx0 hy0 hz0 hs0
  go_enter Tryd.func32, Tryd.ntmps32
  go_upto_region 2 with fail
  try rw [hw0]
  have hx0c : w0.cell? ⟨w.heap.size, 0, none⟩ = some (.slice a1 N c1) := cell_in HXA.out rfl
  go_wp2_with fail
  clear hw0 hx0c
  go_loopw [13] (fun i wl => ∃ j : Nat, i = .int .i64 (j : Int) ∧ j ≤ N ∧ Hid (wl.heap[w.heap.size]? = some (.cells #[.slice a1 N c1, .slice a2 N c2] 40 (0, 0))) ∧ Hid (RB wl ((A.take j).filter (betE lo hi)) (w.heap.size + 1 + 1)) ∧ Hid (wl.heap[w.heap.size + 1]? = some (.cells refZ 40 (0, 0))) ∧ Hid (Below w.heap.size w wl)) (fun i _ => N - (intOf i).toNat)
  case atStart => exact ⟨0, rfl, Nat.zero_le _, HXA, HO, HR, HB⟩
  case round =>
    clear HXA HO HR HB
    obtain ⟨j, rfl, hj, HXA, HO, HR, HB⟩ := hrel
    by_cases hlt : j < N
    · have hlt' : (j : Int) < (N : Int) := by omega
      have i0 : (0 : Int) ≤ (j : Int) := by omega
      have hjL : j < A.length := by rw [← HNL.out.1]; exact hlt
      obtain ⟨g1, g2, rfl, rfl, hc1, hc2⟩ := refm_at (HLS.out.later HB.out) (HLI.out.later HB.out) hjL
      have hsz := HSA.out _ (List.getElem_mem hjL)
      have HLT := Lib.hid hlt
      have HC2 := Lib.hid hc2
      have hon := fun h => keep_on (p := betE lo hi) HRA.out hjL h
      have hoff := fun h => keep_off (p := betE lo hi) hjL h
      have hpd : betE lo hi A[j] = (decide (¬ kb A[j].1 < kb lo) && decide (kb A[j].1 < kb hi)) := rfl
      rw [hpd] at hon hoff
      have HRD := Lib.hid ((rise_takeL HRA.out j).filter (betE lo hi))
      have HSD := Lib.hid (short_filter (short_take HSA.out j) (betE lo hi))
      have HLD : Hid (((A.take j).filter (betE lo hi)).length ≤ 100000) := by show _ ≤ _; have h := List.length_filter_le (betE lo hi) (A.take j); rw [List.length_take] at h; have := HNL.out; omega
      obtain ⟨D, hD⟩ : ∃ D, D = (A.take j).filter (betE lo hi) := ⟨_, rfl⟩
      obtain ⟨⟨ky, xy⟩, hky⟩ : ∃ e, e = A[j] := ⟨_, rfl⟩
      rw [← hD] at hon hoff HO HRD HSD HLD
      rw [← hky] at hon hoff hc1 HC2 hsz
      simp only at hon hoff hc1 hsz
      have HO1 := Lib.hid (fun w => ref_Order ky lo w (by unfold maxLen; omega))
      have HO2 := Lib.hid (fun w => ref_Order ky hi w (by unfold maxLen; omega))
      have e1 : decide (¬ kb ky < kb lo) = decide (0 ≤ orderS ky.data.toList lo.data.toList) := decide_eq_decide.2 (by have h := order_lt ky lo; unfold kb at h ⊢; rw [← h]; omega)
      have e2 : decide (kb ky < kb hi) = decide (orderS ky.data.toList hi.data.toList < 0) := decide_eq_decide.2 (by have h := order_lt ky hi; unfold kb at h ⊢; rw [← h])
      rw [e1, e2] at hon hoff
      obtain ⟨p, hp⟩ : ∃ p, p = orderS ky.data.toList lo.data.toList := ⟨_, rfl⟩
      obtain ⟨q, hq⟩ : ∃ q, q = orderS ky.data.toList hi.data.toList := ⟨_, rfl⟩
      rw [← hp] at HO1 hon hoff
      rw [← hq] at HO2 hon hoff
      have HON := Lib.hid hon
      have HOFF := Lib.hid hoff
      clear hpd hky hD hc2 hjL hlt hon hoff e1 e2 hp hq hsz
      by_cases hp : 0 ≤ p
      · by_cases hq : q < 0
        · have HEA := Lib.hid (HON.out (by simp [hp, hq]))
          go_upto_region 6 with (first
            | (go_at_call 53; (with_reducible refine (HO1.out _).mono ?_); rintro r wq ⟨rfl, hd⟩; have hb := drawn_to hd; replace HXA := Lib.hid ((hb.block _ (Array.getElem?_eq_some_iff.1 HXA.out).1).trans HXA.out); replace HO := Lib.hid (HO.out.later hb); replace HR := Lib.hid ((hb.block _ (Array.getElem?_eq_some_iff.1 HR.out).1).trans HR.out); replace HB := Lib.hid (HB.out.trans (hb.mono HB.out.size)); have HCQ := Lib.hid ((hb.cell (World.block_lt_of_cell? _ _ HC2.out)).trans HC2.out); replace HC2 := HCQ; clear HCQ hd hb)
            | (go_at_call 53; (with_reducible refine (HO2.out _).mono ?_); rintro r wq ⟨rfl, hd⟩; have hb := drawn_to hd; replace HXA := Lib.hid ((hb.block _ (Array.getElem?_eq_some_iff.1 HXA.out).1).trans HXA.out); replace HO := Lib.hid (HO.out.later hb); replace HR := Lib.hid ((hb.block _ (Array.getElem?_eq_some_iff.1 HR.out).1).trans HR.out); replace HB := Lib.hid (HB.out.trans (hb.mono HB.out.size)); have HCQ := Lib.hid ((hb.cell (World.block_lt_of_cell? _ _ HC2.out)).trans HC2.out); replace HC2 := HCQ; clear HCQ hd hb))
          clear hp hq
          obtain ⟨co, hXo, hmo⟩ := HO.out
          have HXO := Lib.hid hXo
          have HZO := Lib.hid hmo.size
          have HST := Lib.hid (fun W (hb : Below wq.heap.size wq W) => ref_Set9 W co D ky xy (hmo.later hb) HRD.out HSD.out HLD.out)
          clear hXo hmo
          have HKS : Hid (∀ V, Below wq.heap.size wq V → V.heap[(w.heap.size + 1 + 1)]? = some (.cells co 40 (0, 0)) ∧ V.cell? ⟨w.heap.size, 1, none⟩ = some (.slice (some ⟨g2, 0, none⟩) N c2) ∧ V.cell? ⟨g2, j, none⟩ = some (.int .i64 xy)) := fun V hV => ⟨(hV.block _ (Array.getElem?_eq_some_iff.1 HXO.out).1).trans HXO.out, cell_in ((hV.block _ (Array.getElem?_eq_some_iff.1 HXA.out).1).trans HXA.out) rfl, (hV.cell (World.block_lt_of_cell? wq _ HC2.out)).trans HC2.out⟩
          have HW : Hid (Below wq.heap.size wq wq.drew) := drawn_below wq
          refine wp_region_T (S := (fun V => V.heap[(w.heap.size + 1 + 1)]? = some (.cells co 40 (0, 0)) ∧ V.cell? ⟨w.heap.size, 1, none⟩ = some (.slice (some ⟨g2, 0, none⟩) N c2) ∧ V.cell? ⟨g2, j, none⟩ = some (.int .i64 xy))) [8] (by kernel_rfl) (by exact HKS.out _ HW.out) (fun hHeld => ?_)
          refine wpAnyT_take (i := 0) (oi := ⟨some 28, _, _, _, _, _⟩) (v := _) rfl (by kernel_rfl) (by kernel_rfl) (by kernel_rfl) (by kernel_rfl) (fun _ _ _ h => h) (yieldsIf_load_row (by rfl) 40 _ rfl (w.heap.size + 1 + 1) rfl co 40 (0, 0) _ (fun w hw => hw.1) Tryd.underlying40 rfl (by rw [HZO.out]; exact refm_size)) (by assumption) ?_
          (try simp only [Act.put, List.setIfInBounds_toArray, List.set_cons_zero, List.set_cons_succ])
          refine wpAnyT_take (i := 1) (oi := ⟨some 29, _, _, _, _, _⟩) (v := ?vg2_1) rfl (by kernel_rfl) (by kernel_rfl) (by kernel_rfl) (by kernel_rfl) (fun _ _ _ h => h) (Or.inl ⟨by rfl, ?hg2_1⟩) (by assumption) ?rg2_1
          case hg2_1 => (intro w hSw; (try dsimp only at hSw); first | (go_simp; done) | (go_simp; with_reducible rfl))
          (try simp only [Act.put, List.setIfInBounds_toArray, List.set_cons_zero, List.set_cons_succ])
          refine wpAnyT_take (i := 2) (oi := ⟨some 30, _, _, _, _, _⟩) (v := ?vg2_2) rfl (by kernel_rfl) (by kernel_rfl) (by kernel_rfl) (by kernel_rfl) (fun _ _ _ h => h) (Or.inl ⟨by rfl, ?hg2_2⟩) (by assumption) ?rg2_2
          case hg2_2 => (intro w hSw; (try dsimp only at hSw); first | (go_simp; done) | (go_simp; with_reducible rfl))
          (try simp only [Act.put, List.setIfInBounds_toArray, List.set_cons_zero, List.set_cons_succ])
          refine wpAnyT_take (i := 3) (oi := ⟨some 31, _, _, _, _, _⟩) (v := ?vg2_3) rfl (by kernel_rfl) (by kernel_rfl) (by kernel_rfl) (by kernel_rfl) (fun _ _ _ h => h) (Or.inl ⟨by rfl, ?hg2_3⟩) (by assumption) ?rg2_3
          case hg2_3 => (intro w hSw; (try dsimp only at hSw); first | (go_simp; done) | (go_simp; with_reducible rfl))
          (try simp only [Act.put, List.setIfInBounds_toArray, List.set_cons_zero, List.set_cons_succ])
          refine wpAnyT_take (i := 4) (oi := ⟨some 32, _, _, _, _, _⟩) (v := ?vg2_4) rfl (by kernel_rfl) (by kernel_rfl) (by kernel_rfl) (by kernel_rfl) (fun _ _ _ h => h) (Or.inl ⟨by rfl, ?hg2_4⟩) (by assumption) ?rg2_4
          case hg2_4 => (intro w hSw; (try dsimp only at hSw); first | (go_simp; done) | (go_simp; with_reducible rfl))
          (try simp only [Act.put, List.setIfInBounds_toArray, List.set_cons_zero, List.set_cons_succ])
          refine wpAnyT_take (i := 5) (oi := ⟨some 33, _, _, _, _, _⟩) (v := ?vg2_5) rfl (by kernel_rfl) (by kernel_rfl) (by kernel_rfl) (by kernel_rfl) (fun _ _ _ h => h) (Or.inl ⟨by rfl, ?hg2_5⟩) (by assumption) ?rg2_5
          case hg2_5 => (intro w hSw; (try dsimp only at hSw); first | (go_simp; done) | (go_simp; with_reducible rfl))
          (try simp only [Act.put, List.setIfInBounds_toArray, List.set_cons_zero, List.set_cons_succ])
          refine wpAnyT_take (i := 6) (oi := ⟨some 34, _, _, _, _, _⟩) (v := ?vg2_6) rfl (by kernel_rfl) (by kernel_rfl) (by kernel_rfl) (by kernel_rfl) (fun _ _ _ h => h) (Or.inl ⟨by rfl, ?hg2_6⟩) (by assumption) ?rg2_6
          case hg2_6 => (intro w hSw; (try dsimp only at hSw); first | (go_simp; done) | (go_simp; with_reducible rfl))
          (try simp only [Act.put, List.setIfInBounds_toArray, List.set_cons_zero, List.set_cons_succ])
          refine wpAnyT_one (i := 7) (o := ⟨some 35, _, _, _, _, _⟩) (by kernel_rfl) rfl (fun K hK => ?_)
          go_simp
          go_at_call 50
          (with_reducible refine (HST.out _ (by exact HW.out)).mono ?_)
          rintro r w5 ⟨c5, rfl, hm5, hb⟩
          have HM5 := Lib.hid hm5
          have HZ5 := Lib.hid hm5.size
          replace HW := Lib.hid (HW.out.trans (hb.mono HW.out.size))
          clear hm5 hb
          dsimp only
          refine hK.out _ _ (by exact HKS.out _ HW.out) (fun hHeld => ?_)
          clear hK K
          (try simp only [Act.put, List.setIfInBounds_toArray, List.set_cons_zero, List.set_cons_succ])
          refine wpAnyT_last (i := 8) (o := ⟨none, _, _, _, _, _⟩) (by kernel_rfl) (by decide) rfl (fun K hK => ?_)
          rw [if_pos (by rfl)]
          refine st_agg_wp 40 _ _ rfl (w.heap.size + 1 + 1) c5 rfl rfl 40 _ (HKS.out _ HW.out).1 (by rw [HZ5.out]; exact refm_size) (by rw [HZO.out, HZ5.out]) HM5.out.one ?_
          intro w6 h6 k6
          refine hK.out _ _ ?_
          clear hK K
          (try simp only [Act.put, List.setIfInBounds_toArray, List.set_cons_zero, List.set_cons_succ])
          refine wpAnyT_done (by kernel_rfl) ?_ _
          have hro := (HKS.out _ HW.out).1
          replace HR := Lib.hid ((HW.out.block _ (Array.getElem?_eq_some_iff.1 HR.out).1).trans HR.out)
          replace HXA := Lib.hid ((HW.out.block _ (Array.getElem?_eq_some_iff.1 HXA.out).1).trans HXA.out)
          replace HB := Lib.hid (HB.out.trans (HW.out.mono HB.out.size))
          replace HR := Lib.hid (k6.other HR.out (by omega))
          replace HXA := Lib.hid (k6.other HXA.out (by omega))
          replace HB := Lib.hid (HB.out.trans (k6.below (by omega)))
          have HO6 : Hid (RB w6 (insE D ky xy) (w.heap.size + 1 + 1)) := RB.wrote h6 k6 hro HM5.out
          clear HKS HW hHeld hro h6 k6 HM5 HZ5 HST
          go_wp2_with fail
          go_roundw
          case rel => exact ⟨j + 1, by simp, by have := HLT.out; omega, HXA, by rw [← HEA.out]; exact HO6, HR, HB⟩
          case measure => have := HLT.out; simp [intOf]; omega
        · have HEA := Lib.hid (HOFF.out (by simp [hq]))
          go_wp2_with (first
            | (go_at_call 53; (with_reducible refine (HO1.out _).mono ?_); rintro r wq ⟨rfl, hd⟩; have hb := drawn_to hd; replace HXA := Lib.hid ((hb.block _ (Array.getElem?_eq_some_iff.1 HXA.out).1).trans HXA.out); replace HO := Lib.hid (HO.out.later hb); replace HR := Lib.hid ((hb.block _ (Array.getElem?_eq_some_iff.1 HR.out).1).trans HR.out); replace HB := Lib.hid (HB.out.trans (hb.mono HB.out.size)); have HCQ := Lib.hid ((hb.cell (World.block_lt_of_cell? _ _ HC2.out)).trans HC2.out); replace HC2 := HCQ; clear HCQ hd hb)
            | (go_at_call 53; (with_reducible refine (HO2.out _).mono ?_); rintro r wq ⟨rfl, hd⟩; have hb := drawn_to hd; replace HXA := Lib.hid ((hb.block _ (Array.getElem?_eq_some_iff.1 HXA.out).1).trans HXA.out); replace HO := Lib.hid (HO.out.later hb); replace HR := Lib.hid ((hb.block _ (Array.getElem?_eq_some_iff.1 HR.out).1).trans HR.out); replace HB := Lib.hid (HB.out.trans (hb.mono HB.out.size)); have HCQ := Lib.hid ((hb.cell (World.block_lt_of_cell? _ _ HC2.out)).trans HC2.out); replace HC2 := HCQ; clear HCQ hd hb))
          go_roundw
          case rel => exact ⟨j + 1, by simp, by have := HLT.out; omega, HXA, by rw [HEA.out]; exact HO, HR, HB⟩
          case measure => have := HLT.out; simp [intOf]; omega
      · have HEA := Lib.hid (HOFF.out (by simp [hp]))
        go_wp2_with (first
          | (go_at_call 53; (with_reducible refine (HO1.out _).mono ?_); rintro r wq ⟨rfl, hd⟩; have hb := drawn_to hd; replace HXA := Lib.hid ((hb.block _ (Array.getElem?_eq_some_iff.1 HXA.out).1).trans HXA.out); replace HO := Lib.hid (HO.out.later hb); replace HR := Lib.hid ((hb.block _ (Array.getElem?_eq_some_iff.1 HR.out).1).trans HR.out); replace HB := Lib.hid (HB.out.trans (hb.mono HB.out.size)); have HCQ := Lib.hid ((hb.cell (World.block_lt_of_cell? _ _ HC2.out)).trans HC2.out); replace HC2 := HCQ; clear HCQ hd hb))
        go_roundw
        case rel => exact ⟨j + 1, by simp, by have := HLT.out; omega, HXA, by rw [HEA.out]; exact HO, HR, HB⟩
        case measure => have := HLT.out; simp [intOf]; omega
    · obtain rfl : j = N := by omega
      rw [HNL.out.1, List.take_length] at HO
      obtain ⟨co, hXo, hmo⟩ := HO.out
      have HXO := Lib.hid hXo
      have HMO := Lib.hid hmo
      have HZO := Lib.hid hmo.size
      clear hXo hmo
      go_wp2_with (first
        | (refine ld_if (by rfl) 40 _ rfl (w.heap.size + 1 + 1) rfl 40 co _ _ HXO.out Tryd.underlying40 rfl (by rw [HZO.out]; exact refm_size) ?_)
        | (refine st_agg rfl 40 _ _ rfl (w.heap.size + 1) co rfl rfl 40 refZ HR.out (by rw [HZO.out]; exact refm_size) (by rw [HZO.out]; rfl) HMO.out.one ?_; intro w4 h4 k4))
      exact bodyPost_ret (results_cell_row rfl _ _ (w.heap.size + 1) 40 _ (0, 0) _ rfl h4 Tryd.underlying40 rfl (by rw [HZO.out]; exact refm_size)) rfl ⟨co, rfl, HMO.out.but k4 HR.out (by decide) (by decide), HB.out.trans (k4.below (by omega))⟩
set_option maxHeartbeats 8000000 in
theorem rf_Union (w : World) (ca cb : Array Value) (A B : List Ent) (ha : RefM w ca A) (hb : RefM w cb B) (hB : Rise B) (hSA : Short A) (hSB : Short B) (hn : A.length ≤ 40000) (hm : B.length ≤ 40000) :
    Calls Tryd.prog 26 #[.agg ca, .agg cb] w fun r w' => ∃ c', r = .returned (.agg c') ∧ RefM w' c' (uniE A B) ∧ Below w.heap.size w w' := by
  obtain ⟨kv, xv, rfl, hk, hx⟩ := ha
  have HLS := Lib.hid hk
  have HLI := Lib.hid hx
  obtain ⟨a1, c1, rfl, _⟩ := hk.shape
  obtain ⟨a2, c2, rfl, _⟩ := hx.shape
  rw [keysE_len, valsE_len] at *
  obtain ⟨N, hN⟩ : ∃ N, N = A.length := ⟨_, rfl⟩
  rw [← hN] at HLS HLI ⊢
  have hN4 : (N : Int) ≤ 40000 := by omega
  have HNL : Hid (N = A.length ∧ N ≤ 40000 ∧ B.length ≤ 40000) := ⟨hN, by omega, hm⟩
  obtain ⟨w0, hw0⟩ : ∃ w0, ((w.alloc (.cells #[.slice a1 N c1, .slice a2 N c2] 40)).alloc (.cells cb 40)).alloc (.cells refZ 40) = w0 := ⟨_, rfl⟩
  obtain ⟨hb0, hx0, hy0, hz0, hs0⟩ := three_newG hw0
  have HXA := Lib.hid hx0
  have HR : Hid (w0.heap[w.heap.size + 1 + 1]? = some (.cells refZ 40 (0, 0))) := hz0
  have HB := Lib.hid hb0
  have HO : Hid (RB w0 (uniE (A.take 0) B) (w.heap.size + 1)) := ⟨cb, hy0, hb.later hb0⟩
  have HSA := Lib.hid hSA
  have HSB := Lib.hid hSB
  have HRB := Lib.hid hB
  clear hb hB hSA hSB hn hm hk hx hN hb0 hx0 hy0 hz0 hs0
  go_enter Tryd.func26, Tryd.ntmps26
  go_upto_region 1 with fail
  try rw [hw0]
  have hx0c : w0.cell? ⟨w.heap.size, 0, none⟩ = some (.slice a1 N c1) := cell_in HXA.out rfl
  go_wp2_with fail
  clear hw0 hx0c
  go_loopw [10] (fun i wl => ∃ j : Nat, i = .int .i64 (j : Int) ∧ j ≤ N ∧ Hid (wl.heap[w.heap.size]? = some (.cells #[.slice a1 N c1, .slice a2 N c2] 40 (0, 0))) ∧ Hid (RB wl (uniE (A.take j) B) (w.heap.size + 1)) ∧ Hid (wl.heap[w.heap.size + 1 + 1]? = some (.cells refZ 40 (0, 0))) ∧ Hid (Below w.heap.size w wl)) (fun i _ => N - (intOf i).toNat)
  case atStart => exact ⟨0, rfl, Nat.zero_le _, HXA, HO, HR, HB⟩
  case round =>
    clear HXA HO HR HB
    obtain ⟨j, rfl, hj, HXA, HO, HR, HB⟩ := hrel
    obtain ⟨wq, hwq⟩ : ∃ wq, wq = wr := ⟨_, rfl⟩
    subst hwq
    by_cases hlt : j < N
    · have hlt' : (j : Int) < (N : Int) := by omega
      have i0 : (0 : Int) ≤ (j : Int) := by omega
      have hjL : j < A.length := by rw [← HNL.out.1]; exact hlt
      obtain ⟨g1, g2, rfl, rfl, hc1, hc2⟩ := refm_at (HLS.out.later HB.out) (HLI.out.later HB.out) hjL
      have HLT := Lib.hid hlt
      have HC2 := Lib.hid hc2
      have HEA := Lib.hid (uni_take hjL B).symm
      have HRD := Lib.hid (uni_rise HRB.out (A.take j))
      have HSD := Lib.hid (short_uni (short_take HSA.out j) HSB.out)
      have HLD : Hid ((uniE (A.take j) B).length ≤ 100000) := by show _ ≤ _; have h := uni_len HRB.out (A.take j); rw [List.length_take] at h; have := HNL.out; omega
      obtain ⟨D, hD⟩ : ∃ D, D = uniE (A.take j) B := ⟨_, rfl⟩
      obtain ⟨⟨ky, xy⟩, hky⟩ : ∃ e, e = A[j] := ⟨_, rfl⟩
      rw [← hD] at HEA HO HRD HSD HLD
      rw [← hky] at HEA hc1 HC2
      simp only at hc1
      clear hky hD hc2 hjL hlt
      obtain ⟨co, hXo, hmo⟩ := HO.out
      have HXO := Lib.hid hXo
      have HZO := Lib.hid hmo.size
      have HST := Lib.hid (fun W (hb : Below wq.heap.size wq W) => ref_Set9 W co D ky xy (hmo.later hb) HRD.out HSD.out HLD.out)
      clear hXo hmo
      go_upto_region 4 with fail
      have HKS : Hid (∀ V, Below wq.heap.size wq V → V.heap[(w.heap.size + 1)]? = some (.cells co 40 (0, 0)) ∧ V.cell? ⟨w.heap.size, 1, none⟩ = some (.slice (some ⟨g2, 0, none⟩) N c2) ∧ V.cell? ⟨g2, j, none⟩ = some (.int .i64 xy)) := fun V hV => ⟨(hV.block _ (Array.getElem?_eq_some_iff.1 HXO.out).1).trans HXO.out, cell_in ((hV.block _ (Array.getElem?_eq_some_iff.1 HXA.out).1).trans HXA.out) rfl, (hV.cell (World.block_lt_of_cell? wq _ HC2.out)).trans HC2.out⟩
      have HW : Hid (Below wq.heap.size wq wq.drew) := drawn_below wq
      refine wp_region_T (S := (fun V => V.heap[(w.heap.size + 1)]? = some (.cells co 40 (0, 0)) ∧ V.cell? ⟨w.heap.size, 1, none⟩ = some (.slice (some ⟨g2, 0, none⟩) N c2) ∧ V.cell? ⟨g2, j, none⟩ = some (.int .i64 xy))) [8] (by kernel_rfl) (by exact HKS.out _ HW.out) (fun hHeld => ?_)
      refine wpAnyT_take (i := 0) (oi := ⟨some 15, _, _, _, _, _⟩) (v := _) rfl (by kernel_rfl) (by kernel_rfl) (by kernel_rfl) (by kernel_rfl) (fun _ _ _ h => h) (yieldsIf_load_row (by rfl) 40 _ rfl (w.heap.size + 1) rfl co 40 (0, 0) _ (fun w hw => hw.1) Tryd.underlying40 rfl (by rw [HZO.out]; exact refm_size)) (by assumption) ?_
      (try simp only [Act.put, List.setIfInBounds_toArray, List.set_cons_zero, List.set_cons_succ])
      refine wpAnyT_take (i := 1) (oi := ⟨some 16, _, _, _, _, _⟩) (v := ?vg3_1) rfl (by kernel_rfl) (by kernel_rfl) (by kernel_rfl) (by kernel_rfl) (fun _ _ _ h => h) (Or.inl ⟨by rfl, ?hg3_1⟩) (by assumption) ?rg3_1
      case hg3_1 => (intro w hSw; (try dsimp only at hSw); first | (go_simp; done) | (go_simp; with_reducible rfl))
      (try simp only [Act.put, List.setIfInBounds_toArray, List.set_cons_zero, List.set_cons_succ])
      refine wpAnyT_take (i := 2) (oi := ⟨some 17, _, _, _, _, _⟩) (v := ?vg3_2) rfl (by kernel_rfl) (by kernel_rfl) (by kernel_rfl) (by kernel_rfl) (fun _ _ _ h => h) (Or.inl ⟨by rfl, ?hg3_2⟩) (by assumption) ?rg3_2
      case hg3_2 => (intro w hSw; (try dsimp only at hSw); first | (go_simp; done) | (go_simp; with_reducible rfl))
      (try simp only [Act.put, List.setIfInBounds_toArray, List.set_cons_zero, List.set_cons_succ])
      refine wpAnyT_take (i := 3) (oi := ⟨some 18, _, _, _, _, _⟩) (v := ?vg3_3) rfl (by kernel_rfl) (by kernel_rfl) (by kernel_rfl) (by kernel_rfl) (fun _ _ _ h => h) (Or.inl ⟨by rfl, ?hg3_3⟩) (by assumption) ?rg3_3
      case hg3_3 => (intro w hSw; (try dsimp only at hSw); first | (go_simp; done) | (go_simp; with_reducible rfl))
      (try simp only [Act.put, List.setIfInBounds_toArray, List.set_cons_zero, List.set_cons_succ])
      refine wpAnyT_take (i := 4) (oi := ⟨some 19, _, _, _, _, _⟩) (v := ?vg3_4) rfl (by kernel_rfl) (by kernel_rfl) (by kernel_rfl) (by kernel_rfl) (fun _ _ _ h => h) (Or.inl ⟨by rfl, ?hg3_4⟩) (by assumption) ?rg3_4
      case hg3_4 => (intro w hSw; (try dsimp only at hSw); first | (go_simp; done) | (go_simp; with_reducible rfl))
      (try simp only [Act.put, List.setIfInBounds_toArray, List.set_cons_zero, List.set_cons_succ])
      refine wpAnyT_take (i := 5) (oi := ⟨some 20, _, _, _, _, _⟩) (v := ?vg3_5) rfl (by kernel_rfl) (by kernel_rfl) (by kernel_rfl) (by kernel_rfl) (fun _ _ _ h => h) (Or.inl ⟨by rfl, ?hg3_5⟩) (by assumption) ?rg3_5
      case hg3_5 => (intro w hSw; (try dsimp only at hSw); first | (go_simp; done) | (go_simp; with_reducible rfl))
      (try simp only [Act.put, List.setIfInBounds_toArray, List.set_cons_zero, List.set_cons_succ])
      refine wpAnyT_take (i := 6) (oi := ⟨some 21, _, _, _, _, _⟩) (v := ?vg3_6) rfl (by kernel_rfl) (by kernel_rfl) (by kernel_rfl) (by kernel_rfl) (fun _ _ _ h => h) (Or.inl ⟨by rfl, ?hg3_6⟩) (by assumption) ?rg3_6
      case hg3_6 => (intro w hSw; (try dsimp only at hSw); first | (go_simp; done) | (go_simp; with_reducible rfl))
      (try simp only [Act.put, List.setIfInBounds_toArray, List.set_cons_zero, List.set_cons_succ])
      refine wpAnyT_one (i := 7) (o := ⟨some 22, _, _, _, _, _⟩) (by kernel_rfl) rfl (fun K hK => ?_)
      go_simp
      go_at_call 50
      (with_reducible refine (HST.out _ (by exact HW.out)).mono ?_)
      rintro r w5 ⟨c5, rfl, hm5, hb⟩
      have HM5 := Lib.hid hm5
      have HZ5 := Lib.hid hm5.size
      replace HW := Lib.hid (HW.out.trans (hb.mono HW.out.size))
      clear hm5 hb
      dsimp only
      refine hK.out _ _ (by exact HKS.out _ HW.out) (fun hHeld => ?_)
      clear hK K
      (try simp only [Act.put, List.setIfInBounds_toArray, List.set_cons_zero, List.set_cons_succ])
      refine wpAnyT_last (i := 8) (o := ⟨none, _, _, _, _, _⟩) (by kernel_rfl) (by decide) rfl (fun K hK => ?_)
      rw [if_pos (by rfl)]
      refine st_agg_wp 40 _ _ rfl (w.heap.size + 1) c5 rfl rfl 40 _ (HKS.out _ HW.out).1 (by rw [HZ5.out]; exact refm_size) (by rw [HZO.out, HZ5.out]) HM5.out.one ?_
      intro w6 h6 k6
      refine hK.out _ _ ?_
      clear hK K
      (try simp only [Act.put, List.setIfInBounds_toArray, List.set_cons_zero, List.set_cons_succ])
      refine wpAnyT_done (by kernel_rfl) ?_ _
      have hro := (HKS.out _ HW.out).1
      replace HR := Lib.hid ((HW.out.block _ (Array.getElem?_eq_some_iff.1 HR.out).1).trans HR.out)
      replace HXA := Lib.hid ((HW.out.block _ (Array.getElem?_eq_some_iff.1 HXA.out).1).trans HXA.out)
      replace HB := Lib.hid (HB.out.trans (HW.out.mono HB.out.size))
      replace HR := Lib.hid (k6.other HR.out (by omega))
      replace HXA := Lib.hid (k6.other HXA.out (by omega))
      replace HB := Lib.hid (HB.out.trans (k6.below (by omega)))
      have HO6 : Hid (RB w6 (insE D ky xy) (w.heap.size + 1)) := RB.wrote h6 k6 hro HM5.out
      clear HKS HW hHeld hro h6 k6 HM5 HZ5 HST
      go_wp2_with fail
      go_roundw
      case rel => exact ⟨j + 1, by simp, by have := HLT.out; omega, HXA, by rw [← HEA.out]; exact HO6, HR, HB⟩
      case measure => have := HLT.out; simp [intOf]; omega
    · obtain rfl : j = N := by omega
      rw [HNL.out.1, List.take_length] at HO
      obtain ⟨co, hXo, hmo⟩ := HO.out
      have HXO := Lib.hid hXo
      have HMO := Lib.hid hmo
      have HZO := Lib.hid hmo.size
      clear hXo hmo
      go_wp2_with (first
        | (refine ld_if (by rfl) 40 _ rfl (w.heap.size + 1) rfl 40 co _ _ HXO.out Tryd.underlying40 rfl (by rw [HZO.out]; exact refm_size) ?_)
        | (refine st_agg rfl 40 _ _ rfl (w.heap.size + 1 + 1) co rfl rfl 40 refZ HR.out (by rw [HZO.out]; exact refm_size) (by rw [HZO.out]; rfl) HMO.out.one ?_; intro w4 h4 k4))
      exact bodyPost_ret (results_cell_row rfl _ _ (w.heap.size + 1 + 1) 40 _ (0, 0) _ rfl h4 Tryd.underlying40 rfl (by rw [HZO.out]; exact refm_size)) rfl ⟨co, rfl, HMO.out.but k4 HR.out (by decide) (by decide), HB.out.trans (k4.below (by omega))⟩
end Go.Proofs.YtnnlfgfgfegjkaaDoor
