/- Layer 10's law DictChanges. (written by tools/gen10/changes.py) -/
import Derived.Test.YtnnlfgfgfegjkaaDoorLaw10B
namespace Go.Proofs.YtnnlfgfgfegjkaaDoor
open Go.RowKit
set_option maxRecDepth 1000000
set_option linter.unusedSimpArgs false

set_option maxHeartbeats 8000000 in
theorem dictChanges_of (s : Nat) (n : Int) (s2 : Nat) (n2 : Int) (va va2 : Value) (l l2 : List Ent) (b : Int) (w : World) (hss : s < 18446744073709551616) (hss2 : s2 < 18446744073709551616) (hl : Prs w va l) (hl2 : Prs w va2 l2) (hT : Tab6 w) :
    Calls Tryd.prog 6 #[.agg #[.int .u64 (s : Int), .int .i64 n], .agg #[.int .u64 (s2 : Int), .int .i64 n2], va, va2, .int .i64 b] w fun e w' => e = .returned (.bool true) ∧ Below w.heap.size w w' := by
  have HTB := Lib.hid (fun W (h : Below w.heap.size w W) => hT.below h)
  have HFEW := Lib.hid (fun W (h : Below w.heap.size w W) => few10 va l W (hl.later h))
  have HFEW2 := Lib.hid (fun W (h : Below w.heap.size w W) => few10 va2 l2 W (hl2.later h))
  obtain ⟨w0, hw0⟩ : ∃ w0, ((w.alloc (.cells #[.int .u64 (s : Int), .int .i64 n] 24)).alloc (.cells #[.int .u64 (s2 : Int), .int .i64 n2] 24)).alloc (.cells #[.int .i64 b] 3) = w0 := ⟨_, rfl⟩
  obtain ⟨hb0, hx0, hy0, hz0, hs0⟩ := three_newG hw0
  have HC := Lib.hid hx0
  have HC2 := Lib.hid hy0
  have HY0 : Hid (w0.heap[w.heap.size + 1 + 1]? = some (.cells #[.int .i64 b] 3 (0, 0))) := hz0
  have HB := Lib.hid hb0
  clear hT hb0 hx0 hy0 hz0 hs0
  by_cases hf1 : few10B l = true
  case neg =>
    rw [show few10B l = false by simpa using hf1] at HFEW
    clear hl hl2
    go_enter Tryd.func6, Tryd.ntmps6
    go_upto_region 1 with fail
    clear hw0
    go_wp2_with (first
      | (go_at_call 11; (with_reducible refine (live10 _ (HTB.out _ HB.out)).mono ?_); rintro e w1 ⟨rfl, hb⟩; replace HC := Lib.hid ((hb.block _ (Array.getElem?_eq_some_iff.1 HC.out).1).trans HC.out); replace HC2 := Lib.hid ((hb.block _ (Array.getElem?_eq_some_iff.1 HC2.out).1).trans HC2.out); replace HY0 := Lib.hid ((hb.block _ (Array.getElem?_eq_some_iff.1 HY0.out).1).trans HY0.out); replace HB := Lib.hid (HB.out.trans (hb.mono HB.out.size)); clear hb)
      | (go_at_call 12; (with_reducible refine (HFEW.out _ HB.out).mono ?_); rintro e w1 ⟨rfl, hb⟩; replace HC := Lib.hid ((hb.block _ (Array.getElem?_eq_some_iff.1 HC.out).1).trans HC.out); replace HC2 := Lib.hid ((hb.block _ (Array.getElem?_eq_some_iff.1 HC2.out).1).trans HC2.out); replace HY0 := Lib.hid ((hb.block _ (Array.getElem?_eq_some_iff.1 HY0.out).1).trans HY0.out); replace HB := Lib.hid (HB.out.trans (hb.mono HB.out.size)); clear hb)
      | (go_at_call 12; (with_reducible refine (HFEW2.out _ HB.out).mono ?_); rintro e w1 ⟨rfl, hb⟩; replace HC := Lib.hid ((hb.block _ (Array.getElem?_eq_some_iff.1 HC.out).1).trans HC.out); replace HC2 := Lib.hid ((hb.block _ (Array.getElem?_eq_some_iff.1 HC2.out).1).trans HC2.out); replace HY0 := Lib.hid ((hb.block _ (Array.getElem?_eq_some_iff.1 HY0.out).1).trans HY0.out); replace HB := Lib.hid (HB.out.trans (hb.mono HB.out.size)); clear hb))
    go_ret
    exact ⟨rfl, HB.out⟩
  have HF := Lib.hid (few10_prs hf1)
  rw [hf1] at HFEW
  clear hf1
  by_cases hf2 : few10B l2 = true
  case neg =>
    rw [show few10B l2 = false by simpa using hf2] at HFEW2
    clear hl hl2
    go_enter Tryd.func6, Tryd.ntmps6
    go_upto_region 1 with fail
    clear hw0
    go_wp2_with (first
      | (go_at_call 11; (with_reducible refine (live10 _ (HTB.out _ HB.out)).mono ?_); rintro e w1 ⟨rfl, hb⟩; replace HC := Lib.hid ((hb.block _ (Array.getElem?_eq_some_iff.1 HC.out).1).trans HC.out); replace HC2 := Lib.hid ((hb.block _ (Array.getElem?_eq_some_iff.1 HC2.out).1).trans HC2.out); replace HY0 := Lib.hid ((hb.block _ (Array.getElem?_eq_some_iff.1 HY0.out).1).trans HY0.out); replace HB := Lib.hid (HB.out.trans (hb.mono HB.out.size)); clear hb)
      | (go_at_call 12; (with_reducible refine (HFEW.out _ HB.out).mono ?_); rintro e w1 ⟨rfl, hb⟩; replace HC := Lib.hid ((hb.block _ (Array.getElem?_eq_some_iff.1 HC.out).1).trans HC.out); replace HC2 := Lib.hid ((hb.block _ (Array.getElem?_eq_some_iff.1 HC2.out).1).trans HC2.out); replace HY0 := Lib.hid ((hb.block _ (Array.getElem?_eq_some_iff.1 HY0.out).1).trans HY0.out); replace HB := Lib.hid (HB.out.trans (hb.mono HB.out.size)); clear hb)
      | (go_at_call 12; (with_reducible refine (HFEW2.out _ HB.out).mono ?_); rintro e w1 ⟨rfl, hb⟩; replace HC := Lib.hid ((hb.block _ (Array.getElem?_eq_some_iff.1 HC.out).1).trans HC.out); replace HC2 := Lib.hid ((hb.block _ (Array.getElem?_eq_some_iff.1 HC2.out).1).trans HC2.out); replace HY0 := Lib.hid ((hb.block _ (Array.getElem?_eq_some_iff.1 HY0.out).1).trans HY0.out); replace HB := Lib.hid (HB.out.trans (hb.mono HB.out.size)); clear hb))
    go_ret
    exact ⟨rfl, HB.out⟩
  have HF2 := Lib.hid (few10_prs hf2)
  rw [hf2] at HFEW2
  clear hf2
  have HMD := Lib.hid (fun W (h : Below w.heap.size w W) => made10 W s hss n va l (hl.later h) HF.out.1 (by have := HF.out.2; omega) (HTB.out _ h))
  have HMD2 := Lib.hid (fun W (h : Below w.heap.size w W) => made10 W s2 hss2 n2 va2 l2 (hl2.later h) HF2.out.1 (by have := HF2.out.2; omega) (HTB.out _ h))
  clear hl hl2
  go_enter Tryd.func6, Tryd.ntmps6
  go_upto_region 1 with fail
  clear hw0
  go_upto_region 4 with (first
    | (go_at_call 11; (with_reducible refine (live10 _ (HTB.out _ HB.out)).mono ?_); rintro e w1 ⟨rfl, hb⟩; replace HC := Lib.hid ((hb.block _ (Array.getElem?_eq_some_iff.1 HC.out).1).trans HC.out); replace HC2 := Lib.hid ((hb.block _ (Array.getElem?_eq_some_iff.1 HC2.out).1).trans HC2.out); replace HY0 := Lib.hid ((hb.block _ (Array.getElem?_eq_some_iff.1 HY0.out).1).trans HY0.out); replace HB := Lib.hid (HB.out.trans (hb.mono HB.out.size)); clear hb)
    | (go_at_call 12; (with_reducible refine (HFEW.out _ HB.out).mono ?_); rintro e w1 ⟨rfl, hb⟩; replace HC := Lib.hid ((hb.block _ (Array.getElem?_eq_some_iff.1 HC.out).1).trans HC.out); replace HC2 := Lib.hid ((hb.block _ (Array.getElem?_eq_some_iff.1 HC2.out).1).trans HC2.out); replace HY0 := Lib.hid ((hb.block _ (Array.getElem?_eq_some_iff.1 HY0.out).1).trans HY0.out); replace HB := Lib.hid (HB.out.trans (hb.mono HB.out.size)); clear hb)
    | (go_at_call 12; (with_reducible refine (HFEW2.out _ HB.out).mono ?_); rintro e w1 ⟨rfl, hb⟩; replace HC := Lib.hid ((hb.block _ (Array.getElem?_eq_some_iff.1 HC.out).1).trans HC.out); replace HC2 := Lib.hid ((hb.block _ (Array.getElem?_eq_some_iff.1 HC2.out).1).trans HC2.out); replace HY0 := Lib.hid ((hb.block _ (Array.getElem?_eq_some_iff.1 HY0.out).1).trans HY0.out); replace HB := Lib.hid (HB.out.trans (hb.mono HB.out.size)); clear hb)
    | (refine ld_if (by rfl) 24 _ rfl w.heap.size rfl 24 _ _ _ HC.out Tryd.underlying24 rfl (by exact api_size) ?_)
    | (go_at_call 13; (with_reducible refine (HMD.out _ HB.out).mono ?_); rintro e wm ⟨cm, cw, rfl, hm, hw, hb⟩; replace HC := Lib.hid ((hb.block _ (Array.getElem?_eq_some_iff.1 HC.out).1).trans HC.out); replace HC2 := Lib.hid ((hb.block _ (Array.getElem?_eq_some_iff.1 HC2.out).1).trans HC2.out); replace HY0 := Lib.hid ((hb.block _ (Array.getElem?_eq_some_iff.1 HY0.out).1).trans HY0.out); replace HB := Lib.hid (HB.out.trans (hb.mono HB.out.size)); have HMA := Lib.hid hm; have HWA := Lib.hid hw; have HZM := Lib.hid hm.size; have HZW := Lib.hid hw.size; have HLW : Hid (w.heap.size + 3 ≤ wm.heap.size) := (by show _ ≤ _; have h0 := (Array.getElem?_eq_some_iff.1 HY0.out).1; omega); clear hm hw hb)
    | (refine st_agg rfl 36 _ _ rfl wm.heap.size cm rfl rfl 36 mapZ (two_newG rfl).2.1 (by rw [HZM.out]; exact map_size) (by rw [HZM.out]; rfl) HMA.out.one ?_; intro w4 h4 k4; have hb4 : Below wm.heap.size wm w4 := (two_newG rfl).1.trans (k4.below (Nat.le_refl _)); have HY : Hid (w4.heap[wm.heap.size + 1]? = some (.cells refZ 40 (0, 0))) := k4.other (two_newG rfl).2.2.1 (by omega); replace HC := Lib.hid ((hb4.block _ (Array.getElem?_eq_some_iff.1 HC.out).1).trans HC.out); replace HC2 := Lib.hid ((hb4.block _ (Array.getElem?_eq_some_iff.1 HC2.out).1).trans HC2.out); replace HY0 := Lib.hid ((hb4.block _ (Array.getElem?_eq_some_iff.1 HY0.out).1).trans HY0.out); replace HB := Lib.hid (HB.out.trans (hb4.mono HB.out.size)); have HM : Hid (MB w4 s n (uniE l []) wm.heap.size) := ⟨cm, h4, HMA.out.later hb4⟩; replace HWA := Lib.hid (HWA.out.later hb4); clear h4 k4 hb4)
    | (refine st_agg rfl 40 _ _ rfl (wm.heap.size + 1) cw rfl rfl 40 refZ HY.out (by rw [HZW.out]; exact refm_size) (by rw [HZW.out]; rfl) HWA.out.one ?_; intro w5 h5 k5; have hlw : w.heap.size + 3 ≤ wm.heap.size := HLW.out; replace HC := Lib.hid (k5.other HC.out (by omega)); replace HC2 := Lib.hid (k5.other HC2.out (by omega)); replace HY0 := Lib.hid (k5.other HY0.out (by omega)); replace HM := Lib.hid (HM.out.only k5 HY.out (by omega) (by decide)); replace HB := Lib.hid (HB.out.trans (k5.below (by omega))); have HN : Hid (RB w5 (uniE l []) (wm.heap.size + 1)) := RB.wrote h5 k5 HY.out HWA.out; clear h5 k5 hlw))
  go_upto_region 5 with (first
    | (refine ld_if (by rfl) 24 _ rfl (w.heap.size + 1) rfl 24 _ _ _ HC2.out Tryd.underlying24 rfl (by exact api_size) ?_)
    | (go_at_call 13; (with_reducible refine (HMD2.out _ HB.out).mono ?_); rintro e wm2 ⟨cm2, cw2, rfl, hm, hw, hb⟩; replace HC := Lib.hid ((hb.block _ (Array.getElem?_eq_some_iff.1 HC.out).1).trans HC.out); replace HC2 := Lib.hid ((hb.block _ (Array.getElem?_eq_some_iff.1 HC2.out).1).trans HC2.out); replace HY0 := Lib.hid ((hb.block _ (Array.getElem?_eq_some_iff.1 HY0.out).1).trans HY0.out); replace HM := Lib.hid (HM.out.later hb); replace HN := Lib.hid (HN.out.later hb); replace HB := Lib.hid (HB.out.trans (hb.mono HB.out.size)); have HMA2 := Lib.hid hm; have HWA2 := Lib.hid hw; have HZM2 := Lib.hid hm.size; have HZW2 := Lib.hid hw.size; have HLW2 : Hid (w.heap.size + 3 ≤ wm2.heap.size ∧ wm.heap.size + 1 < wm2.heap.size ∧ w.heap.size + 3 ≤ wm.heap.size) := (by show _ ∧ _ ∧ _; have h0 := (Array.getElem?_eq_some_iff.1 HY0.out).1; have h1 := HN.out.lt; have h2 := HLW.out; omega); clear hm hw hb)
    | (refine st_agg rfl 36 _ _ rfl wm2.heap.size cm2 rfl rfl 36 mapZ (two_newG rfl).2.1 (by rw [HZM2.out]; exact map_size) (by rw [HZM2.out]; rfl) HMA2.out.one ?_; intro w4 h4 k4; have hb4 : Below wm2.heap.size wm2 w4 := (two_newG rfl).1.trans (k4.below (Nat.le_refl _)); have HY2 : Hid (w4.heap[wm2.heap.size + 1]? = some (.cells refZ 40 (0, 0))) := k4.other (two_newG rfl).2.2.1 (by omega); replace HC := Lib.hid ((hb4.block _ (Array.getElem?_eq_some_iff.1 HC.out).1).trans HC.out); replace HC2 := Lib.hid ((hb4.block _ (Array.getElem?_eq_some_iff.1 HC2.out).1).trans HC2.out); replace HY0 := Lib.hid ((hb4.block _ (Array.getElem?_eq_some_iff.1 HY0.out).1).trans HY0.out); replace HM := Lib.hid (HM.out.later hb4); replace HN := Lib.hid (HN.out.later hb4); replace HB := Lib.hid (HB.out.trans (hb4.mono HB.out.size)); have HM2 : Hid (MB w4 s2 n2 (uniE l2 []) wm2.heap.size) := ⟨cm2, h4, HMA2.out.later hb4⟩; replace HWA2 := Lib.hid (HWA2.out.later hb4); clear h4 k4 hb4)
    | (refine st_agg rfl 40 _ _ rfl (wm2.heap.size + 1) cw2 rfl rfl 40 refZ HY2.out (by rw [HZW2.out]; exact refm_size) (by rw [HZW2.out]; rfl) HWA2.out.one ?_; intro w52 h5 k5; have hlw : w.heap.size + 3 ≤ wm2.heap.size ∧ wm.heap.size + 1 < wm2.heap.size ∧ w.heap.size + 3 ≤ wm.heap.size := HLW2.out; replace HC := Lib.hid (k5.other HC.out (by omega)); replace HC2 := Lib.hid (k5.other HC2.out (by omega)); replace HY0 := Lib.hid (k5.other HY0.out (by omega)); replace HM := Lib.hid (HM.out.only k5 HY2.out (by omega) (by decide)); replace HN := Lib.hid (HN.out.only k5 HY2.out (by omega) (by decide) (by decide)); replace HM2 := Lib.hid (HM2.out.only k5 HY2.out (by omega) (by decide)); replace HB := Lib.hid (HB.out.trans (k5.below (by omega))); have HN2 : Hid (RB w52 (uniE l2 []) (wm2.heap.size + 1)) := RB.wrote h5 k5 HY2.out HWA2.out; clear h5 k5 hlw))
  obtain ⟨cm, hxm, hmm⟩ := HM.out
  obtain ⟨cn, hxn, hmn⟩ := HN.out
  have HXM := Lib.hid hxm
  have HXN := Lib.hid hxn
  have HML := Lib.hid hmm
  have HRL := Lib.hid hmn
  have HZM := Lib.hid hmm.size
  have HZN := Lib.hid hmn.size
  clear hxm hxn hmm hmn HM HN
  obtain ⟨cm2, hxm, hmm⟩ := HM2.out
  obtain ⟨cn2, hxn, hmn⟩ := HN2.out
  have HXM2 := Lib.hid hxm
  have HXN2 := Lib.hid hxn
  have HML2 := Lib.hid hmm
  have HRL2 := Lib.hid hmn
  have HZM2 := Lib.hid hmm.size
  have HZN2 := Lib.hid hmn.size
  clear hxm hxn hmm hmn HM2 HN2
  have HRI : Hid (Rise (uniE l []) ∧ Rise (uniE l2 [])) := ⟨uni_rise Rise.nil l, uni_rise Rise.nil l2⟩
  have HSH : Hid (Short (uniE l []) ∧ Short (uniE l2 [])) := ⟨short_uni (A := l) (fun e he => HF.out.1 e he) short_nil, short_uni (A := l2) (fun e he => HF2.out.1 e he) short_nil⟩
  have HLN : Hid ((uniE l []).length ≤ 80 ∧ (uniE l2 []).length ≤ 80) := by
    show _ ∧ _
    have h := uni_len Rise.nil l
    have h2 := uni_len Rise.nil l2
    rw [List.length_nil] at h h2
    have := HF.out.2
    have := HF2.out.2
    omega
  obtain ⟨A, hA⟩ : ∃ D, D = uniE l [] := ⟨_, rfl⟩
  obtain ⟨B, hB⟩ : ∃ D, D = uniE l2 [] := ⟨_, rfl⟩
  rw [← hA] at HML HRL HRI HSH HLN
  rw [← hB] at HML2 HRL2 HRI HSH HLN
  clear hA hB HC HC2
  have hdl := dif_len (alikeI b) (A := A) HRI.out.2
  have HCHG := Lib.hid (dc_Changes w52 s hss n A cm s2 hss2 n2 B cm2 HML.out HML2.out HRI.out.1 HRI.out.2 (by have := HLN.out; omega) (by have := HLN.out; omega) (fun e he => by have := HSH.out.1 e he; omega) (fun e he => by have := HSH.out.2 e he; omega) (HTB.out _ HB.out)
    (alikeI b) 34 #[.pointer (some ⟨w.heap.size + 1 + 1, 0, none⟩)] (enters_of Tryd.func34 (by kernel_rfl) rfl) (fun W hW x y => lw_by x y b (w.heap.size + 1 + 1) W (cell_in ((hW.block _ (Array.getElem?_eq_some_iff.1 HY0.out).1).trans HY0.out) rfl)))
  have HRC := Lib.hid (fun W (hb : Below w52.heap.size w52 W) => rf_Changes W cn cn2 A B b (HRL.out.later hb) (HRL2.out.later hb) HRI.out.1 HRI.out.2 HSH.out.1 HSH.out.2 (by have := HLN.out; omega))
  obtain ⟨D, hD⟩ : ∃ D, D = difE (alikeI b) A B := ⟨_, rfl⟩
  rw [← hD] at HCHG HRC hdl
  have HDL : Hid (D.length ≤ 160) := by show _ ≤ _; have := HLN.out; omega
  clear hD hdl HML HML2 HRL HRL2 HRI HSH HLN
  go_wp2_with (first
    | (refine ld_if (by rfl) 36 _ rfl wm.heap.size rfl 36 cm _ _ HXM.out Tryd.underlying36 rfl (by rw [HZM.out]; exact map_size) ?_)
    | (refine ld_if (by rfl) 36 _ rfl wm2.heap.size rfl 36 cm2 _ _ HXM2.out Tryd.underlying36 rfl (by rw [HZM2.out]; exact map_size) ?_)
    | (go_at_call 33; (with_reducible refine HCHG.out.mono ?_); rintro e wq ⟨v, rfl, hv, hb⟩; replace HXN := Lib.hid ((hb.block _ (Array.getElem?_eq_some_iff.1 HXN.out).1).trans HXN.out); replace HXN2 := Lib.hid ((hb.block _ (Array.getElem?_eq_some_iff.1 HXN2.out).1).trans HXN2.out); replace HY0 := Lib.hid ((hb.block _ (Array.getElem?_eq_some_iff.1 HY0.out).1).trans HY0.out); have HVD := Lib.hid hv.chl; have HBQ := Lib.hid hb; clear hv hb))
  replace HRC := Lib.hid (fun W (hb : Below wq.heap.size wq W) => HRC.out W (HBQ.out.trans (hb.mono HBQ.out.size)))
  have HKS : Hid (∀ V, Below wq.heap.size wq V → V.heap[(wm.heap.size + 1)]? = some (.cells cn 40 (0, 0)) ∧ V.heap[(wm2.heap.size + 1)]? = some (.cells cn2 40 (0, 0)) ∧ V.cell? ⟨w.heap.size + 1 + 1, 0, none⟩ = some (.int .i64 b)) := fun V hV => ⟨(hV.block _ (Array.getElem?_eq_some_iff.1 HXN.out).1).trans HXN.out, (hV.block _ (Array.getElem?_eq_some_iff.1 HXN2.out).1).trans HXN2.out, cell_in ((hV.block _ (Array.getElem?_eq_some_iff.1 HY0.out).1).trans HY0.out) rfl⟩
  have HW : Hid (Below wq.heap.size wq wq.drew) := drawn_below wq
  refine wp_region_T (S := (fun V => V.heap[(wm.heap.size + 1)]? = some (.cells cn 40 (0, 0)) ∧ V.heap[(wm2.heap.size + 1)]? = some (.cells cn2 40 (0, 0)) ∧ V.cell? ⟨w.heap.size + 1 + 1, 0, none⟩ = some (.int .i64 b))) [] (by kernel_rfl) (by exact HKS.out _ HW.out) (fun hHeld => ?_)
  refine wpAnyT_take (i := 0) (oi := ⟨some 45, _, _, _, _, _⟩) (v := ?vg1_0) rfl (by kernel_rfl) (by kernel_rfl) (by kernel_rfl) (by kernel_rfl) (fun _ _ _ h => h) (Or.inl ⟨by rfl, ?hg1_0⟩) (by assumption) ?rg1_0
  case hg1_0 => (intro w hSw; (try dsimp only at hSw); first | (go_simp; done) | (go_simp; with_reducible rfl))
  (try simp only [Act.put, List.setIfInBounds_toArray, List.set_cons_zero, List.set_cons_succ])
  refine wpAnyT_take (i := 2) (oi := ⟨some 47, _, _, _, _, _⟩) (v := _) rfl (by kernel_rfl) (by kernel_rfl) (by kernel_rfl) (by kernel_rfl) (fun _ _ _ h => h) (yieldsIf_load_row (by rfl) 40 _ rfl (wm.heap.size + 1) rfl cn 40 (0, 0) _ (fun w hw => hw.1) Tryd.underlying40 rfl (by rw [HZN.out]; exact refm_size)) (by assumption) ?_
  (try simp only [Act.put, List.setIfInBounds_toArray, List.set_cons_zero, List.set_cons_succ])
  refine wpAnyT_take (i := 3) (oi := ⟨some 48, _, _, _, _, _⟩) (v := _) rfl (by kernel_rfl) (by kernel_rfl) (by kernel_rfl) (by kernel_rfl) (fun _ _ _ h => h) (yieldsIf_load_row (by rfl) 40 _ rfl (wm2.heap.size + 1) rfl cn2 40 (0, 0) _ (fun w hw => hw.2.1) Tryd.underlying40 rfl (by rw [HZN2.out]; exact refm_size)) (by assumption) ?_
  (try simp only [Act.put, List.setIfInBounds_toArray, List.set_cons_zero, List.set_cons_succ])
  refine wpAnyT_take (i := 4) (oi := ⟨some 49, _, _, _, _, _⟩) (v := ?vg1_4) rfl (by kernel_rfl) (by kernel_rfl) (by kernel_rfl) (by kernel_rfl) (fun _ _ _ h => h) (Or.inl ⟨by rfl, ?hg1_4⟩) (by assumption) ?rg1_4
  case hg1_4 => (intro w hSw; (try dsimp only at hSw); first | (go_simp; done) | (go_simp; with_reducible rfl))
  (try simp only [Act.put, List.setIfInBounds_toArray, List.set_cons_zero, List.set_cons_succ])
  refine wpAnyT_one (i := 1) (o := ⟨some 46, _, _, _, _, _⟩) (by kernel_rfl) rfl (fun K hK => ?_)
  go_simp
  go_at_call 37
  (with_reducible refine (pl_plain _ v D (HVD.out.later HW.out) (by have := HDL.out; omega)).mono ?_)
  rintro r w3 ⟨vp, rfl, hv, hb⟩
  have HVp := Lib.hid hv.chl
  replace HW := Lib.hid (HW.out.trans (hb.mono HW.out.size))
  clear hb
  clear hv
  dsimp only
  refine hK.out _ _ (by exact HKS.out _ HW.out) (fun hHeld => ?_)
  clear hK K
  (try simp only [Act.put, List.setIfInBounds_toArray, List.set_cons_zero, List.set_cons_succ])
  refine wpAnyT_one (i := 5) (o := ⟨some 50, _, _, _, _, _⟩) (by kernel_rfl) rfl (fun K hK => ?_)
  go_simp
  go_at_call 38
  (with_reducible refine (HRC.out _ HW.out).mono ?_)
  rintro r w3 ⟨vr, rfl, hv, hb⟩
  have HVr := Lib.hid hv.chl
  replace HVp := Lib.hid (HVp.out.later hb)
  replace HW := Lib.hid (HW.out.trans (hb.mono HW.out.size))
  clear hb
  clear hv
  dsimp only
  refine hK.out _ _ (by exact HKS.out _ HW.out) (fun hHeld => ?_)
  clear hK K
  (try simp only [Act.put, List.setIfInBounds_toArray, List.set_cons_zero, List.set_cons_succ])
  refine wpAnyT_one (i := 6) (o := ⟨some 51, _, _, _, _, _⟩) (by kernel_rfl) rfl (fun K hK => ?_)
  go_simp
  go_at_call 36
  (with_reducible refine (rf_Same _ vp vr D (by have h := HVp.out; rwa [List.map_id] at h) HVr.out (by have := HDL.out; omega)).mono ?_)
  rintro r w3 ⟨rfl, hb⟩
  replace HW := Lib.hid (HW.out.trans (hb.mono HW.out.size))
  clear hb
  dsimp only
  refine hK.out _ _ (by exact HKS.out _ HW.out) (fun hHeld => ?_)
  clear hK K
  (try simp only [Act.put, List.setIfInBounds_toArray, List.set_cons_zero, List.set_cons_succ])
  refine wpAnyT_take (i := 7) (oi := ⟨some 52, _, _, _, _, _⟩) (v := ?vg1_7) rfl (by kernel_rfl) (by kernel_rfl) (by kernel_rfl) (by kernel_rfl) (fun _ _ _ h => h) (Or.inl ⟨by rfl, ?hg1_7⟩) (by assumption) ?rg1_7
  case hg1_7 => (intro w hSw; (try dsimp only at hSw); first | (go_simp; done) | (go_simp; with_reducible rfl))
  (try simp only [Act.put, List.setIfInBounds_toArray, List.set_cons_zero, List.set_cons_succ])
  refine wpAnyT_take (i := 8) (oi := ⟨some 53, _, _, _, _, _⟩) (v := ?vg1_8) rfl (by kernel_rfl) (by kernel_rfl) (by kernel_rfl) (by kernel_rfl) (fun _ _ _ h => h) (Or.inl ⟨by rfl, ?hg1_8⟩) (by assumption) ?rg1_8
  case hg1_8 => (intro w hSw; (try dsimp only at hSw); first | (go_simp; done) | (go_simp; with_reducible rfl))
  (try simp only [Act.put, List.setIfInBounds_toArray, List.set_cons_zero, List.set_cons_succ])
  refine wpAnyT_take (i := 11) (oi := ⟨some 56, _, _, _, _, _⟩) (v := _) rfl (by kernel_rfl) (by kernel_rfl) (by kernel_rfl) (by kernel_rfl) (fun _ _ _ h => h) (yieldsIf_load_row (by rfl) 40 _ rfl (wm.heap.size + 1) rfl cn 40 (0, 0) _ (fun w hw => hw.1) Tryd.underlying40 rfl (by rw [HZN.out]; exact refm_size)) (by assumption) ?_
  (try simp only [Act.put, List.setIfInBounds_toArray, List.set_cons_zero, List.set_cons_succ])
  refine wpAnyT_take (i := 12) (oi := ⟨some 57, _, _, _, _, _⟩) (v := _) rfl (by kernel_rfl) (by kernel_rfl) (by kernel_rfl) (by kernel_rfl) (fun _ _ _ h => h) (yieldsIf_load_row (by rfl) 40 _ rfl (wm2.heap.size + 1) rfl cn2 40 (0, 0) _ (fun w hw => hw.2.1) Tryd.underlying40 rfl (by rw [HZN2.out]; exact refm_size)) (by assumption) ?_
  (try simp only [Act.put, List.setIfInBounds_toArray, List.set_cons_zero, List.set_cons_succ])
  refine wpAnyT_take (i := 13) (oi := ⟨some 58, _, _, _, _, _⟩) (v := ?vg1_13) rfl (by kernel_rfl) (by kernel_rfl) (by kernel_rfl) (by kernel_rfl) (fun _ _ _ h => h) (Or.inl ⟨by rfl, ?hg1_13⟩) (by assumption) ?rg1_13
  case hg1_13 => (intro w hSw; (try dsimp only at hSw); first | (go_simp; done) | (go_simp; with_reducible rfl))
  (try simp only [Act.put, List.setIfInBounds_toArray, List.set_cons_zero, List.set_cons_succ])
  refine wpAnyT_one (i := 9) (o := ⟨some 54, _, _, _, _, _⟩) (by kernel_rfl) rfl (fun K hK => ?_)
  go_simp
  go_at_call 39
  (with_reducible refine (dc_Turned _ v D (HVD.out.later HW.out) (by have := HDL.out; omega)).mono ?_)
  rintro r w3 ⟨vt, rfl, hv, hb⟩
  have HVt := Lib.hid hv.chl
  replace HW := Lib.hid (HW.out.trans (hb.mono HW.out.size))
  clear hb
  clear hv
  dsimp only
  refine hK.out _ _ (by exact HKS.out _ HW.out) (fun hHeld => ?_)
  clear hK K
  (try simp only [Act.put, List.setIfInBounds_toArray, List.set_cons_zero, List.set_cons_succ])
  refine wpAnyT_one (i := 10) (o := ⟨some 55, _, _, _, _, _⟩) (by kernel_rfl) rfl (fun K hK => ?_)
  go_simp
  go_at_call 37
  (with_reducible refine (pl_plain _ vt (D.map turnC) HVt.out (by have := HDL.out; simp only [List.length_map]; omega)).mono ?_)
  rintro r w3 ⟨vq, rfl, hv, hb⟩
  have HVq := Lib.hid hv.chl
  replace HW := Lib.hid (HW.out.trans (hb.mono HW.out.size))
  clear hb
  clear hv
  dsimp only
  refine hK.out _ _ (by exact HKS.out _ HW.out) (fun hHeld => ?_)
  clear hK K
  (try simp only [Act.put, List.setIfInBounds_toArray, List.set_cons_zero, List.set_cons_succ])
  refine wpAnyT_one (i := 14) (o := ⟨some 59, _, _, _, _, _⟩) (by kernel_rfl) rfl (fun K hK => ?_)
  go_simp
  go_at_call 38
  (with_reducible refine (HRC.out _ HW.out).mono ?_)
  rintro r w3 ⟨vs, rfl, hv, hb⟩
  have HVs := Lib.hid hv.chl
  replace HVq := Lib.hid (HVq.out.later hb)
  replace HW := Lib.hid (HW.out.trans (hb.mono HW.out.size))
  clear hb
  clear hv
  dsimp only
  refine hK.out _ _ (by exact HKS.out _ HW.out) (fun hHeld => ?_)
  clear hK K
  (try simp only [Act.put, List.setIfInBounds_toArray, List.set_cons_zero, List.set_cons_succ])
  refine wpAnyT_one (i := 15) (o := ⟨some 60, _, _, _, _, _⟩) (by kernel_rfl) rfl (fun K hK => ?_)
  go_simp
  go_at_call 40
  (with_reducible refine (rf_Turned _ vs D HVs.out (by have := HDL.out; omega)).mono ?_)
  rintro r w3 ⟨vu, rfl, hv, hb⟩
  have HVu := Lib.hid hv.chl
  replace HVq := Lib.hid (HVq.out.later hb)
  replace HW := Lib.hid (HW.out.trans (hb.mono HW.out.size))
  clear hb
  clear hv
  dsimp only
  refine hK.out _ _ (by exact HKS.out _ HW.out) (fun hHeld => ?_)
  clear hK K
  (try simp only [Act.put, List.setIfInBounds_toArray, List.set_cons_zero, List.set_cons_succ])
  refine wpAnyT_one (i := 16) (o := ⟨some 61, _, _, _, _, _⟩) (by kernel_rfl) rfl (fun K hK => ?_)
  go_simp
  go_at_call 36
  (with_reducible refine (rf_Same _ vq vu (D.map turnC) (by have h := HVq.out; rwa [List.map_id] at h) HVu.out (by have := HDL.out; simp only [List.length_map]; omega)).mono ?_)
  rintro r w3 ⟨rfl, hb⟩
  replace HW := Lib.hid (HW.out.trans (hb.mono HW.out.size))
  clear hb
  dsimp only
  refine hK.out _ _ (by exact HKS.out _ HW.out) (fun hHeld => ?_)
  clear hK K
  (try simp only [Act.put, List.setIfInBounds_toArray, List.set_cons_zero, List.set_cons_succ])
  refine wpAnyT_take (i := 17) (oi := ⟨some 62, _, _, _, _, _⟩) (v := ?vg1_17) rfl (by kernel_rfl) (by kernel_rfl) (by kernel_rfl) (by kernel_rfl) (fun _ _ _ h => h) (Or.inl ⟨by rfl, ?hg1_17⟩) (by assumption) ?rg1_17
  case hg1_17 => (intro w hSw; (try dsimp only at hSw); first | (go_simp; done) | (go_simp; with_reducible rfl))
  (try simp only [Act.put, List.setIfInBounds_toArray, List.set_cons_zero, List.set_cons_succ])
  refine wpAnyT_take (i := 18) (oi := ⟨some 10, _, _, _, _, _⟩) (v := ?vg1_18) rfl (by kernel_rfl) (by kernel_rfl) (by kernel_rfl) (by kernel_rfl) (fun _ _ _ h => h) (Or.inl ⟨by rfl, ?hg1_18⟩) (by assumption) ?rg1_18
  case hg1_18 => (intro w hSw; (try dsimp only at hSw); first | (go_simp; done) | (go_simp; with_reducible rfl))
  (try simp only [Act.put, List.setIfInBounds_toArray, List.set_cons_zero, List.set_cons_succ])
  refine wpAnyT_done (by kernel_rfl) ?_ _
  clear hHeld
  go_wp2_with fail
  go_ret
  exact ⟨rfl, (HB.out.trans (HBQ.out.mono HB.out.size)).trans (HW.out.mono (Nat.le_trans HB.out.size HBQ.out.size))⟩
theorem dictChanges_walk (s : Nat) (n : Int) (s2 : Nat) (n2 : Int) (va : Value) (l : List Ent) (va2 : Value) (l2 : List Ent) (b : Int) (hss : s < 18446744073709551616) (hss2 : s2 < 18446744073709551616) (_ : (Lit.int .i64 b).wf = true) (w : World) (hl : Prs w va l) (hl2 : Prs w va2 l2) (hT : Tab6 w) :
    Calls Tryd.prog 6 #[.agg #[.int .u64 (s : Int), .int .i64 n], .agg #[.int .u64 (s2 : Int), .int .i64 n2], va, va2, .int .i64 b] w fun e w' => e = .returned (.bool true) ∧ Below w.heap.size w w' := dictChanges_of s n s2 n2 va va2 l l2 b w hss hss2 hl hl2 hT
end Go.Proofs.YtnnlfgfgfegjkaaDoor
