/- Layer 10's law DictBack. (written by tools/gen10/back.py) -/
import Derived.Test.YtnnlfgfgfegjkaaDoorLaw10B
namespace Go.Proofs.YtnnlfgfgfegjkaaDoor
open Go.RowKit
set_option maxRecDepth 1000000
set_option linter.unusedSimpArgs false

theorem sameI_eq (x y : Int) (h : sameI x y = true) : x = y := by unfold sameI at h; simpa using h
theorem sameI_comm (x y : Int) : sameI x y = sameI y x := by unfold sameI; exact Bool.beq_comm
theorem sameI_self (x : Int) : sameI x x = true := by simp [sameI]
set_option maxHeartbeats 8000000 in
theorem dictBack_of (s : Nat) (n : Int) (s2 : Nat) (n2 : Int) (va va2 : Value) (l l2 : List Ent) (self : Bool) (w : World) (hss : s < 18446744073709551616) (hss2 : s2 < 18446744073709551616) (hl : Prs w va l) (hl2 : Prs w va2 l2) (hT : Tab6 w) :
    Calls Tryd.prog 8 #[.agg #[.int .u64 (s : Int), .int .i64 n], .agg #[.int .u64 (s2 : Int), .int .i64 n2], va, va2, .bool self] w fun e w' => e = .returned (.bool true) ∧ Below w.heap.size w w' := by
  have HTB := Lib.hid (fun W (h : Below w.heap.size w W) => hT.below h)
  have HFEW := Lib.hid (fun W (h : Below w.heap.size w W) => few10 va l W (hl.later h))
  have HFEW2 := Lib.hid (fun W (h : Below w.heap.size w W) => few10 va2 l2 W (hl2.later h))
  obtain ⟨w0, hw0⟩ : ∃ w0, (w.alloc (.cells #[.int .u64 (s : Int), .int .i64 n] 24)).alloc (.cells #[.int .u64 (s2 : Int), .int .i64 n2] 24) = w0 := ⟨_, rfl⟩
  obtain ⟨hb0, hx0, hy0, hs0⟩ := two_newG hw0
  have HC := Lib.hid hx0
  have HC2 := Lib.hid hy0
  have HB := Lib.hid hb0
  clear hT hb0 hx0 hy0 hs0
  by_cases hf1 : few10B l = true
  case neg =>
    rw [show few10B l = false by simpa using hf1] at HFEW
    clear hl hl2
    go_enter Tryd.func8, Tryd.ntmps8
    go_upto_region 1 with fail
    clear hw0
    go_wp2_with (first
      | (go_at_call 11; (with_reducible refine (live10 _ (HTB.out _ HB.out)).mono ?_); rintro e w1 ⟨rfl, hb⟩; replace HC := Lib.hid ((hb.block _ (Array.getElem?_eq_some_iff.1 HC.out).1).trans HC.out); replace HC2 := Lib.hid ((hb.block _ (Array.getElem?_eq_some_iff.1 HC2.out).1).trans HC2.out); replace HB := Lib.hid (HB.out.trans (hb.mono HB.out.size)); clear hb)
      | (go_at_call 12; (with_reducible refine (HFEW.out _ HB.out).mono ?_); rintro e w1 ⟨rfl, hb⟩; replace HC := Lib.hid ((hb.block _ (Array.getElem?_eq_some_iff.1 HC.out).1).trans HC.out); replace HC2 := Lib.hid ((hb.block _ (Array.getElem?_eq_some_iff.1 HC2.out).1).trans HC2.out); replace HB := Lib.hid (HB.out.trans (hb.mono HB.out.size)); clear hb)
      | (go_at_call 12; (with_reducible refine (HFEW2.out _ HB.out).mono ?_); rintro e w1 ⟨rfl, hb⟩; replace HC := Lib.hid ((hb.block _ (Array.getElem?_eq_some_iff.1 HC.out).1).trans HC.out); replace HC2 := Lib.hid ((hb.block _ (Array.getElem?_eq_some_iff.1 HC2.out).1).trans HC2.out); replace HB := Lib.hid (HB.out.trans (hb.mono HB.out.size)); clear hb))
    go_ret
    exact ⟨rfl, HB.out⟩
  have HF := Lib.hid (few10_prs hf1)
  rw [hf1] at HFEW
  clear hf1
  by_cases hf2 : few10B l2 = true
  case neg =>
    rw [show few10B l2 = false by simpa using hf2] at HFEW2
    clear hl hl2
    go_enter Tryd.func8, Tryd.ntmps8
    go_upto_region 1 with fail
    clear hw0
    go_wp2_with (first
      | (go_at_call 11; (with_reducible refine (live10 _ (HTB.out _ HB.out)).mono ?_); rintro e w1 ⟨rfl, hb⟩; replace HC := Lib.hid ((hb.block _ (Array.getElem?_eq_some_iff.1 HC.out).1).trans HC.out); replace HC2 := Lib.hid ((hb.block _ (Array.getElem?_eq_some_iff.1 HC2.out).1).trans HC2.out); replace HB := Lib.hid (HB.out.trans (hb.mono HB.out.size)); clear hb)
      | (go_at_call 12; (with_reducible refine (HFEW.out _ HB.out).mono ?_); rintro e w1 ⟨rfl, hb⟩; replace HC := Lib.hid ((hb.block _ (Array.getElem?_eq_some_iff.1 HC.out).1).trans HC.out); replace HC2 := Lib.hid ((hb.block _ (Array.getElem?_eq_some_iff.1 HC2.out).1).trans HC2.out); replace HB := Lib.hid (HB.out.trans (hb.mono HB.out.size)); clear hb)
      | (go_at_call 12; (with_reducible refine (HFEW2.out _ HB.out).mono ?_); rintro e w1 ⟨rfl, hb⟩; replace HC := Lib.hid ((hb.block _ (Array.getElem?_eq_some_iff.1 HC.out).1).trans HC.out); replace HC2 := Lib.hid ((hb.block _ (Array.getElem?_eq_some_iff.1 HC2.out).1).trans HC2.out); replace HB := Lib.hid (HB.out.trans (hb.mono HB.out.size)); clear hb))
    go_ret
    exact ⟨rfl, HB.out⟩
  have HF2 := Lib.hid (few10_prs hf2)
  rw [hf2] at HFEW2
  clear hf2
  have HMD := Lib.hid (fun W (h : Below w.heap.size w W) => made10 W s hss n va l (hl.later h) HF.out.1 (by have := HF.out.2; omega) (HTB.out _ h))
  have HMD2 := Lib.hid (fun W (h : Below w.heap.size w W) => made10 W s2 hss2 n2 va2 l2 (hl2.later h) HF2.out.1 (by have := HF2.out.2; omega) (HTB.out _ h))
  clear hl hl2
  go_enter Tryd.func8, Tryd.ntmps8
  go_upto_region 1 with fail
  clear hw0
  go_upto_region 4 with (first
    | (go_at_call 11; (with_reducible refine (live10 _ (HTB.out _ HB.out)).mono ?_); rintro e w1 ⟨rfl, hb⟩; replace HC := Lib.hid ((hb.block _ (Array.getElem?_eq_some_iff.1 HC.out).1).trans HC.out); replace HC2 := Lib.hid ((hb.block _ (Array.getElem?_eq_some_iff.1 HC2.out).1).trans HC2.out); replace HB := Lib.hid (HB.out.trans (hb.mono HB.out.size)); clear hb)
    | (go_at_call 12; (with_reducible refine (HFEW.out _ HB.out).mono ?_); rintro e w1 ⟨rfl, hb⟩; replace HC := Lib.hid ((hb.block _ (Array.getElem?_eq_some_iff.1 HC.out).1).trans HC.out); replace HC2 := Lib.hid ((hb.block _ (Array.getElem?_eq_some_iff.1 HC2.out).1).trans HC2.out); replace HB := Lib.hid (HB.out.trans (hb.mono HB.out.size)); clear hb)
    | (go_at_call 12; (with_reducible refine (HFEW2.out _ HB.out).mono ?_); rintro e w1 ⟨rfl, hb⟩; replace HC := Lib.hid ((hb.block _ (Array.getElem?_eq_some_iff.1 HC.out).1).trans HC.out); replace HC2 := Lib.hid ((hb.block _ (Array.getElem?_eq_some_iff.1 HC2.out).1).trans HC2.out); replace HB := Lib.hid (HB.out.trans (hb.mono HB.out.size)); clear hb)
    | (refine ld_if (by rfl) 24 _ rfl w.heap.size rfl 24 _ _ _ HC.out Tryd.underlying24 rfl (by exact api_size) ?_)
    | (go_at_call 13; (with_reducible refine (HMD.out _ HB.out).mono ?_); rintro e wm ⟨cm, cw, rfl, hm, hw, hb⟩; replace HC := Lib.hid ((hb.block _ (Array.getElem?_eq_some_iff.1 HC.out).1).trans HC.out); replace HC2 := Lib.hid ((hb.block _ (Array.getElem?_eq_some_iff.1 HC2.out).1).trans HC2.out); replace HB := Lib.hid (HB.out.trans (hb.mono HB.out.size)); have HMA := Lib.hid hm; have HWA := Lib.hid hw; have HZM := Lib.hid hm.size; have HZW := Lib.hid hw.size; have HLW : Hid (w.heap.size + 2 ≤ wm.heap.size) := (by show _ ≤ _; have h0 := (Array.getElem?_eq_some_iff.1 HC2.out).1; omega); clear hm hw hb)
    | (refine st_agg rfl 36 _ _ rfl wm.heap.size cm rfl rfl 36 mapZ (two_newG rfl).2.1 (by rw [HZM.out]; exact map_size) (by rw [HZM.out]; rfl) HMA.out.one ?_; intro w4 h4 k4; have hb4 : Below wm.heap.size wm w4 := (two_newG rfl).1.trans (k4.below (Nat.le_refl _)); have HY : Hid (w4.heap[wm.heap.size + 1]? = some (.cells refZ 40 (0, 0))) := k4.other (two_newG rfl).2.2.1 (by omega); replace HC := Lib.hid ((hb4.block _ (Array.getElem?_eq_some_iff.1 HC.out).1).trans HC.out); replace HC2 := Lib.hid ((hb4.block _ (Array.getElem?_eq_some_iff.1 HC2.out).1).trans HC2.out); replace HB := Lib.hid (HB.out.trans (hb4.mono HB.out.size)); have HM : Hid (MB w4 s n (uniE l []) wm.heap.size) := ⟨cm, h4, HMA.out.later hb4⟩; replace HWA := Lib.hid (HWA.out.later hb4); clear h4 k4 hb4)
    | (refine st_agg rfl 40 _ _ rfl (wm.heap.size + 1) cw rfl rfl 40 refZ HY.out (by rw [HZW.out]; exact refm_size) (by rw [HZW.out]; rfl) HWA.out.one ?_; intro w5 h5 k5; have hlw : w.heap.size + 2 ≤ wm.heap.size := HLW.out; replace HC := Lib.hid (k5.other HC.out (by omega)); replace HC2 := Lib.hid (k5.other HC2.out (by omega)); replace HM := Lib.hid (HM.out.only k5 HY.out (by omega) (by decide)); replace HB := Lib.hid (HB.out.trans (k5.below (by omega))); have HN : Hid (RB w5 (uniE l []) (wm.heap.size + 1)) := RB.wrote h5 k5 HY.out HWA.out; clear h5 k5 hlw))
  go_upto_region 5 with (first
    | (refine ld_if (by rfl) 24 _ rfl (w.heap.size + 1) rfl 24 _ _ _ HC2.out Tryd.underlying24 rfl (by exact api_size) ?_)
    | (go_at_call 13; (with_reducible refine (HMD2.out _ HB.out).mono ?_); rintro e wm2 ⟨cm2, cw2, rfl, hm, hw, hb⟩; replace HC := Lib.hid ((hb.block _ (Array.getElem?_eq_some_iff.1 HC.out).1).trans HC.out); replace HC2 := Lib.hid ((hb.block _ (Array.getElem?_eq_some_iff.1 HC2.out).1).trans HC2.out); replace HM := Lib.hid (HM.out.later hb); replace HN := Lib.hid (HN.out.later hb); replace HB := Lib.hid (HB.out.trans (hb.mono HB.out.size)); have HMA2 := Lib.hid hm; have HWA2 := Lib.hid hw; have HZM2 := Lib.hid hm.size; have HZW2 := Lib.hid hw.size; have HLW2 : Hid (w.heap.size + 2 ≤ wm2.heap.size ∧ wm.heap.size + 1 < wm2.heap.size ∧ w.heap.size + 2 ≤ wm.heap.size) := (by show _ ∧ _ ∧ _; have h0 := (Array.getElem?_eq_some_iff.1 HC2.out).1; have h1 := HN.out.lt; have h2 := HLW.out; omega); clear hm hw hb)
    | (refine st_agg rfl 36 _ _ rfl wm2.heap.size cm2 rfl rfl 36 mapZ (two_newG rfl).2.1 (by rw [HZM2.out]; exact map_size) (by rw [HZM2.out]; rfl) HMA2.out.one ?_; intro w4 h4 k4; have hb4 : Below wm2.heap.size wm2 w4 := (two_newG rfl).1.trans (k4.below (Nat.le_refl _)); have HY2 : Hid (w4.heap[wm2.heap.size + 1]? = some (.cells refZ 40 (0, 0))) := k4.other (two_newG rfl).2.2.1 (by omega); replace HC := Lib.hid ((hb4.block _ (Array.getElem?_eq_some_iff.1 HC.out).1).trans HC.out); replace HC2 := Lib.hid ((hb4.block _ (Array.getElem?_eq_some_iff.1 HC2.out).1).trans HC2.out); replace HM := Lib.hid (HM.out.later hb4); replace HN := Lib.hid (HN.out.later hb4); replace HB := Lib.hid (HB.out.trans (hb4.mono HB.out.size)); have HM2 : Hid (MB w4 s2 n2 (uniE l2 []) wm2.heap.size) := ⟨cm2, h4, HMA2.out.later hb4⟩; replace HWA2 := Lib.hid (HWA2.out.later hb4); clear h4 k4 hb4)
    | (refine st_agg rfl 40 _ _ rfl (wm2.heap.size + 1) cw2 rfl rfl 40 refZ HY2.out (by rw [HZW2.out]; exact refm_size) (by rw [HZW2.out]; rfl) HWA2.out.one ?_; intro w52 h5 k5; have hlw : w.heap.size + 2 ≤ wm2.heap.size ∧ wm.heap.size + 1 < wm2.heap.size ∧ w.heap.size + 2 ≤ wm.heap.size := HLW2.out; replace HC := Lib.hid (k5.other HC.out (by omega)); replace HC2 := Lib.hid (k5.other HC2.out (by omega)); replace HM := Lib.hid (HM.out.only k5 HY2.out (by omega) (by decide)); replace HN := Lib.hid (HN.out.only k5 HY2.out (by omega) (by decide) (by decide)); replace HM2 := Lib.hid (HM2.out.only k5 HY2.out (by omega) (by decide)); replace HB := Lib.hid (HB.out.trans (k5.below (by omega))); have HN2 : Hid (RB w52 (uniE l2 []) (wm2.heap.size + 1)) := RB.wrote h5 k5 HY2.out HWA2.out; clear h5 k5 hlw))
  have HD : Hid (wm.heap.size + 1 < wm2.heap.size) := (by show _ < _; have h := HLW2.out; omega)
  obtain ⟨cm, hxm, hmm⟩ := HM.out
  obtain ⟨cn, hxn, hmn⟩ := HN.out
  have HXM := Lib.hid hxm
  have HXN := Lib.hid hxn
  have HML := Lib.hid hmm
  have HRL := Lib.hid hmn
  have HZM := Lib.hid hmm.size
  have HZN := Lib.hid hmn.size
  clear hxm hxn hmm hmn HM HN
  obtain ⟨cm2, hxm, hmm⟩ := HM2.out
  obtain ⟨cn2, hxn, hmn⟩ := HN2.out
  have HXM2 := Lib.hid hxm
  have HXN2 := Lib.hid hxn
  have HML2 := Lib.hid hmm
  have HRL2 := Lib.hid hmn
  have HZM2 := Lib.hid hmm.size
  have HZN2 := Lib.hid hmn.size
  clear hxm hxn hmm hmn HM2 HN2
  have HRI : Hid (Rise (uniE l []) ∧ Rise (uniE l2 [])) := ⟨uni_rise Rise.nil l, uni_rise Rise.nil l2⟩
  have HSH : Hid (Short (uniE l []) ∧ Short (uniE l2 [])) := ⟨short_uni (A := l) (fun e he => HF.out.1 e he) short_nil, short_uni (A := l2) (fun e he => HF2.out.1 e he) short_nil⟩
  have HLN : Hid ((uniE l []).length ≤ 80 ∧ (uniE l2 []).length ≤ 80) := by
    show _ ∧ _
    have h := uni_len Rise.nil l
    have h2 := uni_len Rise.nil l2
    rw [List.length_nil] at h h2
    have := HF.out.2
    have := HF2.out.2
    omega
  obtain ⟨A, hA⟩ : ∃ D, D = uniE l [] := ⟨_, rfl⟩
  obtain ⟨B, hB⟩ : ∃ D, D = uniE l2 [] := ⟨_, rfl⟩
  rw [← hA] at HML HRI HSH HLN
  rw [← hB] at HML2 HRI HSH HLN
  clear hA hB HC HC2 HXN HXN2 HRL HRL2
  cases self with
  | false =>
    have HXB := Lib.hid HXM2.out
    have HMB := Lib.hid HML2.out
    have HZB := Lib.hid HZM2.out
    have HS8 : Hid ((∀ e ∈ A, e.1.size ≤ 9223372036854775800) ∧ (∀ e ∈ B, e.1.size ≤ 9223372036854775800)) := ⟨fun e he => by have := HSH.out.1 e he; omega, fun e he => by have := HSH.out.2 e he; omega⟩
    have hdl := dif_len sameI (A := A) HRI.out.2
    have hsd := dif_short (al := sameI) HSH.out.1 HSH.out.2
    have he1 := apps_dif HRI.out.1 HRI.out.2 sameI sameI_eq
    have he2 : appsE B ((difE sameI A B).map turnC) = A := by rw [turn_dif HRI.out.1 HRI.out.2 sameI sameI_comm]; exact apps_dif HRI.out.2 HRI.out.1 sameI sameI_eq
    skip
    have HCHG := Lib.hid (dc_Changes w52 s hss n A cm s2 hss2 n2 B cm2 HML.out HMB.out HRI.out.1 HRI.out.2 (by have := HLN.out; omega) (by have := HLN.out; omega) HS8.out.1 HS8.out.2 (HTB.out _ HB.out)
      sameI 43 #[] (enters_of Tryd.func43 (by kernel_rfl) rfl) (fun W _ x y => lw_equal x y W))
    obtain ⟨D, hD⟩ : ∃ D, D = difE sameI A B := ⟨_, rfl⟩
    rw [← hD] at HCHG hdl hsd he1 he2
    have HDL : Hid (D.length ≤ 160) := by show _ ≤ _; have := HLN.out; omega
    have HSD := Lib.hid hsd
    have HST : Hid (∀ x ∈ D.map turnC, x.1.size ≤ 200) := fun x hx => by
      obtain ⟨y, hy, rfl⟩ := List.mem_map.1 hx
      exact HSD.out y hy
    have HE1 := Lib.hid he1
    have HE2 := Lib.hid he2
    clear hD hdl hsd he1 he2
    go_upto_region 8 with (first
      | (refine ld_if (by rfl) 36 _ rfl wm.heap.size rfl 36 cm _ _ HXM.out Tryd.underlying36 rfl (by rw [HZM.out]; exact map_size) ?_)
      | (refine ld_if (by rfl) 36 _ rfl wm2.heap.size rfl 36 cm2 _ _ HXB.out Tryd.underlying36 rfl (by rw [HZB.out]; exact map_size) ?_)
      | (go_at_call 33; (with_reducible refine HCHG.out.mono ?_); rintro e wq ⟨v, rfl, hv, hb⟩; replace HXM := Lib.hid ((hb.block _ (Array.getElem?_eq_some_iff.1 HXM.out).1).trans HXM.out); replace HXB := Lib.hid ((hb.block _ (Array.getElem?_eq_some_iff.1 HXB.out).1).trans HXB.out); replace HML := Lib.hid (HML.out.later hb); replace HMB := Lib.hid (HMB.out.later hb); have HVD := Lib.hid hv.chl; have HBQ := Lib.hid hb; clear hv hb))
    have HKS : Hid (∀ V, Below wq.heap.size wq V → V.heap[wm.heap.size]? = some (.cells cm 36 (0, 0)) ∧ V.heap[wm2.heap.size]? = some (.cells cm2 36 (0, 0))) := fun V hV => ⟨(hV.block _ (Array.getElem?_eq_some_iff.1 HXM.out).1).trans HXM.out, (hV.block _ (Array.getElem?_eq_some_iff.1 HXB.out).1).trans HXB.out⟩
    have HW : Hid (Below wq.heap.size wq wq.drew) := drawn_below wq
    refine wp_region_T (S := (fun V => V.heap[wm.heap.size]? = some (.cells cm 36 (0, 0)) ∧ V.heap[wm2.heap.size]? = some (.cells cm2 36 (0, 0)))) [] (by kernel_rfl) (by exact HKS.out _ HW.out) (fun hHeld => ?_)
    refine wpAnyT_take (i := 0) (oi := ⟨some 46, _, _, _, _, _⟩) (v := _) rfl (by kernel_rfl) (by kernel_rfl) (by kernel_rfl) (by kernel_rfl) (fun _ _ _ h => h) (yieldsIf_load_row (by rfl) 36 _ rfl wm.heap.size rfl cm 36 (0, 0) _ (fun w hw => hw.1) Tryd.underlying36 rfl (by rw [HZM.out]; exact map_size)) (by assumption) ?_
    (try simp only [Act.put, List.setIfInBounds_toArray, List.set_cons_zero, List.set_cons_succ])
    refine wpAnyT_take (i := 1) (oi := ⟨some 47, _, _, _, _, _⟩) (v := ?vg1_1) rfl (by kernel_rfl) (by kernel_rfl) (by kernel_rfl) (by kernel_rfl) (fun _ _ _ h => h) (Or.inl ⟨by rfl, ?hg1_1⟩) (by assumption) ?rg1_1
    case hg1_1 => (intro w hSw; (try dsimp only at hSw); first | (go_simp; done) | (go_simp; with_reducible rfl))
    (try simp only [Act.put, List.setIfInBounds_toArray, List.set_cons_zero, List.set_cons_succ])
    refine wpAnyT_take (i := 3) (oi := ⟨some 49, _, _, _, _, _⟩) (v := _) rfl (by kernel_rfl) (by kernel_rfl) (by kernel_rfl) (by kernel_rfl) (fun _ _ _ h => h) (yieldsIf_load_row (by rfl) 36 _ rfl wm2.heap.size rfl cm2 36 (0, 0) _ (fun w hw => hw.2) Tryd.underlying36 rfl (by rw [HZB.out]; exact map_size)) (by assumption) ?_
    (try simp only [Act.put, List.setIfInBounds_toArray, List.set_cons_zero, List.set_cons_succ])
    refine wpAnyT_one (i := 2) (o := ⟨some 48, _, _, _, _, _⟩) (by kernel_rfl) rfl (fun K hK => ?_)
    go_simp
    go_at_call 41
    (with_reducible refine (dc_Apply _ s hss n A cm v D (HML.out.later HW.out) HRI.out.1 (by have := HLN.out; have := HDL.out; omega) (HVD.out.later HW.out) HSD.out (HTB.out _ (HB.out.trans ((HBQ.out.trans (HW.out.mono HBQ.out.size)).mono HB.out.size)))).mono ?_)
    rintro r w3 ⟨cp, rfl, hu, hb⟩
    rw [HE1.out] at hu
    have HUp := Lib.hid hu
    replace HW := Lib.hid (HW.out.trans (hb.mono HW.out.size))
    clear hb
    clear hu
    dsimp only
    refine hK.out _ _ (by exact HKS.out _ HW.out) (fun hHeld => ?_)
    clear hK K
    (try simp only [Act.put, List.setIfInBounds_toArray, List.set_cons_zero, List.set_cons_succ])
    refine wpAnyT_one (i := 4) (o := ⟨some 50, _, _, _, _, _⟩) (by kernel_rfl) rfl (fun K hK => ?_)
    go_simp
    go_at_call 44
    (with_reducible refine (alike10 _ s hss n s2 hss2 n2 B cp cm2 HUp.out (HMB.out.later HW.out) HRI.out.2 HS8.out.2 (by have := HLN.out; omega) (HTB.out _ (HB.out.trans ((HBQ.out.trans (HW.out.mono HBQ.out.size)).mono HB.out.size)))).mono ?_)
    rintro r w3 ⟨rfl, hb⟩
    replace HW := Lib.hid (HW.out.trans (hb.mono HW.out.size))
    clear hb
    dsimp only
    refine hK.out _ _ (by exact HKS.out _ HW.out) (fun hHeld => ?_)
    clear hK K
    (try simp only [Act.put, List.setIfInBounds_toArray, List.set_cons_zero, List.set_cons_succ])
    refine wpAnyT_take (i := 5) (oi := ⟨some 51, _, _, _, _, _⟩) (v := ?vg1_5) rfl (by kernel_rfl) (by kernel_rfl) (by kernel_rfl) (by kernel_rfl) (fun _ _ _ h => h) (Or.inl ⟨by rfl, ?hg1_5⟩) (by assumption) ?rg1_5
    case hg1_5 => (intro w hSw; (try dsimp only at hSw); first | (go_simp; done) | (go_simp; with_reducible rfl))
    (try simp only [Act.put, List.setIfInBounds_toArray, List.set_cons_zero, List.set_cons_succ])
    refine wpAnyT_take (i := 6) (oi := ⟨some 52, _, _, _, _, _⟩) (v := _) rfl (by kernel_rfl) (by kernel_rfl) (by kernel_rfl) (by kernel_rfl) (fun _ _ _ h => h) (yieldsIf_load_row (by rfl) 36 _ rfl wm2.heap.size rfl cm2 36 (0, 0) _ (fun w hw => hw.2) Tryd.underlying36 rfl (by rw [HZB.out]; exact map_size)) (by assumption) ?_
    (try simp only [Act.put, List.setIfInBounds_toArray, List.set_cons_zero, List.set_cons_succ])
    refine wpAnyT_take (i := 7) (oi := ⟨some 53, _, _, _, _, _⟩) (v := ?vg1_7) rfl (by kernel_rfl) (by kernel_rfl) (by kernel_rfl) (by kernel_rfl) (fun _ _ _ h => h) (Or.inl ⟨by rfl, ?hg1_7⟩) (by assumption) ?rg1_7
    case hg1_7 => (intro w hSw; (try dsimp only at hSw); first | (go_simp; done) | (go_simp; with_reducible rfl))
    (try simp only [Act.put, List.setIfInBounds_toArray, List.set_cons_zero, List.set_cons_succ])
    refine wpAnyT_take (i := 10) (oi := ⟨some 56, _, _, _, _, _⟩) (v := _) rfl (by kernel_rfl) (by kernel_rfl) (by kernel_rfl) (by kernel_rfl) (fun _ _ _ h => h) (yieldsIf_load_row (by rfl) 36 _ rfl wm.heap.size rfl cm 36 (0, 0) _ (fun w hw => hw.1) Tryd.underlying36 rfl (by rw [HZM.out]; exact map_size)) (by assumption) ?_
    (try simp only [Act.put, List.setIfInBounds_toArray, List.set_cons_zero, List.set_cons_succ])
    refine wpAnyT_one (i := 8) (o := ⟨some 54, _, _, _, _, _⟩) (by kernel_rfl) rfl (fun K hK => ?_)
    go_simp
    go_at_call 39
    (with_reducible refine (dc_Turned _ v D (HVD.out.later HW.out) (by have := HDL.out; omega)).mono ?_)
    rintro r w3 ⟨vt, rfl, hv, hb⟩
    have HVT := Lib.hid hv.chl
    replace HW := Lib.hid (HW.out.trans (hb.mono HW.out.size))
    clear hb
    clear hv
    dsimp only
    refine hK.out _ _ (by exact HKS.out _ HW.out) (fun hHeld => ?_)
    clear hK K
    (try simp only [Act.put, List.setIfInBounds_toArray, List.set_cons_zero, List.set_cons_succ])
    refine wpAnyT_one (i := 9) (o := ⟨some 55, _, _, _, _, _⟩) (by kernel_rfl) rfl (fun K hK => ?_)
    go_simp
    go_at_call 41
    (with_reducible refine (dc_Apply _ s2 hss2 n2 B cm2 vt (D.map turnC) (HMB.out.later HW.out) HRI.out.2 (by have := HLN.out; have := HDL.out; rw [List.length_map]; omega) HVT.out HST.out (HTB.out _ (HB.out.trans ((HBQ.out.trans (HW.out.mono HBQ.out.size)).mono HB.out.size)))).mono ?_)
    rintro r w3 ⟨cq, rfl, hu, hb⟩
    rw [HE2.out] at hu
    have HUq := Lib.hid hu
    replace HW := Lib.hid (HW.out.trans (hb.mono HW.out.size))
    clear hb
    clear hu
    dsimp only
    refine hK.out _ _ (by exact HKS.out _ HW.out) (fun hHeld => ?_)
    clear hK K
    (try simp only [Act.put, List.setIfInBounds_toArray, List.set_cons_zero, List.set_cons_succ])
    refine wpAnyT_one (i := 11) (o := ⟨some 57, _, _, _, _, _⟩) (by kernel_rfl) rfl (fun K hK => ?_)
    go_simp
    go_at_call 44
    (with_reducible refine (alike10 _ s2 hss2 n2 s hss n A cq cm HUq.out (HML.out.later HW.out) HRI.out.1 HS8.out.1 (by have := HLN.out; omega) (HTB.out _ (HB.out.trans ((HBQ.out.trans (HW.out.mono HBQ.out.size)).mono HB.out.size)))).mono ?_)
    rintro r w3 ⟨rfl, hb⟩
    replace HW := Lib.hid (HW.out.trans (hb.mono HW.out.size))
    clear hb
    dsimp only
    refine hK.out _ _ (by exact HKS.out _ HW.out) (fun hHeld => ?_)
    clear hK K
    (try simp only [Act.put, List.setIfInBounds_toArray, List.set_cons_zero, List.set_cons_succ])
    refine wpAnyT_take (i := 12) (oi := ⟨some 58, _, _, _, _, _⟩) (v := ?vg1_12) rfl (by kernel_rfl) (by kernel_rfl) (by kernel_rfl) (by kernel_rfl) (fun _ _ _ h => h) (Or.inl ⟨by rfl, ?hg1_12⟩) (by assumption) ?rg1_12
    case hg1_12 => (intro w hSw; (try dsimp only at hSw); first | (go_simp; done) | (go_simp; with_reducible rfl))
    (try simp only [Act.put, List.setIfInBounds_toArray, List.set_cons_zero, List.set_cons_succ])
    refine wpAnyT_take (i := 13) (oi := ⟨some 59, _, _, _, _, _⟩) (v := ?vg1_13) rfl (by kernel_rfl) (by kernel_rfl) (by kernel_rfl) (by kernel_rfl) (fun _ _ _ h => h) (Or.inl ⟨by rfl, ?hg1_13⟩) (by assumption) ?rg1_13
    case hg1_13 => (intro w hSw; (try dsimp only at hSw); first | (go_simp; done) | (go_simp; with_reducible rfl))
    (try simp only [Act.put, List.setIfInBounds_toArray, List.set_cons_zero, List.set_cons_succ])
    refine wpAnyT_take (i := 14) (oi := ⟨some 60, _, _, _, _, _⟩) (v := ?vg1_14) rfl (by kernel_rfl) (by kernel_rfl) (by kernel_rfl) (by kernel_rfl) (fun _ _ _ h => h) (Or.inl ⟨by rfl, ?hg1_14⟩) (by assumption) ?rg1_14
    case hg1_14 => (intro w hSw; (try dsimp only at hSw); first | (go_simp; done) | (go_simp; with_reducible rfl))
    (try simp only [Act.put, List.setIfInBounds_toArray, List.set_cons_zero, List.set_cons_succ])
    refine wpAnyT_take (i := 15) (oi := ⟨some 61, _, _, _, _, _⟩) (v := ?vg1_15) rfl (by kernel_rfl) (by kernel_rfl) (by kernel_rfl) (by kernel_rfl) (fun _ _ _ h => h) (Or.inl ⟨by rfl, ?hg1_15⟩) (by assumption) ?rg1_15
    case hg1_15 => (intro w hSw; (try dsimp only at hSw); first | (go_simp; done) | (go_simp; with_reducible rfl))
    (try simp only [Act.put, List.setIfInBounds_toArray, List.set_cons_zero, List.set_cons_succ])
    refine wpAnyT_take (i := 16) (oi := ⟨some 62, _, _, _, _, _⟩) (v := ?vg1_16) rfl (by kernel_rfl) (by kernel_rfl) (by kernel_rfl) (by kernel_rfl) (fun _ _ _ h => h) (Or.inl ⟨by rfl, ?hg1_16⟩) (by assumption) ?rg1_16
    case hg1_16 => (intro w hSw; (try dsimp only at hSw); first | (go_simp; done) | (go_simp; with_reducible rfl))
    (try simp only [Act.put, List.setIfInBounds_toArray, List.set_cons_zero, List.set_cons_succ])
    refine wpAnyT_take (i := 17) (oi := ⟨some 63, _, _, _, _, _⟩) (v := undef) rfl (by kernel_rfl) (by kernel_rfl) (by kernel_rfl) (by kernel_rfl) (fun _ _ _ h => h) (Or.inr ⟨by rfl, rfl⟩) (by assumption) ?_
    (try simp only [Act.put, List.setIfInBounds_toArray, List.set_cons_zero, List.set_cons_succ])
    refine wpAnyT_take (i := 18) (oi := ⟨some 64, _, _, _, _, _⟩) (v := undef) rfl (by kernel_rfl) (by kernel_rfl) (by kernel_rfl) (by kernel_rfl) (fun _ _ _ h => h) (Or.inr ⟨by rfl, rfl⟩) (by assumption) ?_
    (try simp only [Act.put, List.setIfInBounds_toArray, List.set_cons_zero, List.set_cons_succ])
    refine wpAnyT_take (i := 19) (oi := ⟨some 65, _, _, _, _, _⟩) (v := undef) rfl (by kernel_rfl) (by kernel_rfl) (by kernel_rfl) (by kernel_rfl) (fun _ _ _ h => h) (Or.inr ⟨by rfl, rfl⟩) (by assumption) ?_
    (try simp only [Act.put, List.setIfInBounds_toArray, List.set_cons_zero, List.set_cons_succ])
    refine wpAnyT_take (i := 20) (oi := ⟨some 66, _, _, _, _, _⟩) (v := ?vg1_20) rfl (by kernel_rfl) (by kernel_rfl) (by kernel_rfl) (by kernel_rfl) (fun _ _ _ h => h) (Or.inl ⟨by rfl, ?hg1_20⟩) (by assumption) ?rg1_20
    case hg1_20 => (intro w hSw; (try dsimp only at hSw); first | (go_simp; done) | (go_simp; with_reducible rfl))
    (try simp only [Act.put, List.setIfInBounds_toArray, List.set_cons_zero, List.set_cons_succ])
    refine wpAnyT_take (i := 21) (oi := ⟨some 67, _, _, _, _, _⟩) (v := ?vg1_21) rfl (by kernel_rfl) (by kernel_rfl) (by kernel_rfl) (by kernel_rfl) (fun _ _ _ h => h) (Or.inl ⟨by rfl, ?hg1_21⟩) (by assumption) ?rg1_21
    case hg1_21 => (intro w hSw; (try dsimp only at hSw); first | (go_simp; done) | (go_simp; with_reducible rfl))
    (try simp only [Act.put, List.setIfInBounds_toArray, List.set_cons_zero, List.set_cons_succ])
    refine wpAnyT_take (i := 22) (oi := ⟨some 10, _, _, _, _, _⟩) (v := ?vg1_22) rfl (by kernel_rfl) (by kernel_rfl) (by kernel_rfl) (by kernel_rfl) (fun _ _ _ h => h) (Or.inl ⟨by rfl, ?hg1_22⟩) (by assumption) ?rg1_22
    case hg1_22 => (intro w hSw; (try dsimp only at hSw); first | (go_simp; done) | (go_simp; with_reducible rfl))
    (try simp only [Act.put, List.setIfInBounds_toArray, List.set_cons_zero, List.set_cons_succ])
    refine wpAnyT_done (by kernel_rfl) ?_ _
    clear hHeld
    go_wp2_with fail
    go_ret
    exact ⟨rfl, (HB.out.trans (HBQ.out.mono HB.out.size)).trans (HW.out.mono (Nat.le_trans HB.out.size HBQ.out.size))⟩
  | true =>
    go_upto_region 7 with (first
      | (refine ld_if (by rfl) 36 _ rfl wm.heap.size rfl 36 cm _ _ HXM.out Tryd.underlying36 rfl (by rw [HZM.out]; exact map_size) ?_)
      | (refine st_agg rfl 36 _ _ rfl wm2.heap.size cm rfl rfl 36 cm2 HXM2.out (by rw [HZM.out]; exact map_size) (by rw [HZM.out, HZM2.out]) HML.out.one ?_; intro ws h5 k5; have hd := HD.out; have hlw := HLW.out; have hlw2 := HLW2.out; replace HXM := Lib.hid (k5.other HXM.out (by omega)); replace HML := Lib.hid (HML.out.but k5 HXM2.out (by decide)); replace HB := Lib.hid (HB.out.trans (k5.below (by omega))); have HXB := Lib.hid h5; clear h5 k5 hd hlw hlw2))
    have HMB : Hid (ML ws s n A cm) := HML.out
    have HZB : Hid (cm.size = 6) := HZM.out
    have HS8 : Hid ((∀ e ∈ A, e.1.size ≤ 9223372036854775800) ∧ (∀ e ∈ A, e.1.size ≤ 9223372036854775800)) := ⟨fun e he => by have := HSH.out.1 e he; omega, fun e he => by have := HSH.out.1 e he; omega⟩
    have hdl := dif_len sameI (A := A) HRI.out.1
    have hsd := dif_short (al := sameI) HSH.out.1 HSH.out.1
    have he1 := apps_dif HRI.out.1 HRI.out.1 sameI sameI_eq
    have he2 : appsE A ((difE sameI A A).map turnC) = A := by rw [turn_dif HRI.out.1 HRI.out.1 sameI sameI_comm]; exact apps_dif HRI.out.1 HRI.out.1 sameI sameI_eq
    have hnl := dif_self HRI.out.1 sameI sameI_self
    have HCHG := Lib.hid (dc_Changes ws s hss n A cm s hss n A cm HML.out HMB.out HRI.out.1 HRI.out.1 (by have := HLN.out; omega) (by have := HLN.out; omega) HS8.out.1 HS8.out.2 (HTB.out _ HB.out)
      sameI 43 #[] (enters_of Tryd.func43 (by kernel_rfl) rfl) (fun W _ x y => lw_equal x y W))
    obtain ⟨D, hD⟩ : ∃ D, D = difE sameI A A := ⟨_, rfl⟩
    rw [← hD] at HCHG hdl hsd he1 he2 hnl
    have HDL : Hid (D.length ≤ 160) := by show _ ≤ _; have := HLN.out; omega
    have HSD := Lib.hid hsd
    have HST : Hid (∀ x ∈ D.map turnC, x.1.size ≤ 200) := fun x hx => by
      obtain ⟨y, hy, rfl⟩ := List.mem_map.1 hx
      exact HSD.out y hy
    have HE1 := Lib.hid he1
    have HE2 := Lib.hid he2
    clear hD hdl hsd he1 he2
    go_upto_region 8 with (first
      | (refine ld_if (by rfl) 36 _ rfl wm.heap.size rfl 36 cm _ _ HXM.out Tryd.underlying36 rfl (by rw [HZM.out]; exact map_size) ?_)
      | (refine ld_if (by rfl) 36 _ rfl wm2.heap.size rfl 36 cm _ _ HXB.out Tryd.underlying36 rfl (by rw [HZB.out]; exact map_size) ?_)
      | (go_at_call 33; (with_reducible refine HCHG.out.mono ?_); rintro e wq ⟨v, rfl, hv, hb⟩; replace HXM := Lib.hid ((hb.block _ (Array.getElem?_eq_some_iff.1 HXM.out).1).trans HXM.out); replace HXB := Lib.hid ((hb.block _ (Array.getElem?_eq_some_iff.1 HXB.out).1).trans HXB.out); replace HML := Lib.hid (HML.out.later hb); replace HMB := Lib.hid (HMB.out.later hb); have HVD := Lib.hid hv.chl; have HBQ := Lib.hid hb; clear hv hb))
    subst hnl
    obtain ⟨av, cv, hvs, _⟩ := HVD.out.shape
    simp only [List.length_nil] at hvs
    subst hvs
    have HKS : Hid (∀ V, Below wq.heap.size wq V → V.heap[wm.heap.size]? = some (.cells cm 36 (0, 0)) ∧ V.heap[wm2.heap.size]? = some (.cells cm 36 (0, 0))) := fun V hV => ⟨(hV.block _ (Array.getElem?_eq_some_iff.1 HXM.out).1).trans HXM.out, (hV.block _ (Array.getElem?_eq_some_iff.1 HXB.out).1).trans HXB.out⟩
    have HW : Hid (Below wq.heap.size wq wq.drew) := drawn_below wq
    refine wp_region_T (S := (fun V => V.heap[wm.heap.size]? = some (.cells cm 36 (0, 0)) ∧ V.heap[wm2.heap.size]? = some (.cells cm 36 (0, 0)))) [] (by kernel_rfl) (by exact HKS.out _ HW.out) (fun hHeld => ?_)
    refine wpAnyT_take (i := 0) (oi := ⟨some 46, _, _, _, _, _⟩) (v := _) rfl (by kernel_rfl) (by kernel_rfl) (by kernel_rfl) (by kernel_rfl) (fun _ _ _ h => h) (yieldsIf_load_row (by rfl) 36 _ rfl wm.heap.size rfl cm 36 (0, 0) _ (fun w hw => hw.1) Tryd.underlying36 rfl (by rw [HZM.out]; exact map_size)) (by assumption) ?_
    (try simp only [Act.put, List.setIfInBounds_toArray, List.set_cons_zero, List.set_cons_succ])
    refine wpAnyT_take (i := 1) (oi := ⟨some 47, _, _, _, _, _⟩) (v := ?vg2_1) rfl (by kernel_rfl) (by kernel_rfl) (by kernel_rfl) (by kernel_rfl) (fun _ _ _ h => h) (Or.inl ⟨by rfl, ?hg2_1⟩) (by assumption) ?rg2_1
    case hg2_1 => (intro w hSw; (try dsimp only at hSw); first | (go_simp; done) | (go_simp; with_reducible rfl))
    (try simp only [Act.put, List.setIfInBounds_toArray, List.set_cons_zero, List.set_cons_succ])
    refine wpAnyT_take (i := 3) (oi := ⟨some 49, _, _, _, _, _⟩) (v := _) rfl (by kernel_rfl) (by kernel_rfl) (by kernel_rfl) (by kernel_rfl) (fun _ _ _ h => h) (yieldsIf_load_row (by rfl) 36 _ rfl wm2.heap.size rfl cm 36 (0, 0) _ (fun w hw => hw.2) Tryd.underlying36 rfl (by rw [HZB.out]; exact map_size)) (by assumption) ?_
    (try simp only [Act.put, List.setIfInBounds_toArray, List.set_cons_zero, List.set_cons_succ])
    refine wpAnyT_one (i := 2) (o := ⟨some 48, _, _, _, _, _⟩) (by kernel_rfl) rfl (fun K hK => ?_)
    go_simp
    go_at_call 41
    (with_reducible refine (dc_Apply _ s hss n A cm _ [] (HML.out.later HW.out) HRI.out.1 (by have := HLN.out; have := HDL.out; omega) (HVD.out.later HW.out) HSD.out (HTB.out _ (HB.out.trans ((HBQ.out.trans (HW.out.mono HBQ.out.size)).mono HB.out.size)))).mono ?_)
    rintro r w3 ⟨cp, rfl, hu, hb⟩
    rw [HE1.out] at hu
    have HUp := Lib.hid hu
    replace HW := Lib.hid (HW.out.trans (hb.mono HW.out.size))
    clear hb
    clear hu
    dsimp only
    refine hK.out _ _ (by exact HKS.out _ HW.out) (fun hHeld => ?_)
    clear hK K
    (try simp only [Act.put, List.setIfInBounds_toArray, List.set_cons_zero, List.set_cons_succ])
    refine wpAnyT_one (i := 4) (o := ⟨some 50, _, _, _, _, _⟩) (by kernel_rfl) rfl (fun K hK => ?_)
    go_simp
    go_at_call 44
    (with_reducible refine (alike10 _ s hss n s hss n A cp cm HUp.out (HMB.out.later HW.out) HRI.out.1 HS8.out.2 (by have := HLN.out; omega) (HTB.out _ (HB.out.trans ((HBQ.out.trans (HW.out.mono HBQ.out.size)).mono HB.out.size)))).mono ?_)
    rintro r w3 ⟨rfl, hb⟩
    replace HW := Lib.hid (HW.out.trans (hb.mono HW.out.size))
    clear hb
    dsimp only
    refine hK.out _ _ (by exact HKS.out _ HW.out) (fun hHeld => ?_)
    clear hK K
    (try simp only [Act.put, List.setIfInBounds_toArray, List.set_cons_zero, List.set_cons_succ])
    refine wpAnyT_take (i := 5) (oi := ⟨some 51, _, _, _, _, _⟩) (v := ?vg2_5) rfl (by kernel_rfl) (by kernel_rfl) (by kernel_rfl) (by kernel_rfl) (fun _ _ _ h => h) (Or.inl ⟨by rfl, ?hg2_5⟩) (by assumption) ?rg2_5
    case hg2_5 => (intro w hSw; (try dsimp only at hSw); first | (go_simp; done) | (go_simp; with_reducible rfl))
    (try simp only [Act.put, List.setIfInBounds_toArray, List.set_cons_zero, List.set_cons_succ])
    refine wpAnyT_take (i := 6) (oi := ⟨some 52, _, _, _, _, _⟩) (v := _) rfl (by kernel_rfl) (by kernel_rfl) (by kernel_rfl) (by kernel_rfl) (fun _ _ _ h => h) (yieldsIf_load_row (by rfl) 36 _ rfl wm2.heap.size rfl cm 36 (0, 0) _ (fun w hw => hw.2) Tryd.underlying36 rfl (by rw [HZB.out]; exact map_size)) (by assumption) ?_
    (try simp only [Act.put, List.setIfInBounds_toArray, List.set_cons_zero, List.set_cons_succ])
    refine wpAnyT_take (i := 7) (oi := ⟨some 53, _, _, _, _, _⟩) (v := ?vg2_7) rfl (by kernel_rfl) (by kernel_rfl) (by kernel_rfl) (by kernel_rfl) (fun _ _ _ h => h) (Or.inl ⟨by rfl, ?hg2_7⟩) (by assumption) ?rg2_7
    case hg2_7 => (intro w hSw; (try dsimp only at hSw); first | (go_simp; done) | (go_simp; with_reducible rfl))
    (try simp only [Act.put, List.setIfInBounds_toArray, List.set_cons_zero, List.set_cons_succ])
    refine wpAnyT_take (i := 10) (oi := ⟨some 56, _, _, _, _, _⟩) (v := _) rfl (by kernel_rfl) (by kernel_rfl) (by kernel_rfl) (by kernel_rfl) (fun _ _ _ h => h) (yieldsIf_load_row (by rfl) 36 _ rfl wm.heap.size rfl cm 36 (0, 0) _ (fun w hw => hw.1) Tryd.underlying36 rfl (by rw [HZM.out]; exact map_size)) (by assumption) ?_
    (try simp only [Act.put, List.setIfInBounds_toArray, List.set_cons_zero, List.set_cons_succ])
    refine wpAnyT_one (i := 8) (o := ⟨some 54, _, _, _, _, _⟩) (by kernel_rfl) rfl (fun K hK => ?_)
    go_simp
    go_at_call 39
    (with_reducible refine (dc_Turned _ _ [] (HVD.out.later HW.out) (by have := HDL.out; omega)).mono ?_)
    rintro r w3 ⟨vt, rfl, hv, hb⟩
    have HVT := Lib.hid hv.chl
    replace HW := Lib.hid (HW.out.trans (hb.mono HW.out.size))
    clear hb
    clear hv
    dsimp only
    refine hK.out _ _ (by exact HKS.out _ HW.out) (fun hHeld => ?_)
    clear hK K
    (try simp only [Act.put, List.setIfInBounds_toArray, List.set_cons_zero, List.set_cons_succ])
    refine wpAnyT_one (i := 9) (o := ⟨some 55, _, _, _, _, _⟩) (by kernel_rfl) rfl (fun K hK => ?_)
    go_simp
    go_at_call 41
    (with_reducible refine (dc_Apply _ s hss n A cm vt ([].map turnC) (HMB.out.later HW.out) HRI.out.1 (by have := HLN.out; have := HDL.out; rw [List.length_map]; omega) HVT.out HST.out (HTB.out _ (HB.out.trans ((HBQ.out.trans (HW.out.mono HBQ.out.size)).mono HB.out.size)))).mono ?_)
    rintro r w3 ⟨cq, rfl, hu, hb⟩
    rw [HE2.out] at hu
    have HUq := Lib.hid hu
    replace HW := Lib.hid (HW.out.trans (hb.mono HW.out.size))
    clear hb
    clear hu
    dsimp only
    refine hK.out _ _ (by exact HKS.out _ HW.out) (fun hHeld => ?_)
    clear hK K
    (try simp only [Act.put, List.setIfInBounds_toArray, List.set_cons_zero, List.set_cons_succ])
    refine wpAnyT_one (i := 11) (o := ⟨some 57, _, _, _, _, _⟩) (by kernel_rfl) rfl (fun K hK => ?_)
    go_simp
    go_at_call 44
    (with_reducible refine (alike10 _ s hss n s hss n A cq cm HUq.out (HML.out.later HW.out) HRI.out.1 HS8.out.1 (by have := HLN.out; omega) (HTB.out _ (HB.out.trans ((HBQ.out.trans (HW.out.mono HBQ.out.size)).mono HB.out.size)))).mono ?_)
    rintro r w3 ⟨rfl, hb⟩
    replace HW := Lib.hid (HW.out.trans (hb.mono HW.out.size))
    clear hb
    dsimp only
    refine hK.out _ _ (by exact HKS.out _ HW.out) (fun hHeld => ?_)
    clear hK K
    (try simp only [Act.put, List.setIfInBounds_toArray, List.set_cons_zero, List.set_cons_succ])
    refine wpAnyT_take (i := 12) (oi := ⟨some 58, _, _, _, _, _⟩) (v := ?vg2_12) rfl (by kernel_rfl) (by kernel_rfl) (by kernel_rfl) (by kernel_rfl) (fun _ _ _ h => h) (Or.inl ⟨by rfl, ?hg2_12⟩) (by assumption) ?rg2_12
    case hg2_12 => (intro w hSw; (try dsimp only at hSw); first | (go_simp; done) | (go_simp; with_reducible rfl))
    (try simp only [Act.put, List.setIfInBounds_toArray, List.set_cons_zero, List.set_cons_succ])
    refine wpAnyT_take (i := 13) (oi := ⟨some 59, _, _, _, _, _⟩) (v := ?vg2_13) rfl (by kernel_rfl) (by kernel_rfl) (by kernel_rfl) (by kernel_rfl) (fun _ _ _ h => h) (Or.inl ⟨by rfl, ?hg2_13⟩) (by assumption) ?rg2_13
    case hg2_13 => (intro w hSw; (try dsimp only at hSw); first | (go_simp; done) | (go_simp; with_reducible rfl))
    (try simp only [Act.put, List.setIfInBounds_toArray, List.set_cons_zero, List.set_cons_succ])
    refine wpAnyT_take (i := 14) (oi := ⟨some 60, _, _, _, _, _⟩) (v := ?vg2_14) rfl (by kernel_rfl) (by kernel_rfl) (by kernel_rfl) (by kernel_rfl) (fun _ _ _ h => h) (Or.inl ⟨by rfl, ?hg2_14⟩) (by assumption) ?rg2_14
    case hg2_14 => (intro w hSw; (try dsimp only at hSw); first | (go_simp; done) | (go_simp; with_reducible rfl))
    (try simp only [Act.put, List.setIfInBounds_toArray, List.set_cons_zero, List.set_cons_succ])
    refine wpAnyT_take (i := 15) (oi := ⟨some 61, _, _, _, _, _⟩) (v := ?vg2_15) rfl (by kernel_rfl) (by kernel_rfl) (by kernel_rfl) (by kernel_rfl) (fun _ _ _ h => h) (Or.inl ⟨by rfl, ?hg2_15⟩) (by assumption) ?rg2_15
    case hg2_15 => (intro w hSw; (try dsimp only at hSw); first | (go_simp; done) | (go_simp; with_reducible rfl))
    (try simp only [Act.put, List.setIfInBounds_toArray, List.set_cons_zero, List.set_cons_succ])
    refine wpAnyT_take (i := 16) (oi := ⟨some 62, _, _, _, _, _⟩) (v := ?vg2_16) rfl (by kernel_rfl) (by kernel_rfl) (by kernel_rfl) (by kernel_rfl) (fun _ _ _ h => h) (Or.inl ⟨by rfl, ?hg2_16⟩) (by assumption) ?rg2_16
    case hg2_16 => (intro w hSw; (try dsimp only at hSw); first | (go_simp; done) | (go_simp; with_reducible rfl))
    (try simp only [Act.put, List.setIfInBounds_toArray, List.set_cons_zero, List.set_cons_succ])
    refine wpAnyT_take (i := 17) (oi := ⟨some 63, _, _, _, _, _⟩) (v := ?vg2_17) rfl (by kernel_rfl) (by kernel_rfl) (by kernel_rfl) (by kernel_rfl) (fun _ _ _ h => h) (Or.inl ⟨by rfl, ?hg2_17⟩) (by assumption) ?rg2_17
    case hg2_17 => (intro w hSw; (try dsimp only at hSw); first | (go_simp; done) | (go_simp; with_reducible rfl))
    (try simp only [Act.put, List.setIfInBounds_toArray, List.set_cons_zero, List.set_cons_succ])
    refine wpAnyT_take (i := 18) (oi := ⟨some 64, _, _, _, _, _⟩) (v := ?vg2_18) rfl (by kernel_rfl) (by kernel_rfl) (by kernel_rfl) (by kernel_rfl) (fun _ _ _ h => h) (Or.inl ⟨by rfl, ?hg2_18⟩) (by assumption) ?rg2_18
    case hg2_18 => (intro w hSw; (try dsimp only at hSw); first | (go_simp; done) | (go_simp; with_reducible rfl))
    (try simp only [Act.put, List.setIfInBounds_toArray, List.set_cons_zero, List.set_cons_succ])
    refine wpAnyT_take (i := 19) (oi := ⟨some 65, _, _, _, _, _⟩) (v := ?vg2_19) rfl (by kernel_rfl) (by kernel_rfl) (by kernel_rfl) (by kernel_rfl) (fun _ _ _ h => h) (Or.inl ⟨by rfl, ?hg2_19⟩) (by assumption) ?rg2_19
    case hg2_19 => (intro w hSw; (try dsimp only at hSw); first | (go_simp; done) | (go_simp; with_reducible rfl))
    (try simp only [Act.put, List.setIfInBounds_toArray, List.set_cons_zero, List.set_cons_succ])
    refine wpAnyT_take (i := 20) (oi := ⟨some 66, _, _, _, _, _⟩) (v := ?vg2_20) rfl (by kernel_rfl) (by kernel_rfl) (by kernel_rfl) (by kernel_rfl) (fun _ _ _ h => h) (Or.inl ⟨by rfl, ?hg2_20⟩) (by assumption) ?rg2_20
    case hg2_20 => (intro w hSw; (try dsimp only at hSw); first | (go_simp; done) | (go_simp; with_reducible rfl))
    (try simp only [Act.put, List.setIfInBounds_toArray, List.set_cons_zero, List.set_cons_succ])
    refine wpAnyT_take (i := 21) (oi := ⟨some 67, _, _, _, _, _⟩) (v := ?vg2_21) rfl (by kernel_rfl) (by kernel_rfl) (by kernel_rfl) (by kernel_rfl) (fun _ _ _ h => h) (Or.inl ⟨by rfl, ?hg2_21⟩) (by assumption) ?rg2_21
    case hg2_21 => (intro w hSw; (try dsimp only at hSw); first | (go_simp; done) | (go_simp; with_reducible rfl))
    (try simp only [Act.put, List.setIfInBounds_toArray, List.set_cons_zero, List.set_cons_succ])
    refine wpAnyT_take (i := 22) (oi := ⟨some 10, _, _, _, _, _⟩) (v := ?vg2_22) rfl (by kernel_rfl) (by kernel_rfl) (by kernel_rfl) (by kernel_rfl) (fun _ _ _ h => h) (Or.inl ⟨by rfl, ?hg2_22⟩) (by assumption) ?rg2_22
    case hg2_22 => (intro w hSw; (try dsimp only at hSw); first | (go_simp; done) | (go_simp; with_reducible rfl))
    (try simp only [Act.put, List.setIfInBounds_toArray, List.set_cons_zero, List.set_cons_succ])
    refine wpAnyT_done (by kernel_rfl) ?_ _
    clear hHeld
    go_wp2_with fail
    go_ret
    exact ⟨rfl, (HB.out.trans (HBQ.out.mono HB.out.size)).trans (HW.out.mono (Nat.le_trans HB.out.size HBQ.out.size))⟩
theorem dictBack_walk (s : Nat) (n : Int) (s2 : Nat) (n2 : Int) (va : Value) (l : List Ent) (va2 : Value) (l2 : List Ent) (self : Bool) (hss : s < 18446744073709551616) (hss2 : s2 < 18446744073709551616) (w : World) (hl : Prs w va l) (hl2 : Prs w va2 l2) (hT : Tab6 w) :
    Calls Tryd.prog 8 #[.agg #[.int .u64 (s : Int), .int .i64 n], .agg #[.int .u64 (s2 : Int), .int .i64 n2], va, va2, .bool self] w fun e w' => e = .returned (.bool true) ∧ Below w.heap.size w w' := dictBack_of s n s2 n2 va va2 l l2 self w hss hss2 hl hl2 hT
end Go.Proofs.YtnnlfgfgfegjkaaDoor
