/- Layer 10's law DictJoins. (written by tools/gen10/joins.py) -/
import Derived.Test.YtnnlfgfgfegjkaaDoorLaw10B
namespace Go.Proofs.YtnnlfgfgfegjkaaDoor
open Go.RowKit
set_option maxRecDepth 1000000
set_option linter.unusedSimpArgs false

set_option maxHeartbeats 8000000 in
theorem dictJoins_of (s : Nat) (n : Int) (s2 : Nat) (n2 : Int) (va va2 : Value) (l l2 : List Ent) (lo hi : ByteArray) (w : World) (hss : s < 18446744073709551616) (hss2 : s2 < 18446744073709551616) (hl : Prs w va l) (hl2 : Prs w va2 l2) (hT : Tab6 w) :
    Calls Tryd.prog 5 #[.agg #[.int .u64 (s : Int), .int .i64 n], .agg #[.int .u64 (s2 : Int), .int .i64 n2], va, va2, .string lo, .string hi] w fun e w' => e = .returned (.bool true) ∧ Below w.heap.size w w' := by
  have HTB := Lib.hid (fun W (h : Below w.heap.size w W) => hT.below h)
  have HFEW := Lib.hid (fun W (h : Below w.heap.size w W) => few10 va l W (hl.later h))
  have HFEW2 := Lib.hid (fun W (h : Below w.heap.size w W) => few10 va2 l2 W (hl2.later h))
  obtain ⟨w0, hw0⟩ : ∃ w0, (w.alloc (.cells #[.int .u64 (s : Int), .int .i64 n] 24)).alloc (.cells #[.int .u64 (s2 : Int), .int .i64 n2] 24) = w0 := ⟨_, rfl⟩
  obtain ⟨hb0, hx0, hy0, hs0⟩ := two_newG hw0
  have HC := Lib.hid hx0
  have HC2 := Lib.hid hy0
  have HB := Lib.hid hb0
  clear hT hb0 hx0 hy0 hs0
  by_cases hf1 : few10B l = true
  case neg =>
    rw [show few10B l = false by simpa using hf1] at HFEW
    clear hl hl2
    go_enter Tryd.func5, Tryd.ntmps5
    go_upto_region 1 with fail
    clear hw0
    go_wp2_with (first
      | (go_at_call 11; (with_reducible refine (live10 _ (HTB.out _ HB.out)).mono ?_); rintro e w1 ⟨rfl, hb⟩; replace HC := Lib.hid ((hb.block _ (Array.getElem?_eq_some_iff.1 HC.out).1).trans HC.out); replace HC2 := Lib.hid ((hb.block _ (Array.getElem?_eq_some_iff.1 HC2.out).1).trans HC2.out); replace HB := Lib.hid (HB.out.trans (hb.mono HB.out.size)); clear hb)
      | (go_at_call 12; (with_reducible refine (HFEW.out _ HB.out).mono ?_); rintro e w1 ⟨rfl, hb⟩; replace HC := Lib.hid ((hb.block _ (Array.getElem?_eq_some_iff.1 HC.out).1).trans HC.out); replace HC2 := Lib.hid ((hb.block _ (Array.getElem?_eq_some_iff.1 HC2.out).1).trans HC2.out); replace HB := Lib.hid (HB.out.trans (hb.mono HB.out.size)); clear hb)
      | (go_at_call 12; (with_reducible refine (HFEW2.out _ HB.out).mono ?_); rintro e w1 ⟨rfl, hb⟩; replace HC := Lib.hid ((hb.block _ (Array.getElem?_eq_some_iff.1 HC.out).1).trans HC.out); replace HC2 := Lib.hid ((hb.block _ (Array.getElem?_eq_some_iff.1 HC2.out).1).trans HC2.out); replace HB := Lib.hid (HB.out.trans (hb.mono HB.out.size)); clear hb))
    go_ret
    exact ⟨rfl, HB.out⟩
  have HF := Lib.hid (few10_prs hf1)
  rw [hf1] at HFEW
  clear hf1
  by_cases hf2 : few10B l2 = true
  case neg =>
    rw [show few10B l2 = false by simpa using hf2] at HFEW2
    clear hl hl2
    go_enter Tryd.func5, Tryd.ntmps5
    go_upto_region 1 with fail
    clear hw0
    go_wp2_with (first
      | (go_at_call 11; (with_reducible refine (live10 _ (HTB.out _ HB.out)).mono ?_); rintro e w1 ⟨rfl, hb⟩; replace HC := Lib.hid ((hb.block _ (Array.getElem?_eq_some_iff.1 HC.out).1).trans HC.out); replace HC2 := Lib.hid ((hb.block _ (Array.getElem?_eq_some_iff.1 HC2.out).1).trans HC2.out); replace HB := Lib.hid (HB.out.trans (hb.mono HB.out.size)); clear hb)
      | (go_at_call 12; (with_reducible refine (HFEW.out _ HB.out).mono ?_); rintro e w1 ⟨rfl, hb⟩; replace HC := Lib.hid ((hb.block _ (Array.getElem?_eq_some_iff.1 HC.out).1).trans HC.out); replace HC2 := Lib.hid ((hb.block _ (Array.getElem?_eq_some_iff.1 HC2.out).1).trans HC2.out); replace HB := Lib.hid (HB.out.trans (hb.mono HB.out.size)); clear hb)
      | (go_at_call 12; (with_reducible refine (HFEW2.out _ HB.out).mono ?_); rintro e w1 ⟨rfl, hb⟩; replace HC := Lib.hid ((hb.block _ (Array.getElem?_eq_some_iff.1 HC.out).1).trans HC.out); replace HC2 := Lib.hid ((hb.block _ (Array.getElem?_eq_some_iff.1 HC2.out).1).trans HC2.out); replace HB := Lib.hid (HB.out.trans (hb.mono HB.out.size)); clear hb))
    go_ret
    exact ⟨rfl, HB.out⟩
  have HF2 := Lib.hid (few10_prs hf2)
  rw [hf2] at HFEW2
  clear hf2
  by_cases hk1 : (lo.size : Int) ≤ 200
  case neg =>
    have hk3 : (200 : Int) < (lo.size : Int) := by omega
    clear hk1
    clear hl hl2
    go_enter Tryd.func5, Tryd.ntmps5
    go_upto_region 1 with fail
    clear hw0
    go_wp2_with (first
      | (go_at_call 11; (with_reducible refine (live10 _ (HTB.out _ HB.out)).mono ?_); rintro e w1 ⟨rfl, hb⟩; replace HC := Lib.hid ((hb.block _ (Array.getElem?_eq_some_iff.1 HC.out).1).trans HC.out); replace HC2 := Lib.hid ((hb.block _ (Array.getElem?_eq_some_iff.1 HC2.out).1).trans HC2.out); replace HB := Lib.hid (HB.out.trans (hb.mono HB.out.size)); clear hb)
      | (go_at_call 12; (with_reducible refine (HFEW.out _ HB.out).mono ?_); rintro e w1 ⟨rfl, hb⟩; replace HC := Lib.hid ((hb.block _ (Array.getElem?_eq_some_iff.1 HC.out).1).trans HC.out); replace HC2 := Lib.hid ((hb.block _ (Array.getElem?_eq_some_iff.1 HC2.out).1).trans HC2.out); replace HB := Lib.hid (HB.out.trans (hb.mono HB.out.size)); clear hb)
      | (go_at_call 12; (with_reducible refine (HFEW2.out _ HB.out).mono ?_); rintro e w1 ⟨rfl, hb⟩; replace HC := Lib.hid ((hb.block _ (Array.getElem?_eq_some_iff.1 HC.out).1).trans HC.out); replace HC2 := Lib.hid ((hb.block _ (Array.getElem?_eq_some_iff.1 HC2.out).1).trans HC2.out); replace HB := Lib.hid (HB.out.trans (hb.mono HB.out.size)); clear hb))
    go_ret
    exact ⟨rfl, HB.out⟩
  by_cases hk2 : (hi.size : Int) ≤ 200
  case neg =>
    have hk3 : (200 : Int) < (hi.size : Int) := by omega
    clear hk2
    clear hl hl2
    go_enter Tryd.func5, Tryd.ntmps5
    go_upto_region 1 with fail
    clear hw0
    go_wp2_with (first
      | (go_at_call 11; (with_reducible refine (live10 _ (HTB.out _ HB.out)).mono ?_); rintro e w1 ⟨rfl, hb⟩; replace HC := Lib.hid ((hb.block _ (Array.getElem?_eq_some_iff.1 HC.out).1).trans HC.out); replace HC2 := Lib.hid ((hb.block _ (Array.getElem?_eq_some_iff.1 HC2.out).1).trans HC2.out); replace HB := Lib.hid (HB.out.trans (hb.mono HB.out.size)); clear hb)
      | (go_at_call 12; (with_reducible refine (HFEW.out _ HB.out).mono ?_); rintro e w1 ⟨rfl, hb⟩; replace HC := Lib.hid ((hb.block _ (Array.getElem?_eq_some_iff.1 HC.out).1).trans HC.out); replace HC2 := Lib.hid ((hb.block _ (Array.getElem?_eq_some_iff.1 HC2.out).1).trans HC2.out); replace HB := Lib.hid (HB.out.trans (hb.mono HB.out.size)); clear hb)
      | (go_at_call 12; (with_reducible refine (HFEW2.out _ HB.out).mono ?_); rintro e w1 ⟨rfl, hb⟩; replace HC := Lib.hid ((hb.block _ (Array.getElem?_eq_some_iff.1 HC.out).1).trans HC.out); replace HC2 := Lib.hid ((hb.block _ (Array.getElem?_eq_some_iff.1 HC2.out).1).trans HC2.out); replace HB := Lib.hid (HB.out.trans (hb.mono HB.out.size)); clear hb))
    go_ret
    exact ⟨rfl, HB.out⟩
  have HMD := Lib.hid (fun W (h : Below w.heap.size w W) => made10 W s hss n va l (hl.later h) HF.out.1 (by have := HF.out.2; omega) (HTB.out _ h))
  have HMD2 := Lib.hid (fun W (h : Below w.heap.size w W) => made10 W s2 hss2 n2 va2 l2 (hl2.later h) HF2.out.1 (by have := HF2.out.2; omega) (HTB.out _ h))
  clear hl hl2
  go_enter Tryd.func5, Tryd.ntmps5
  go_upto_region 1 with fail
  clear hw0
  go_upto_region 4 with (first
    | (go_at_call 11; (with_reducible refine (live10 _ (HTB.out _ HB.out)).mono ?_); rintro e w1 ⟨rfl, hb⟩; replace HC := Lib.hid ((hb.block _ (Array.getElem?_eq_some_iff.1 HC.out).1).trans HC.out); replace HC2 := Lib.hid ((hb.block _ (Array.getElem?_eq_some_iff.1 HC2.out).1).trans HC2.out); replace HB := Lib.hid (HB.out.trans (hb.mono HB.out.size)); clear hb)
    | (go_at_call 12; (with_reducible refine (HFEW.out _ HB.out).mono ?_); rintro e w1 ⟨rfl, hb⟩; replace HC := Lib.hid ((hb.block _ (Array.getElem?_eq_some_iff.1 HC.out).1).trans HC.out); replace HC2 := Lib.hid ((hb.block _ (Array.getElem?_eq_some_iff.1 HC2.out).1).trans HC2.out); replace HB := Lib.hid (HB.out.trans (hb.mono HB.out.size)); clear hb)
    | (go_at_call 12; (with_reducible refine (HFEW2.out _ HB.out).mono ?_); rintro e w1 ⟨rfl, hb⟩; replace HC := Lib.hid ((hb.block _ (Array.getElem?_eq_some_iff.1 HC.out).1).trans HC.out); replace HC2 := Lib.hid ((hb.block _ (Array.getElem?_eq_some_iff.1 HC2.out).1).trans HC2.out); replace HB := Lib.hid (HB.out.trans (hb.mono HB.out.size)); clear hb)
    | (refine ld_if (by rfl) 24 _ rfl w.heap.size rfl 24 _ _ _ HC.out Tryd.underlying24 rfl (by exact api_size) ?_)
    | (go_at_call 13; (with_reducible refine (HMD.out _ HB.out).mono ?_); rintro e wm ⟨cm, cw, rfl, hm, hw, hb⟩; replace HC := Lib.hid ((hb.block _ (Array.getElem?_eq_some_iff.1 HC.out).1).trans HC.out); replace HC2 := Lib.hid ((hb.block _ (Array.getElem?_eq_some_iff.1 HC2.out).1).trans HC2.out); replace HB := Lib.hid (HB.out.trans (hb.mono HB.out.size)); have HMA := Lib.hid hm; have HWA := Lib.hid hw; have HZM := Lib.hid hm.size; have HZW := Lib.hid hw.size; have HLW : Hid (w.heap.size + 2 ≤ wm.heap.size) := (by show _ ≤ _; have h0 := (Array.getElem?_eq_some_iff.1 HC2.out).1; omega); clear hm hw hb)
    | (refine st_agg rfl 36 _ _ rfl wm.heap.size cm rfl rfl 36 mapZ (two_newG rfl).2.1 (by rw [HZM.out]; exact map_size) (by rw [HZM.out]; rfl) HMA.out.one ?_; intro w4 h4 k4; have hb4 : Below wm.heap.size wm w4 := (two_newG rfl).1.trans (k4.below (Nat.le_refl _)); have HY : Hid (w4.heap[wm.heap.size + 1]? = some (.cells refZ 40 (0, 0))) := k4.other (two_newG rfl).2.2.1 (by omega); replace HC := Lib.hid ((hb4.block _ (Array.getElem?_eq_some_iff.1 HC.out).1).trans HC.out); replace HC2 := Lib.hid ((hb4.block _ (Array.getElem?_eq_some_iff.1 HC2.out).1).trans HC2.out); replace HB := Lib.hid (HB.out.trans (hb4.mono HB.out.size)); have HM : Hid (MB w4 s n (uniE l []) wm.heap.size) := ⟨cm, h4, HMA.out.later hb4⟩; replace HWA := Lib.hid (HWA.out.later hb4); clear h4 k4 hb4)
    | (refine st_agg rfl 40 _ _ rfl (wm.heap.size + 1) cw rfl rfl 40 refZ HY.out (by rw [HZW.out]; exact refm_size) (by rw [HZW.out]; rfl) HWA.out.one ?_; intro w5 h5 k5; have hlw : w.heap.size + 2 ≤ wm.heap.size := HLW.out; replace HC := Lib.hid (k5.other HC.out (by omega)); replace HC2 := Lib.hid (k5.other HC2.out (by omega)); replace HM := Lib.hid (HM.out.only k5 HY.out (by omega) (by decide)); replace HB := Lib.hid (HB.out.trans (k5.below (by omega))); have HN : Hid (RB w5 (uniE l []) (wm.heap.size + 1)) := RB.wrote h5 k5 HY.out HWA.out; clear h5 k5 hlw))
  go_upto_region 5 with (first
    | (refine ld_if (by rfl) 24 _ rfl (w.heap.size + 1) rfl 24 _ _ _ HC2.out Tryd.underlying24 rfl (by exact api_size) ?_)
    | (go_at_call 13; (with_reducible refine (HMD2.out _ HB.out).mono ?_); rintro e wm2 ⟨cm2, cw2, rfl, hm, hw, hb⟩; replace HC := Lib.hid ((hb.block _ (Array.getElem?_eq_some_iff.1 HC.out).1).trans HC.out); replace HC2 := Lib.hid ((hb.block _ (Array.getElem?_eq_some_iff.1 HC2.out).1).trans HC2.out); replace HM := Lib.hid (HM.out.later hb); replace HN := Lib.hid (HN.out.later hb); replace HB := Lib.hid (HB.out.trans (hb.mono HB.out.size)); have HMA2 := Lib.hid hm; have HWA2 := Lib.hid hw; have HZM2 := Lib.hid hm.size; have HZW2 := Lib.hid hw.size; have HLW2 : Hid (w.heap.size + 2 ≤ wm2.heap.size ∧ wm.heap.size + 1 < wm2.heap.size ∧ w.heap.size + 2 ≤ wm.heap.size) := (by show _ ∧ _ ∧ _; have h0 := (Array.getElem?_eq_some_iff.1 HC2.out).1; have h1 := HN.out.lt; have h2 := HLW.out; omega); clear hm hw hb)
    | (refine st_agg rfl 36 _ _ rfl wm2.heap.size cm2 rfl rfl 36 mapZ (two_newG rfl).2.1 (by rw [HZM2.out]; exact map_size) (by rw [HZM2.out]; rfl) HMA2.out.one ?_; intro w4 h4 k4; have hb4 : Below wm2.heap.size wm2 w4 := (two_newG rfl).1.trans (k4.below (Nat.le_refl _)); have HY2 : Hid (w4.heap[wm2.heap.size + 1]? = some (.cells refZ 40 (0, 0))) := k4.other (two_newG rfl).2.2.1 (by omega); replace HC := Lib.hid ((hb4.block _ (Array.getElem?_eq_some_iff.1 HC.out).1).trans HC.out); replace HC2 := Lib.hid ((hb4.block _ (Array.getElem?_eq_some_iff.1 HC2.out).1).trans HC2.out); replace HM := Lib.hid (HM.out.later hb4); replace HN := Lib.hid (HN.out.later hb4); replace HB := Lib.hid (HB.out.trans (hb4.mono HB.out.size)); have HM2 : Hid (MB w4 s2 n2 (uniE l2 []) wm2.heap.size) := ⟨cm2, h4, HMA2.out.later hb4⟩; replace HWA2 := Lib.hid (HWA2.out.later hb4); clear h4 k4 hb4)
    | (refine st_agg rfl 40 _ _ rfl (wm2.heap.size + 1) cw2 rfl rfl 40 refZ HY2.out (by rw [HZW2.out]; exact refm_size) (by rw [HZW2.out]; rfl) HWA2.out.one ?_; intro w52 h5 k5; have hlw : w.heap.size + 2 ≤ wm2.heap.size ∧ wm.heap.size + 1 < wm2.heap.size ∧ w.heap.size + 2 ≤ wm.heap.size := HLW2.out; replace HC := Lib.hid (k5.other HC.out (by omega)); replace HC2 := Lib.hid (k5.other HC2.out (by omega)); replace HM := Lib.hid (HM.out.only k5 HY2.out (by omega) (by decide)); replace HN := Lib.hid (HN.out.only k5 HY2.out (by omega) (by decide) (by decide)); replace HM2 := Lib.hid (HM2.out.only k5 HY2.out (by omega) (by decide)); replace HB := Lib.hid (HB.out.trans (k5.below (by omega))); have HN2 : Hid (RB w52 (uniE l2 []) (wm2.heap.size + 1)) := RB.wrote h5 k5 HY2.out HWA2.out; clear h5 k5 hlw))
  obtain ⟨cm, hxm, hmm⟩ := HM.out
  obtain ⟨cn, hxn, hmn⟩ := HN.out
  have HXM := Lib.hid hxm
  have HXN := Lib.hid hxn
  have HML := Lib.hid hmm
  have HRL := Lib.hid hmn
  have HZM := Lib.hid hmm.size
  have HZN := Lib.hid hmn.size
  clear hxm hxn hmm hmn HM HN
  obtain ⟨cm2, hxm, hmm⟩ := HM2.out
  obtain ⟨cn2, hxn, hmn⟩ := HN2.out
  have HXM2 := Lib.hid hxm
  have HXN2 := Lib.hid hxn
  have HML2 := Lib.hid hmm
  have HRL2 := Lib.hid hmn
  have HZM2 := Lib.hid hmm.size
  have HZN2 := Lib.hid hmn.size
  clear hxm hxn hmm hmn HM2 HN2
  have HRI : Hid (Rise (uniE l []) ∧ Rise (uniE l2 [])) := ⟨uni_rise Rise.nil l, uni_rise Rise.nil l2⟩
  have HSH : Hid (Short (uniE l []) ∧ Short (uniE l2 [])) := ⟨short_uni (A := l) (fun e he => HF.out.1 e he) short_nil, short_uni (A := l2) (fun e he => HF2.out.1 e he) short_nil⟩
  have HLN : Hid ((uniE l []).length ≤ 80 ∧ (uniE l2 []).length ≤ 80) := by
    show _ ∧ _
    have h := uni_len Rise.nil l
    have h2 := uni_len Rise.nil l2
    rw [List.length_nil] at h h2
    have := HF.out.2
    have := HF2.out.2
    omega
  obtain ⟨A, hA⟩ : ∃ D, D = uniE l [] := ⟨_, rfl⟩
  obtain ⟨B, hB⟩ : ∃ D, D = uniE l2 [] := ⟨_, rfl⟩
  rw [← hA] at HML HRL HRI HSH HLN
  rw [← hB] at HML2 HRL2 HRI HSH HLN
  clear hA hB
  have HSA : Hid (∀ e ∈ A, e.1.size ≤ 9223372036854775800) := fun e he => by have := HSH.out.1 e he; omega
  have HSB : Hid (∀ e ∈ B, e.1.size ≤ 9223372036854775800) := fun e he => by have := HSH.out.2 e he; omega
  have HUN := Lib.hid (fun W (hb : Below w52.heap.size w52 W) => dc_Union W s hss n A cm s2 n2 B cm2 (HML.out.later hb) (HML2.out.later hb) HRI.out.1 HRI.out.2 (by have := HLN.out; omega) HSB.out (HTB.out _ (HB.out.trans (hb.mono HB.out.size))))
  have HRU := Lib.hid (fun W (hb : Below w52.heap.size w52 W) => rf_Union W cn cn2 A B (HRL.out.later hb) (HRL2.out.later hb) HRI.out.2 HSH.out.1 HSH.out.2 (by have := HLN.out; omega) (by have := HLN.out; omega))
  have HME := Lib.hid (fun W (hb : Below w52.heap.size w52 W) => dc_Meet W s hss n A cm s2 hss2 n2 B cm2 (HML.out.later hb) (HML2.out.later hb) HRI.out.1 HRI.out.2 (by have := HLN.out; omega) (by have := HLN.out; omega) HSA.out (HTB.out _ (HB.out.trans (hb.mono HB.out.size))))
  have HRM := Lib.hid (fun W (hb : Below w52.heap.size w52 W) => rf_Meet W cn cn2 A B (HRL.out.later hb) (HRL2.out.later hb) HRI.out.1 HRI.out.2 HSH.out.1 HSH.out.2 (by have := HLN.out; omega) (by have := HLN.out; omega))
  have HLE := Lib.hid (fun W (hb : Below w52.heap.size w52 W) => dc_Less W s hss n A cm s2 hss2 n2 B cm2 (HML.out.later hb) (HML2.out.later hb) HRI.out.1 HRI.out.2 (by have := HLN.out; omega) (by have := HLN.out; omega) HSA.out (HTB.out _ (HB.out.trans (hb.mono HB.out.size))))
  have HRE := Lib.hid (fun W (hb : Below w52.heap.size w52 W) => rf_Less W cn cn2 A B (HRL.out.later hb) (HRL2.out.later hb) HRI.out.1 HRI.out.2 HSH.out.1 HSH.out.2 (by have := HLN.out; omega) (by have := HLN.out; omega))
  have HKS : Hid (∀ V, Below w52.heap.size w52 V → V.heap[wm.heap.size]? = some (.cells cm 36 (0, 0)) ∧ V.heap[(wm.heap.size + 1)]? = some (.cells cn 40 (0, 0)) ∧ V.heap[wm2.heap.size]? = some (.cells cm2 36 (0, 0)) ∧ V.heap[(wm2.heap.size + 1)]? = some (.cells cn2 40 (0, 0)) ∧ V.heap[w.heap.size]? = some (.cells #[.int .u64 (s : Int), .int .i64 n] 24 (0, 0)) ∧ V.heap[(w.heap.size + 1)]? = some (.cells #[.int .u64 (s2 : Int), .int .i64 n2] 24 (0, 0))) := fun V hV => ⟨(hV.block _ (Array.getElem?_eq_some_iff.1 HXM.out).1).trans HXM.out, (hV.block _ (Array.getElem?_eq_some_iff.1 HXN.out).1).trans HXN.out, (hV.block _ (Array.getElem?_eq_some_iff.1 HXM2.out).1).trans HXM2.out, (hV.block _ (Array.getElem?_eq_some_iff.1 HXN2.out).1).trans HXN2.out, (hV.block _ (Array.getElem?_eq_some_iff.1 HC.out).1).trans HC.out, (hV.block _ (Array.getElem?_eq_some_iff.1 HC2.out).1).trans HC2.out⟩
  have HW : Hid (Below w52.heap.size w52 w52.drew) := drawn_below w52
  refine wp_region_T (S := (fun V => V.heap[wm.heap.size]? = some (.cells cm 36 (0, 0)) ∧ V.heap[(wm.heap.size + 1)]? = some (.cells cn 40 (0, 0)) ∧ V.heap[wm2.heap.size]? = some (.cells cm2 36 (0, 0)) ∧ V.heap[(wm2.heap.size + 1)]? = some (.cells cn2 40 (0, 0)) ∧ V.heap[w.heap.size]? = some (.cells #[.int .u64 (s : Int), .int .i64 n] 24 (0, 0)) ∧ V.heap[(w.heap.size + 1)]? = some (.cells #[.int .u64 (s2 : Int), .int .i64 n2] 24 (0, 0)))) [] (by kernel_rfl) (by exact HKS.out _ HW.out) (fun hHeld => ?_)
  refine wpAnyT_take (i := 0) (oi := ⟨some 52, _, _, _, _, _⟩) (v := _) rfl (by kernel_rfl) (by kernel_rfl) (by kernel_rfl) (by kernel_rfl) (fun _ _ _ h => h) (yieldsIf_load_row (by rfl) 36 _ rfl wm.heap.size rfl cm 36 (0, 0) _ (fun w hw => hw.1) Tryd.underlying36 rfl (by rw [HZM.out]; exact map_size)) (by assumption) ?_
  (try simp only [Act.put, List.setIfInBounds_toArray, List.set_cons_zero, List.set_cons_succ])
  refine wpAnyT_take (i := 1) (oi := ⟨some 53, _, _, _, _, _⟩) (v := _) rfl (by kernel_rfl) (by kernel_rfl) (by kernel_rfl) (by kernel_rfl) (fun _ _ _ h => h) (yieldsIf_load_row (by rfl) 36 _ rfl wm2.heap.size rfl cm2 36 (0, 0) _ (fun w hw => hw.2.2.1) Tryd.underlying36 rfl (by rw [HZM2.out]; exact map_size)) (by assumption) ?_
  (try simp only [Act.put, List.setIfInBounds_toArray, List.set_cons_zero, List.set_cons_succ])
  refine wpAnyT_take (i := 3) (oi := ⟨some 55, _, _, _, _, _⟩) (v := _) rfl (by kernel_rfl) (by kernel_rfl) (by kernel_rfl) (by kernel_rfl) (fun _ _ _ h => h) (yieldsIf_load_row (by rfl) 24 _ rfl w.heap.size rfl #[.int .u64 (s : Int), .int .i64 n] 24 (0, 0) _ (fun w hw => hw.2.2.2.2.1) Tryd.underlying24 rfl (by exact api_size)) (by assumption) ?_
  (try simp only [Act.put, List.setIfInBounds_toArray, List.set_cons_zero, List.set_cons_succ])
  refine wpAnyT_take (i := 4) (oi := ⟨some 56, _, _, _, _, _⟩) (v := _) rfl (by kernel_rfl) (by kernel_rfl) (by kernel_rfl) (by kernel_rfl) (fun _ _ _ h => h) (yieldsIf_load_row (by rfl) 40 _ rfl (wm.heap.size + 1) rfl cn 40 (0, 0) _ (fun w hw => hw.2.1) Tryd.underlying40 rfl (by rw [HZN.out]; exact refm_size)) (by assumption) ?_
  (try simp only [Act.put, List.setIfInBounds_toArray, List.set_cons_zero, List.set_cons_succ])
  refine wpAnyT_take (i := 5) (oi := ⟨some 57, _, _, _, _, _⟩) (v := _) rfl (by kernel_rfl) (by kernel_rfl) (by kernel_rfl) (by kernel_rfl) (fun _ _ _ h => h) (yieldsIf_load_row (by rfl) 40 _ rfl (wm2.heap.size + 1) rfl cn2 40 (0, 0) _ (fun w hw => hw.2.2.2.1) Tryd.underlying40 rfl (by rw [HZN2.out]; exact refm_size)) (by assumption) ?_
  (try simp only [Act.put, List.setIfInBounds_toArray, List.set_cons_zero, List.set_cons_succ])
  refine wpAnyT_one (i := 2) (o := ⟨some 54, _, _, _, _, _⟩) (by kernel_rfl) rfl (fun K hK => ?_)
  go_simp
  go_at_call 25
  (with_reducible refine (HUN.out _ HW.out).mono ?_)
  rintro r w3 ⟨cu, rfl, hu, hb⟩
  have HU := Lib.hid hu
  replace HW := Lib.hid (HW.out.trans (hb.mono HW.out.size))
  clear hb
  clear hu
  dsimp only
  refine hK.out _ _ (by exact HKS.out _ HW.out) (fun hHeld => ?_)
  clear hK K
  (try simp only [Act.put, List.setIfInBounds_toArray, List.set_cons_zero, List.set_cons_succ])
  refine wpAnyT_one (i := 6) (o := ⟨some 58, _, _, _, _, _⟩) (by kernel_rfl) rfl (fun K hK => ?_)
  go_simp
  go_at_call 26
  (with_reducible refine (HRU.out _ HW.out).mono ?_)
  rintro r w3 ⟨cv, rfl, hv, hb⟩
  have HV := Lib.hid hv
  replace HU := Lib.hid (HU.out.later hb)
  replace HW := Lib.hid (HW.out.trans (hb.mono HW.out.size))
  clear hb
  clear hv
  dsimp only
  refine hK.out _ _ (by exact HKS.out _ HW.out) (fun hHeld => ?_)
  clear hK K
  (try simp only [Act.put, List.setIfInBounds_toArray, List.set_cons_zero, List.set_cons_succ])
  refine wpAnyT_one (i := 7) (o := ⟨some 59, _, _, _, _, _⟩) (by kernel_rfl) rfl (fun K hK => ?_)
  go_simp
  go_at_call 24
  (with_reducible refine (same10 _ s hss n (uniE A B) cu cv (HU.out) (HV.out) (uni_rise HRI.out.2 A) (short_uni HSH.out.1 HSH.out.2) (by have := HLN.out; have h := uni_len HRI.out.2 A; omega) (HTB.out _ (HB.out.trans (HW.out.mono HB.out.size)))).mono ?_)
  rintro r w3 ⟨rfl, hb⟩
  replace HW := Lib.hid (HW.out.trans (hb.mono HW.out.size))
  clear hb
  dsimp only
  refine hK.out _ _ (by exact HKS.out _ HW.out) (fun hHeld => ?_)
  clear hK K
  (try simp only [Act.put, List.setIfInBounds_toArray, List.set_cons_zero, List.set_cons_succ])
  refine wpAnyT_take (i := 8) (oi := ⟨some 60, _, _, _, _, _⟩) (v := ?vg1_8) rfl (by kernel_rfl) (by kernel_rfl) (by kernel_rfl) (by kernel_rfl) (fun _ _ _ h => h) (Or.inl ⟨by rfl, ?hg1_8⟩) (by assumption) ?rg1_8
  case hg1_8 => (intro w hSw; (try dsimp only at hSw); first | (go_simp; done) | (go_simp; with_reducible rfl))
  (try simp only [Act.put, List.setIfInBounds_toArray, List.set_cons_zero, List.set_cons_succ])
  refine wpAnyT_take (i := 9) (oi := ⟨some 61, _, _, _, _, _⟩) (v := ?vg1_9) rfl (by kernel_rfl) (by kernel_rfl) (by kernel_rfl) (by kernel_rfl) (fun _ _ _ h => h) (Or.inl ⟨by rfl, ?hg1_9⟩) (by assumption) ?rg1_9
  case hg1_9 => (intro w hSw; (try dsimp only at hSw); first | (go_simp; done) | (go_simp; with_reducible rfl))
  (try simp only [Act.put, List.setIfInBounds_toArray, List.set_cons_zero, List.set_cons_succ])
  refine wpAnyT_take (i := 10) (oi := ⟨some 62, _, _, _, _, _⟩) (v := _) rfl (by kernel_rfl) (by kernel_rfl) (by kernel_rfl) (by kernel_rfl) (fun _ _ _ h => h) (yieldsIf_load_row (by rfl) 36 _ rfl wm.heap.size rfl cm 36 (0, 0) _ (fun w hw => hw.1) Tryd.underlying36 rfl (by rw [HZM.out]; exact map_size)) (by assumption) ?_
  (try simp only [Act.put, List.setIfInBounds_toArray, List.set_cons_zero, List.set_cons_succ])
  refine wpAnyT_take (i := 11) (oi := ⟨some 63, _, _, _, _, _⟩) (v := _) rfl (by kernel_rfl) (by kernel_rfl) (by kernel_rfl) (by kernel_rfl) (fun _ _ _ h => h) (yieldsIf_load_row (by rfl) 36 _ rfl wm2.heap.size rfl cm2 36 (0, 0) _ (fun w hw => hw.2.2.1) Tryd.underlying36 rfl (by rw [HZM2.out]; exact map_size)) (by assumption) ?_
  (try simp only [Act.put, List.setIfInBounds_toArray, List.set_cons_zero, List.set_cons_succ])
  refine wpAnyT_take (i := 13) (oi := ⟨some 65, _, _, _, _, _⟩) (v := _) rfl (by kernel_rfl) (by kernel_rfl) (by kernel_rfl) (by kernel_rfl) (fun _ _ _ h => h) (yieldsIf_load_row (by rfl) 24 _ rfl w.heap.size rfl #[.int .u64 (s : Int), .int .i64 n] 24 (0, 0) _ (fun w hw => hw.2.2.2.2.1) Tryd.underlying24 rfl (by exact api_size)) (by assumption) ?_
  (try simp only [Act.put, List.setIfInBounds_toArray, List.set_cons_zero, List.set_cons_succ])
  refine wpAnyT_take (i := 14) (oi := ⟨some 66, _, _, _, _, _⟩) (v := _) rfl (by kernel_rfl) (by kernel_rfl) (by kernel_rfl) (by kernel_rfl) (fun _ _ _ h => h) (yieldsIf_load_row (by rfl) 40 _ rfl (wm.heap.size + 1) rfl cn 40 (0, 0) _ (fun w hw => hw.2.1) Tryd.underlying40 rfl (by rw [HZN.out]; exact refm_size)) (by assumption) ?_
  (try simp only [Act.put, List.setIfInBounds_toArray, List.set_cons_zero, List.set_cons_succ])
  refine wpAnyT_take (i := 15) (oi := ⟨some 67, _, _, _, _, _⟩) (v := _) rfl (by kernel_rfl) (by kernel_rfl) (by kernel_rfl) (by kernel_rfl) (fun _ _ _ h => h) (yieldsIf_load_row (by rfl) 40 _ rfl (wm2.heap.size + 1) rfl cn2 40 (0, 0) _ (fun w hw => hw.2.2.2.1) Tryd.underlying40 rfl (by rw [HZN2.out]; exact refm_size)) (by assumption) ?_
  (try simp only [Act.put, List.setIfInBounds_toArray, List.set_cons_zero, List.set_cons_succ])
  refine wpAnyT_one (i := 12) (o := ⟨some 64, _, _, _, _, _⟩) (by kernel_rfl) rfl (fun K hK => ?_)
  go_simp
  go_at_call 27
  (with_reducible refine (HME.out _ HW.out).mono ?_)
  rintro r w3 ⟨cu, rfl, hu, hb⟩
  have HU := Lib.hid hu
  replace HW := Lib.hid (HW.out.trans (hb.mono HW.out.size))
  clear hb
  clear hu
  dsimp only
  refine hK.out _ _ (by exact HKS.out _ HW.out) (fun hHeld => ?_)
  clear hK K
  (try simp only [Act.put, List.setIfInBounds_toArray, List.set_cons_zero, List.set_cons_succ])
  refine wpAnyT_one (i := 16) (o := ⟨some 68, _, _, _, _, _⟩) (by kernel_rfl) rfl (fun K hK => ?_)
  go_simp
  go_at_call 28
  (with_reducible refine (HRM.out _ HW.out).mono ?_)
  rintro r w3 ⟨cv, rfl, hv, hb⟩
  have HV := Lib.hid hv
  replace HU := Lib.hid (HU.out.later hb)
  replace HW := Lib.hid (HW.out.trans (hb.mono HW.out.size))
  clear hb
  clear hv
  dsimp only
  refine hK.out _ _ (by exact HKS.out _ HW.out) (fun hHeld => ?_)
  clear hK K
  (try simp only [Act.put, List.setIfInBounds_toArray, List.set_cons_zero, List.set_cons_succ])
  refine wpAnyT_one (i := 17) (o := ⟨some 69, _, _, _, _, _⟩) (by kernel_rfl) rfl (fun K hK => ?_)
  go_simp
  go_at_call 24
  (with_reducible refine (same10 _ s hss n (A.filter (hasE B)) cu cv (HU.out) (HV.out) (HRI.out.1.filter _) (short_filter HSH.out.1 _) (by have := HLN.out; exact Nat.le_trans (List.length_filter_le _ _) (by omega)) (HTB.out _ (HB.out.trans (HW.out.mono HB.out.size)))).mono ?_)
  rintro r w3 ⟨rfl, hb⟩
  replace HW := Lib.hid (HW.out.trans (hb.mono HW.out.size))
  clear hb
  dsimp only
  refine hK.out _ _ (by exact HKS.out _ HW.out) (fun hHeld => ?_)
  clear hK K
  (try simp only [Act.put, List.setIfInBounds_toArray, List.set_cons_zero, List.set_cons_succ])
  refine wpAnyT_take (i := 18) (oi := ⟨some 70, _, _, _, _, _⟩) (v := ?vg1_18) rfl (by kernel_rfl) (by kernel_rfl) (by kernel_rfl) (by kernel_rfl) (fun _ _ _ h => h) (Or.inl ⟨by rfl, ?hg1_18⟩) (by assumption) ?rg1_18
  case hg1_18 => (intro w hSw; (try dsimp only at hSw); first | (go_simp; done) | (go_simp; with_reducible rfl))
  (try simp only [Act.put, List.setIfInBounds_toArray, List.set_cons_zero, List.set_cons_succ])
  refine wpAnyT_take (i := 19) (oi := ⟨some 71, _, _, _, _, _⟩) (v := ?vg1_19) rfl (by kernel_rfl) (by kernel_rfl) (by kernel_rfl) (by kernel_rfl) (fun _ _ _ h => h) (Or.inl ⟨by rfl, ?hg1_19⟩) (by assumption) ?rg1_19
  case hg1_19 => (intro w hSw; (try dsimp only at hSw); first | (go_simp; done) | (go_simp; with_reducible rfl))
  (try simp only [Act.put, List.setIfInBounds_toArray, List.set_cons_zero, List.set_cons_succ])
  refine wpAnyT_take (i := 20) (oi := ⟨some 72, _, _, _, _, _⟩) (v := ?vg1_20) rfl (by kernel_rfl) (by kernel_rfl) (by kernel_rfl) (by kernel_rfl) (fun _ _ _ h => h) (Or.inl ⟨by rfl, ?hg1_20⟩) (by assumption) ?rg1_20
  case hg1_20 => (intro w hSw; (try dsimp only at hSw); first | (go_simp; done) | (go_simp; with_reducible rfl))
  (try simp only [Act.put, List.setIfInBounds_toArray, List.set_cons_zero, List.set_cons_succ])
  refine wpAnyT_take (i := 21) (oi := ⟨some 73, _, _, _, _, _⟩) (v := _) rfl (by kernel_rfl) (by kernel_rfl) (by kernel_rfl) (by kernel_rfl) (fun _ _ _ h => h) (yieldsIf_load_row (by rfl) 36 _ rfl wm.heap.size rfl cm 36 (0, 0) _ (fun w hw => hw.1) Tryd.underlying36 rfl (by rw [HZM.out]; exact map_size)) (by assumption) ?_
  (try simp only [Act.put, List.setIfInBounds_toArray, List.set_cons_zero, List.set_cons_succ])
  refine wpAnyT_take (i := 22) (oi := ⟨some 74, _, _, _, _, _⟩) (v := _) rfl (by kernel_rfl) (by kernel_rfl) (by kernel_rfl) (by kernel_rfl) (fun _ _ _ h => h) (yieldsIf_load_row (by rfl) 36 _ rfl wm2.heap.size rfl cm2 36 (0, 0) _ (fun w hw => hw.2.2.1) Tryd.underlying36 rfl (by rw [HZM2.out]; exact map_size)) (by assumption) ?_
  (try simp only [Act.put, List.setIfInBounds_toArray, List.set_cons_zero, List.set_cons_succ])
  refine wpAnyT_take (i := 24) (oi := ⟨some 76, _, _, _, _, _⟩) (v := _) rfl (by kernel_rfl) (by kernel_rfl) (by kernel_rfl) (by kernel_rfl) (fun _ _ _ h => h) (yieldsIf_load_row (by rfl) 24 _ rfl w.heap.size rfl #[.int .u64 (s : Int), .int .i64 n] 24 (0, 0) _ (fun w hw => hw.2.2.2.2.1) Tryd.underlying24 rfl (by exact api_size)) (by assumption) ?_
  (try simp only [Act.put, List.setIfInBounds_toArray, List.set_cons_zero, List.set_cons_succ])
  refine wpAnyT_take (i := 25) (oi := ⟨some 77, _, _, _, _, _⟩) (v := _) rfl (by kernel_rfl) (by kernel_rfl) (by kernel_rfl) (by kernel_rfl) (fun _ _ _ h => h) (yieldsIf_load_row (by rfl) 40 _ rfl (wm.heap.size + 1) rfl cn 40 (0, 0) _ (fun w hw => hw.2.1) Tryd.underlying40 rfl (by rw [HZN.out]; exact refm_size)) (by assumption) ?_
  (try simp only [Act.put, List.setIfInBounds_toArray, List.set_cons_zero, List.set_cons_succ])
  refine wpAnyT_take (i := 26) (oi := ⟨some 78, _, _, _, _, _⟩) (v := _) rfl (by kernel_rfl) (by kernel_rfl) (by kernel_rfl) (by kernel_rfl) (fun _ _ _ h => h) (yieldsIf_load_row (by rfl) 40 _ rfl (wm2.heap.size + 1) rfl cn2 40 (0, 0) _ (fun w hw => hw.2.2.2.1) Tryd.underlying40 rfl (by rw [HZN2.out]; exact refm_size)) (by assumption) ?_
  (try simp only [Act.put, List.setIfInBounds_toArray, List.set_cons_zero, List.set_cons_succ])
  refine wpAnyT_one (i := 23) (o := ⟨some 75, _, _, _, _, _⟩) (by kernel_rfl) rfl (fun K hK => ?_)
  go_simp
  go_at_call 29
  (with_reducible refine (HLE.out _ HW.out).mono ?_)
  rintro r w3 ⟨cu, rfl, hu, hb⟩
  have HU := Lib.hid hu
  replace HW := Lib.hid (HW.out.trans (hb.mono HW.out.size))
  clear hb
  clear hu
  dsimp only
  refine hK.out _ _ (by exact HKS.out _ HW.out) (fun hHeld => ?_)
  clear hK K
  (try simp only [Act.put, List.setIfInBounds_toArray, List.set_cons_zero, List.set_cons_succ])
  refine wpAnyT_one (i := 27) (o := ⟨some 79, _, _, _, _, _⟩) (by kernel_rfl) rfl (fun K hK => ?_)
  go_simp
  go_at_call 30
  (with_reducible refine (HRE.out _ HW.out).mono ?_)
  rintro r w3 ⟨cv, rfl, hv, hb⟩
  have HV := Lib.hid hv
  replace HU := Lib.hid (HU.out.later hb)
  replace HW := Lib.hid (HW.out.trans (hb.mono HW.out.size))
  clear hb
  clear hv
  dsimp only
  refine hK.out _ _ (by exact HKS.out _ HW.out) (fun hHeld => ?_)
  clear hK K
  (try simp only [Act.put, List.setIfInBounds_toArray, List.set_cons_zero, List.set_cons_succ])
  refine wpAnyT_one (i := 28) (o := ⟨some 80, _, _, _, _, _⟩) (by kernel_rfl) rfl (fun K hK => ?_)
  go_simp
  go_at_call 24
  (with_reducible refine (same10 _ s hss n (A.filter (fun e => !hasE B e)) cu cv (HU.out) (HV.out) (HRI.out.1.filter _) (short_filter HSH.out.1 _) (by have := HLN.out; exact Nat.le_trans (List.length_filter_le _ _) (by omega)) (HTB.out _ (HB.out.trans (HW.out.mono HB.out.size)))).mono ?_)
  rintro r w3 ⟨rfl, hb⟩
  replace HW := Lib.hid (HW.out.trans (hb.mono HW.out.size))
  clear hb
  dsimp only
  refine hK.out _ _ (by exact HKS.out _ HW.out) (fun hHeld => ?_)
  clear hK K
  (try simp only [Act.put, List.setIfInBounds_toArray, List.set_cons_zero, List.set_cons_succ])
  refine wpAnyT_take (i := 29) (oi := ⟨some 81, _, _, _, _, _⟩) (v := ?vg1_29) rfl (by kernel_rfl) (by kernel_rfl) (by kernel_rfl) (by kernel_rfl) (fun _ _ _ h => h) (Or.inl ⟨by rfl, ?hg1_29⟩) (by assumption) ?rg1_29
  case hg1_29 => (intro w hSw; (try dsimp only at hSw); first | (go_simp; done) | (go_simp; with_reducible rfl))
  (try simp only [Act.put, List.setIfInBounds_toArray, List.set_cons_zero, List.set_cons_succ])
  refine wpAnyT_take (i := 30) (oi := ⟨some 82, _, _, _, _, _⟩) (v := ?vg1_30) rfl (by kernel_rfl) (by kernel_rfl) (by kernel_rfl) (by kernel_rfl) (fun _ _ _ h => h) (Or.inl ⟨by rfl, ?hg1_30⟩) (by assumption) ?rg1_30
  case hg1_30 => (intro w hSw; (try dsimp only at hSw); first | (go_simp; done) | (go_simp; with_reducible rfl))
  (try simp only [Act.put, List.setIfInBounds_toArray, List.set_cons_zero, List.set_cons_succ])
  refine wpAnyT_done (by kernel_rfl) ?_ _
  clear hHeld HKS HUN HRU HME HRM HLE HRE HU HV
  replace HXM := Lib.hid ((HW.out.block _ (Array.getElem?_eq_some_iff.1 HXM.out).1).trans HXM.out)
  replace HXN := Lib.hid ((HW.out.block _ (Array.getElem?_eq_some_iff.1 HXN.out).1).trans HXN.out)
  replace HXM2 := Lib.hid ((HW.out.block _ (Array.getElem?_eq_some_iff.1 HXM2.out).1).trans HXM2.out)
  replace HXN2 := Lib.hid ((HW.out.block _ (Array.getElem?_eq_some_iff.1 HXN2.out).1).trans HXN2.out)
  replace HC := Lib.hid ((HW.out.block _ (Array.getElem?_eq_some_iff.1 HC.out).1).trans HC.out)
  replace HC2 := Lib.hid ((HW.out.block _ (Array.getElem?_eq_some_iff.1 HC2.out).1).trans HC2.out)
  replace HML := Lib.hid (HML.out.later HW.out)
  replace HRL := Lib.hid (HRL.out.later HW.out)
  replace HML2 := Lib.hid (HML2.out.later HW.out)
  replace HRL2 := Lib.hid (HRL2.out.later HW.out)
  replace HB := Lib.hid (HB.out.trans (HW.out.mono HB.out.size))
  go_upto_region 7 with fail
  obtain ⟨wz, hwz⟩ : ∃ wz, wz = w3 := ⟨_, rfl⟩
  rw [← hwz] at HXM HXN HXM2 HXN2 HC HC2 HML HRL HML2 HRL2 HB ⊢
  clear HW
  have HBE := Lib.hid (fun W (hb : Below wz.heap.size wz W) => dc_Between W s hss n A cm lo hi (HML.out.later hb) HRI.out.1 (by have := HLN.out; omega) HSA.out (HTB.out _ (HB.out.trans (hb.mono HB.out.size))))
  have HRB := Lib.hid (fun W (hb : Below wz.heap.size wz W) => rf_Between W cn A lo hi (HRL.out.later hb) HRI.out.1 HSH.out.1 (by have := HLN.out; omega))
  clear hwz
  have HKS : Hid (∀ V, Below wz.heap.size wz V → V.heap[wm.heap.size]? = some (.cells cm 36 (0, 0)) ∧ V.heap[(wm.heap.size + 1)]? = some (.cells cn 40 (0, 0)) ∧ V.heap[wm2.heap.size]? = some (.cells cm2 36 (0, 0)) ∧ V.heap[(wm2.heap.size + 1)]? = some (.cells cn2 40 (0, 0)) ∧ V.heap[w.heap.size]? = some (.cells #[.int .u64 (s : Int), .int .i64 n] 24 (0, 0)) ∧ V.heap[(w.heap.size + 1)]? = some (.cells #[.int .u64 (s2 : Int), .int .i64 n2] 24 (0, 0))) := fun V hV => ⟨(hV.block _ (Array.getElem?_eq_some_iff.1 HXM.out).1).trans HXM.out, (hV.block _ (Array.getElem?_eq_some_iff.1 HXN.out).1).trans HXN.out, (hV.block _ (Array.getElem?_eq_some_iff.1 HXM2.out).1).trans HXM2.out, (hV.block _ (Array.getElem?_eq_some_iff.1 HXN2.out).1).trans HXN2.out, (hV.block _ (Array.getElem?_eq_some_iff.1 HC.out).1).trans HC.out, (hV.block _ (Array.getElem?_eq_some_iff.1 HC2.out).1).trans HC2.out⟩
  have HW : Hid (Below wz.heap.size wz wz.drew) := drawn_below wz
  refine wp_region_T (S := (fun V => V.heap[wm.heap.size]? = some (.cells cm 36 (0, 0)) ∧ V.heap[(wm.heap.size + 1)]? = some (.cells cn 40 (0, 0)) ∧ V.heap[wm2.heap.size]? = some (.cells cm2 36 (0, 0)) ∧ V.heap[(wm2.heap.size + 1)]? = some (.cells cn2 40 (0, 0)) ∧ V.heap[w.heap.size]? = some (.cells #[.int .u64 (s : Int), .int .i64 n] 24 (0, 0)) ∧ V.heap[(w.heap.size + 1)]? = some (.cells #[.int .u64 (s2 : Int), .int .i64 n2] 24 (0, 0)))) [] (by kernel_rfl) (by exact HKS.out _ HW.out) (fun hHeld => ?_)
  refine wpAnyT_take (i := 0) (oi := ⟨some 83, _, _, _, _, _⟩) (v := _) rfl (by kernel_rfl) (by kernel_rfl) (by kernel_rfl) (by kernel_rfl) (fun _ _ _ h => h) (yieldsIf_load_row (by rfl) 36 _ rfl wm.heap.size rfl cm 36 (0, 0) _ (fun w hw => hw.1) Tryd.underlying36 rfl (by rw [HZM.out]; exact map_size)) (by assumption) ?_
  (try simp only [Act.put, List.setIfInBounds_toArray, List.set_cons_zero, List.set_cons_succ])
  refine wpAnyT_take (i := 1) (oi := ⟨some 84, _, _, _, _, _⟩) (v := ?vg2_1) rfl (by kernel_rfl) (by kernel_rfl) (by kernel_rfl) (by kernel_rfl) (fun _ _ _ h => h) (Or.inl ⟨by rfl, ?hg2_1⟩) (by assumption) ?rg2_1
  case hg2_1 => (intro w hSw; (try dsimp only at hSw); first | (go_simp; done) | (go_simp; with_reducible rfl))
  (try simp only [Act.put, List.setIfInBounds_toArray, List.set_cons_zero, List.set_cons_succ])
  refine wpAnyT_take (i := 2) (oi := ⟨some 85, _, _, _, _, _⟩) (v := ?vg2_2) rfl (by kernel_rfl) (by kernel_rfl) (by kernel_rfl) (by kernel_rfl) (fun _ _ _ h => h) (Or.inl ⟨by rfl, ?hg2_2⟩) (by assumption) ?rg2_2
  case hg2_2 => (intro w hSw; (try dsimp only at hSw); first | (go_simp; done) | (go_simp; with_reducible rfl))
  (try simp only [Act.put, List.setIfInBounds_toArray, List.set_cons_zero, List.set_cons_succ])
  refine wpAnyT_take (i := 4) (oi := ⟨some 87, _, _, _, _, _⟩) (v := _) rfl (by kernel_rfl) (by kernel_rfl) (by kernel_rfl) (by kernel_rfl) (fun _ _ _ h => h) (yieldsIf_load_row (by rfl) 24 _ rfl w.heap.size rfl #[.int .u64 (s : Int), .int .i64 n] 24 (0, 0) _ (fun w hw => hw.2.2.2.2.1) Tryd.underlying24 rfl (by exact api_size)) (by assumption) ?_
  (try simp only [Act.put, List.setIfInBounds_toArray, List.set_cons_zero, List.set_cons_succ])
  refine wpAnyT_take (i := 5) (oi := ⟨some 88, _, _, _, _, _⟩) (v := _) rfl (by kernel_rfl) (by kernel_rfl) (by kernel_rfl) (by kernel_rfl) (fun _ _ _ h => h) (yieldsIf_load_row (by rfl) 40 _ rfl (wm.heap.size + 1) rfl cn 40 (0, 0) _ (fun w hw => hw.2.1) Tryd.underlying40 rfl (by rw [HZN.out]; exact refm_size)) (by assumption) ?_
  (try simp only [Act.put, List.setIfInBounds_toArray, List.set_cons_zero, List.set_cons_succ])
  refine wpAnyT_take (i := 6) (oi := ⟨some 89, _, _, _, _, _⟩) (v := ?vg2_6) rfl (by kernel_rfl) (by kernel_rfl) (by kernel_rfl) (by kernel_rfl) (fun _ _ _ h => h) (Or.inl ⟨by rfl, ?hg2_6⟩) (by assumption) ?rg2_6
  case hg2_6 => (intro w hSw; (try dsimp only at hSw); first | (go_simp; done) | (go_simp; with_reducible rfl))
  (try simp only [Act.put, List.setIfInBounds_toArray, List.set_cons_zero, List.set_cons_succ])
  refine wpAnyT_take (i := 7) (oi := ⟨some 90, _, _, _, _, _⟩) (v := ?vg2_7) rfl (by kernel_rfl) (by kernel_rfl) (by kernel_rfl) (by kernel_rfl) (fun _ _ _ h => h) (Or.inl ⟨by rfl, ?hg2_7⟩) (by assumption) ?rg2_7
  case hg2_7 => (intro w hSw; (try dsimp only at hSw); first | (go_simp; done) | (go_simp; with_reducible rfl))
  (try simp only [Act.put, List.setIfInBounds_toArray, List.set_cons_zero, List.set_cons_succ])
  refine wpAnyT_one (i := 3) (o := ⟨some 86, _, _, _, _, _⟩) (by kernel_rfl) rfl (fun K hK => ?_)
  go_simp
  go_at_call 31
  (with_reducible refine (HBE.out _ HW.out).mono ?_)
  rintro r w3 ⟨cu, rfl, hu, hb⟩
  have HU := Lib.hid hu
  replace HW := Lib.hid (HW.out.trans (hb.mono HW.out.size))
  clear hb
  clear hu
  dsimp only
  refine hK.out _ _ (by exact HKS.out _ HW.out) (fun hHeld => ?_)
  clear hK K
  (try simp only [Act.put, List.setIfInBounds_toArray, List.set_cons_zero, List.set_cons_succ])
  refine wpAnyT_one (i := 8) (o := ⟨some 91, _, _, _, _, _⟩) (by kernel_rfl) rfl (fun K hK => ?_)
  go_simp
  go_at_call 32
  (with_reducible refine (HRB.out _ HW.out).mono ?_)
  rintro r w3 ⟨cv, rfl, hv, hb⟩
  have HV := Lib.hid hv
  replace HU := Lib.hid (HU.out.later hb)
  replace HW := Lib.hid (HW.out.trans (hb.mono HW.out.size))
  clear hb
  clear hv
  dsimp only
  refine hK.out _ _ (by exact HKS.out _ HW.out) (fun hHeld => ?_)
  clear hK K
  (try simp only [Act.put, List.setIfInBounds_toArray, List.set_cons_zero, List.set_cons_succ])
  refine wpAnyT_one (i := 9) (o := ⟨some 92, _, _, _, _, _⟩) (by kernel_rfl) rfl (fun K hK => ?_)
  go_simp
  go_at_call 24
  (with_reducible refine (same10 _ s hss n (A.filter (betE lo hi)) cu cv (HU.out) (HV.out) (HRI.out.1.filter _) (short_filter HSH.out.1 _) (by have := HLN.out; exact Nat.le_trans (List.length_filter_le _ _) (by omega)) (HTB.out _ (HB.out.trans (HW.out.mono HB.out.size)))).mono ?_)
  rintro r w3 ⟨rfl, hb⟩
  replace HW := Lib.hid (HW.out.trans (hb.mono HW.out.size))
  clear hb
  dsimp only
  refine hK.out _ _ (by exact HKS.out _ HW.out) (fun hHeld => ?_)
  clear hK K
  (try simp only [Act.put, List.setIfInBounds_toArray, List.set_cons_zero, List.set_cons_succ])
  refine wpAnyT_take (i := 10) (oi := ⟨some 93, _, _, _, _, _⟩) (v := ?vg2_10) rfl (by kernel_rfl) (by kernel_rfl) (by kernel_rfl) (by kernel_rfl) (fun _ _ _ h => h) (Or.inl ⟨by rfl, ?hg2_10⟩) (by assumption) ?rg2_10
  case hg2_10 => (intro w hSw; (try dsimp only at hSw); first | (go_simp; done) | (go_simp; with_reducible rfl))
  (try simp only [Act.put, List.setIfInBounds_toArray, List.set_cons_zero, List.set_cons_succ])
  refine wpAnyT_take (i := 11) (oi := ⟨some 94, _, _, _, _, _⟩) (v := _) rfl (by kernel_rfl) (by kernel_rfl) (by kernel_rfl) (by kernel_rfl) (fun _ _ _ h => h) (yieldsIf_load_row (by rfl) 36 _ rfl wm.heap.size rfl cm 36 (0, 0) _ (fun w hw => hw.1) Tryd.underlying36 rfl (by rw [HZM.out]; exact map_size)) (by assumption) ?_
  (try simp only [Act.put, List.setIfInBounds_toArray, List.set_cons_zero, List.set_cons_succ])
  refine wpAnyT_take (i := 12) (oi := ⟨some 95, _, _, _, _, _⟩) (v := _) rfl (by kernel_rfl) (by kernel_rfl) (by kernel_rfl) (by kernel_rfl) (fun _ _ _ h => h) (yieldsIf_load_row (by rfl) 24 _ rfl w.heap.size rfl #[.int .u64 (s : Int), .int .i64 n] 24 (0, 0) _ (fun w hw => hw.2.2.2.2.1) Tryd.underlying24 rfl (by exact api_size)) (by assumption) ?_
  (try simp only [Act.put, List.setIfInBounds_toArray, List.set_cons_zero, List.set_cons_succ])
  refine wpAnyT_take (i := 13) (oi := ⟨some 96, _, _, _, _, _⟩) (v := _) rfl (by kernel_rfl) (by kernel_rfl) (by kernel_rfl) (by kernel_rfl) (fun _ _ _ h => h) (yieldsIf_load_row (by rfl) 40 _ rfl (wm.heap.size + 1) rfl cn 40 (0, 0) _ (fun w hw => hw.2.1) Tryd.underlying40 rfl (by rw [HZN.out]; exact refm_size)) (by assumption) ?_
  (try simp only [Act.put, List.setIfInBounds_toArray, List.set_cons_zero, List.set_cons_succ])
  refine wpAnyT_one (i := 14) (o := ⟨some 97, _, _, _, _, _⟩) (by kernel_rfl) rfl (fun K hK => ?_)
  go_simp
  go_at_call 24
  (with_reducible refine (same10 _ s hss n A cm cn ((HML.out.later HW.out)) ((HRL.out.later HW.out)) HRI.out.1 HSH.out.1 (by have := HLN.out; omega) (HTB.out _ (HB.out.trans (HW.out.mono HB.out.size)))).mono ?_)
  rintro r w3 ⟨rfl, hb⟩
  replace HW := Lib.hid (HW.out.trans (hb.mono HW.out.size))
  clear hb
  dsimp only
  refine hK.out _ _ (by exact HKS.out _ HW.out) (fun hHeld => ?_)
  clear hK K
  (try simp only [Act.put, List.setIfInBounds_toArray, List.set_cons_zero, List.set_cons_succ])
  refine wpAnyT_take (i := 15) (oi := ⟨some 98, _, _, _, _, _⟩) (v := ?vg2_15) rfl (by kernel_rfl) (by kernel_rfl) (by kernel_rfl) (by kernel_rfl) (fun _ _ _ h => h) (Or.inl ⟨by rfl, ?hg2_15⟩) (by assumption) ?rg2_15
  case hg2_15 => (intro w hSw; (try dsimp only at hSw); first | (go_simp; done) | (go_simp; with_reducible rfl))
  (try simp only [Act.put, List.setIfInBounds_toArray, List.set_cons_zero, List.set_cons_succ])
  refine wpAnyT_take (i := 16) (oi := ⟨some 99, _, _, _, _, _⟩) (v := ?vg2_16) rfl (by kernel_rfl) (by kernel_rfl) (by kernel_rfl) (by kernel_rfl) (fun _ _ _ h => h) (Or.inl ⟨by rfl, ?hg2_16⟩) (by assumption) ?rg2_16
  case hg2_16 => (intro w hSw; (try dsimp only at hSw); first | (go_simp; done) | (go_simp; with_reducible rfl))
  (try simp only [Act.put, List.setIfInBounds_toArray, List.set_cons_zero, List.set_cons_succ])
  refine wpAnyT_take (i := 17) (oi := ⟨some 100, _, _, _, _, _⟩) (v := _) rfl (by kernel_rfl) (by kernel_rfl) (by kernel_rfl) (by kernel_rfl) (fun _ _ _ h => h) (yieldsIf_load_row (by rfl) 36 _ rfl wm2.heap.size rfl cm2 36 (0, 0) _ (fun w hw => hw.2.2.1) Tryd.underlying36 rfl (by rw [HZM2.out]; exact map_size)) (by assumption) ?_
  (try simp only [Act.put, List.setIfInBounds_toArray, List.set_cons_zero, List.set_cons_succ])
  refine wpAnyT_take (i := 18) (oi := ⟨some 101, _, _, _, _, _⟩) (v := _) rfl (by kernel_rfl) (by kernel_rfl) (by kernel_rfl) (by kernel_rfl) (fun _ _ _ h => h) (yieldsIf_load_row (by rfl) 24 _ rfl (w.heap.size + 1) rfl #[.int .u64 (s2 : Int), .int .i64 n2] 24 (0, 0) _ (fun w hw => hw.2.2.2.2.2) Tryd.underlying24 rfl (by exact api_size)) (by assumption) ?_
  (try simp only [Act.put, List.setIfInBounds_toArray, List.set_cons_zero, List.set_cons_succ])
  refine wpAnyT_take (i := 19) (oi := ⟨some 102, _, _, _, _, _⟩) (v := _) rfl (by kernel_rfl) (by kernel_rfl) (by kernel_rfl) (by kernel_rfl) (fun _ _ _ h => h) (yieldsIf_load_row (by rfl) 40 _ rfl (wm2.heap.size + 1) rfl cn2 40 (0, 0) _ (fun w hw => hw.2.2.2.1) Tryd.underlying40 rfl (by rw [HZN2.out]; exact refm_size)) (by assumption) ?_
  (try simp only [Act.put, List.setIfInBounds_toArray, List.set_cons_zero, List.set_cons_succ])
  refine wpAnyT_one (i := 20) (o := ⟨some 103, _, _, _, _, _⟩) (by kernel_rfl) rfl (fun K hK => ?_)
  go_simp
  go_at_call 24
  (with_reducible refine (same10 _ s2 hss2 n2 B cm2 cn2 ((HML2.out.later HW.out)) ((HRL2.out.later HW.out)) HRI.out.2 HSH.out.2 (by have := HLN.out; omega) (HTB.out _ (HB.out.trans (HW.out.mono HB.out.size)))).mono ?_)
  rintro r w3 ⟨rfl, hb⟩
  replace HW := Lib.hid (HW.out.trans (hb.mono HW.out.size))
  clear hb
  dsimp only
  refine hK.out _ _ (by exact HKS.out _ HW.out) (fun hHeld => ?_)
  clear hK K
  (try simp only [Act.put, List.setIfInBounds_toArray, List.set_cons_zero, List.set_cons_succ])
  refine wpAnyT_take (i := 21) (oi := ⟨some 104, _, _, _, _, _⟩) (v := ?vg2_21) rfl (by kernel_rfl) (by kernel_rfl) (by kernel_rfl) (by kernel_rfl) (fun _ _ _ h => h) (Or.inl ⟨by rfl, ?hg2_21⟩) (by assumption) ?rg2_21
  case hg2_21 => (intro w hSw; (try dsimp only at hSw); first | (go_simp; done) | (go_simp; with_reducible rfl))
  (try simp only [Act.put, List.setIfInBounds_toArray, List.set_cons_zero, List.set_cons_succ])
  refine wpAnyT_take (i := 22) (oi := ⟨some 12, _, _, _, _, _⟩) (v := ?vg2_22) rfl (by kernel_rfl) (by kernel_rfl) (by kernel_rfl) (by kernel_rfl) (fun _ _ _ h => h) (Or.inl ⟨by rfl, ?hg2_22⟩) (by assumption) ?rg2_22
  case hg2_22 => (intro w hSw; (try dsimp only at hSw); first | (go_simp; done) | (go_simp; with_reducible rfl))
  (try simp only [Act.put, List.setIfInBounds_toArray, List.set_cons_zero, List.set_cons_succ])
  refine wpAnyT_done (by kernel_rfl) ?_ _
  clear hHeld
  go_wp2_with fail
  go_ret
  exact ⟨rfl, HB.out.trans (HW.out.mono HB.out.size)⟩
theorem dictJoins_walk (s : Nat) (n : Int) (s2 : Nat) (n2 : Int) (va : Value) (l : List Ent) (va2 : Value) (l2 : List Ent) (lo hi : ByteArray) (hss : s < 18446744073709551616) (hss2 : s2 < 18446744073709551616) (_ : lo.size ≤ maxLen) (_ : hi.size ≤ maxLen) (w : World) (hl : Prs w va l) (hl2 : Prs w va2 l2) (hT : Tab6 w) :
    Calls Tryd.prog 5 #[.agg #[.int .u64 (s : Int), .int .i64 n], .agg #[.int .u64 (s2 : Int), .int .i64 n2], va, va2, .string lo, .string hi] w fun e w' => e = .returned (.bool true) ∧ Below w.heap.size w w' := dictJoins_of s n s2 n2 va va2 l l2 lo hi w hss hss2 hl hl2 hT
end Go.Proofs.YtnnlfgfgfegjkaaDoor
