/- Layer 10's law DictEnds. (written by tools/gen10/ends.py) -/
import Derived.Test.YtnnlfgfgfegjkaaDoorLaw10B
namespace Go.Proofs.YtnnlfgfgfegjkaaDoor
open Go.RowKit
set_option maxRecDepth 1000000
set_option linter.unusedSimpArgs false

set_option maxHeartbeats 8000000 in
theorem dictEnds_of (s : Nat) (n : Int) (va : Value) (l : List Ent) (w : World) (hss : s < 18446744073709551616) (hl : Prs w va l) (hT : Tab6 w) :
    Calls Tryd.prog 4 #[.agg #[.int .u64 (s : Int), .int .i64 n], va] w fun e w' => e = .returned (.bool true) ∧ Below w.heap.size w w' := by
  have HTB := Lib.hid (fun W (h : Below w.heap.size w W) => hT.below h)
  have HFEW := Lib.hid (fun W (h : Below w.heap.size w W) => few10 va l W (hl.later h))
  obtain ⟨w0, hw0⟩ : ∃ w0, w.alloc (.cells #[.int .u64 (s : Int), .int .i64 n] 24) = w0 := ⟨_, rfl⟩
  obtain ⟨hb0, hx0, hs0⟩ := new_below hw0
  have HC := Lib.hid hx0
  have HB := Lib.hid hb0
  have HS0 := Lib.hid hs0
  clear hT hb0 hx0 hs0
  by_cases hf1 : few10B l = true
  case neg =>
    rw [show few10B l = false by simpa using hf1] at HFEW
    clear hl
    go_enter Tryd.func4, Tryd.ntmps4
    go_upto_region 1 with fail
    clear hw0
    go_wp2_with (first
      | (go_at_call 11; (with_reducible refine (live10 _ (HTB.out _ HB.out)).mono ?_); rintro e w1 ⟨rfl, hb⟩; replace HC := Lib.hid ((hb.block _ (Array.getElem?_eq_some_iff.1 HC.out).1).trans HC.out); replace HB := Lib.hid (HB.out.trans (hb.mono HB.out.size)); clear hb)
      | (go_at_call 12; (with_reducible refine (HFEW.out _ HB.out).mono ?_); rintro e w1 ⟨rfl, hb⟩; replace HC := Lib.hid ((hb.block _ (Array.getElem?_eq_some_iff.1 HC.out).1).trans HC.out); replace HB := Lib.hid (HB.out.trans (hb.mono HB.out.size)); clear hb))
    go_ret
    exact ⟨rfl, HB.out⟩
  have HF := Lib.hid (few10_prs hf1)
  rw [hf1] at HFEW
  have HMD := Lib.hid (fun W (h : Below w.heap.size w W) => made10 W s hss n va l (hl.later h) HF.out.1 (by have := HF.out.2; omega) (HTB.out _ h))
  clear hl hf1
  go_enter Tryd.func4, Tryd.ntmps4
  go_upto_region 1 with fail
  clear hw0
  go_upto_region 4 with (first
    | (go_at_call 11; (with_reducible refine (live10 _ (HTB.out _ HB.out)).mono ?_); rintro e w1 ⟨rfl, hb⟩; replace HC := Lib.hid ((hb.block _ (Array.getElem?_eq_some_iff.1 HC.out).1).trans HC.out); replace HB := Lib.hid (HB.out.trans (hb.mono HB.out.size)); clear hb)
    | (go_at_call 12; (with_reducible refine (HFEW.out _ HB.out).mono ?_); rintro e w1 ⟨rfl, hb⟩; replace HC := Lib.hid ((hb.block _ (Array.getElem?_eq_some_iff.1 HC.out).1).trans HC.out); replace HB := Lib.hid (HB.out.trans (hb.mono HB.out.size)); clear hb)
    | (refine ld_if (by rfl) 24 _ rfl w.heap.size rfl 24 _ _ _ HC.out Tryd.underlying24 rfl (by exact api_size) ?_)
    | (go_at_call 13; (with_reducible refine (HMD.out _ HB.out).mono ?_); rintro e wm ⟨cm, cw, rfl, hm, hw, hb⟩; replace HC := Lib.hid ((hb.block _ (Array.getElem?_eq_some_iff.1 HC.out).1).trans HC.out); replace HB := Lib.hid (HB.out.trans (hb.mono HB.out.size)); have HMA := Lib.hid hm; have HWA := Lib.hid hw; have HZM := Lib.hid hm.size; have HZW := Lib.hid hw.size; have HLW : Hid (w.heap.size + 1 ≤ wm.heap.size) := (by show _ ≤ _; have h0 := (Array.getElem?_eq_some_iff.1 HC.out).1; omega); clear hm hw hb)
    | (refine st_agg rfl 36 _ _ rfl wm.heap.size cm rfl rfl 36 mapZ (two_newG rfl).2.1 (by rw [HZM.out]; exact map_size) (by rw [HZM.out]; rfl) HMA.out.one ?_; intro w4 h4 k4; have hb4 : Below wm.heap.size wm w4 := (two_newG rfl).1.trans (k4.below (Nat.le_refl _)); have HY : Hid (w4.heap[wm.heap.size + 1]? = some (.cells refZ 40 (0, 0))) := k4.other (two_newG rfl).2.2.1 (by omega); replace HC := Lib.hid ((hb4.block _ (Array.getElem?_eq_some_iff.1 HC.out).1).trans HC.out); replace HB := Lib.hid (HB.out.trans (hb4.mono HB.out.size)); have HM : Hid (MB w4 s n (uniE l []) wm.heap.size) := ⟨cm, h4, HMA.out.later hb4⟩; replace HWA := Lib.hid (HWA.out.later hb4); clear h4 k4 hb4)
    | (refine st_agg rfl 40 _ _ rfl (wm.heap.size + 1) cw rfl rfl 40 refZ HY.out (by rw [HZW.out]; exact refm_size) (by rw [HZW.out]; rfl) HWA.out.one ?_; intro w5 h5 k5; have hlw : w.heap.size + 1 ≤ wm.heap.size := HLW.out; replace HC := Lib.hid (k5.other HC.out (by omega)); replace HM := Lib.hid (HM.out.only k5 HY.out (by omega) (by decide)); replace HB := Lib.hid (HB.out.trans (k5.below (by omega))); have HN : Hid (RB w5 (uniE l []) (wm.heap.size + 1)) := RB.wrote h5 k5 HY.out HWA.out; clear h5 k5 hlw))
  obtain ⟨cm, hxm, hmm⟩ := HM.out
  obtain ⟨cn, hxn, hmn⟩ := HN.out
  have HXM := Lib.hid hxm
  have HXN := Lib.hid hxn
  have HML := Lib.hid hmm
  have HRL := Lib.hid hmn
  have HZM := Lib.hid hmm.size
  have HZN := Lib.hid hmn.size
  clear hxm hxn hmm hmn HM HN
  have HRI := Lib.hid (uni_rise Rise.nil l)
  have HSH := Lib.hid (short_uni (A := l) (fun e he => HF.out.1 e he) short_nil)
  have HLN : Hid ((uniE l []).length ≤ 80) := by show _ ≤ _; have h := uni_len Rise.nil l; rw [List.length_nil] at h; have := HF.out.2; omega
  obtain ⟨D, hD⟩ : ∃ D, D = uniE l [] := ⟨_, rfl⟩
  rw [← hD] at HML HRL HRI HSH HLN
  clear hD
  have hSS : ∀ e ∈ D, e.1.size ≤ 9223372036854775800 := fun e he => by have := HSH.out e he; omega
  have hfi := fun W (h : ML W s n D cm) hT => dc_First W s hss n D cm h HRI.out (by have := HLN.out; omega) hSS hT
  have hla := fun W (h : ML W s n D cm) hT => dc_Last W s hss n D cm h HRI.out (by have := HLN.out; omega) hSS hT
  have hr0 := fun W (h : RefM W cn D) => rf_At W cn D 0 h (by have := HLN.out; omega)
  have hr1 := fun W (h : RefM W cn D) => rf_At W cn D ((D.length : Int) - 1) h (by have := HLN.out; omega)
  obtain ⟨k0, x0, t0, ha0⟩ := ans_tuple (placeE D 0)
  obtain ⟨k1, x1, t1, ha1⟩ := ans_tuple (placeE D ((D.length : Int) - 1))
  rw [ha0] at hfi hr0
  rw [ha1] at hla hr1
  obtain ⟨a1, c1, a2, c2, hcn⟩ := HRL.out.shape
  obtain ⟨N, hN⟩ : ∃ N, N = D.length := ⟨_, rfl⟩
  rw [← hN] at hr1 hcn
  subst hcn
  have hn8 : (N : Int) ≤ 80 := by have := HLN.out; omega
  have HFI := Lib.hid hfi
  have HLA := Lib.hid hla
  have HR0 := Lib.hid hr0
  have HR1 := Lib.hid hr1
  have q0 : (k0.toList == k0.toList) = true := beq_self_eq_true _
  have q1 : (k1.toList == k1.toList) = true := beq_self_eq_true _
  clear ha0 ha1 hfi hla hr0 hr1 hN hSS HRI HSH HLN HC
  go_wp2_with (first
    | (refine ld_if (by rfl) 36 _ rfl wm.heap.size rfl 36 cm _ _ HXM.out Tryd.underlying36 rfl (by rw [HZM.out]; exact map_size) ?_)
    | (refine ld_if (by rfl) 40 _ rfl (wm.heap.size + 1) rfl 40 _ _ _ HXN.out Tryd.underlying40 rfl (by exact refm_size) ?_)
    | (go_at_call 22; (with_reducible refine (HFI.out _ HML.out (HTB.out _ HB.out)).mono ?_); rintro e w1 ⟨rfl, hb⟩; replace HXM := Lib.hid ((hb.block _ (Array.getElem?_eq_some_iff.1 HXM.out).1).trans HXM.out); replace HXN := Lib.hid ((hb.block _ (Array.getElem?_eq_some_iff.1 HXN.out).1).trans HXN.out); replace HML := Lib.hid (HML.out.later hb); replace HRL := Lib.hid (HRL.out.later hb); replace HB := Lib.hid (HB.out.trans (hb.mono HB.out.size)); have cy0 := cell_in HXN.out (j := 0) (v := .slice a1 N c1) rfl; clear hb)
    | (go_at_call 23; (with_reducible refine (HLA.out _ HML.out (HTB.out _ HB.out)).mono ?_); rintro e w1 ⟨rfl, hb⟩; replace HXM := Lib.hid ((hb.block _ (Array.getElem?_eq_some_iff.1 HXM.out).1).trans HXM.out); replace HXN := Lib.hid ((hb.block _ (Array.getElem?_eq_some_iff.1 HXN.out).1).trans HXN.out); replace HML := Lib.hid (HML.out.later hb); replace HRL := Lib.hid (HRL.out.later hb); replace HB := Lib.hid (HB.out.trans (hb.mono HB.out.size)); have cy0 := cell_in HXN.out (j := 0) (v := .slice a1 N c1) rfl; clear hb)
    | (go_at_call 19; (with_reducible refine (HR0.out _ HRL.out).mono ?_); rintro e w1 ⟨rfl, hb⟩; replace HXM := Lib.hid ((hb.block _ (Array.getElem?_eq_some_iff.1 HXM.out).1).trans HXM.out); replace HXN := Lib.hid ((hb.block _ (Array.getElem?_eq_some_iff.1 HXN.out).1).trans HXN.out); replace HML := Lib.hid (HML.out.later hb); replace HRL := Lib.hid (HRL.out.later hb); replace HB := Lib.hid (HB.out.trans (hb.mono HB.out.size)); have cy0 := cell_in HXN.out (j := 0) (v := .slice a1 N c1) rfl; clear hb)
    | (go_at_call 19; (with_reducible refine (HR1.out _ HRL.out).mono ?_); rintro e w1 ⟨rfl, hb⟩; replace HXM := Lib.hid ((hb.block _ (Array.getElem?_eq_some_iff.1 HXM.out).1).trans HXM.out); replace HXN := Lib.hid ((hb.block _ (Array.getElem?_eq_some_iff.1 HXN.out).1).trans HXN.out); replace HML := Lib.hid (HML.out.later hb); replace HRL := Lib.hid (HRL.out.later hb); replace HB := Lib.hid (HB.out.trans (hb.mono HB.out.size)); have cy0 := cell_in HXN.out (j := 0) (v := .slice a1 N c1) rfl; clear hb))
  go_ret
  exact ⟨rfl, HB.out⟩
theorem dictEnds_walk (s : Nat) (n : Int) (va : Value) (l : List Ent) (hss : s < 18446744073709551616) (w : World) (hl : Prs w va l) (hT : Tab6 w) :
    Calls Tryd.prog 4 #[.agg #[.int .u64 (s : Int), .int .i64 n], va] w fun e w' => e = .returned (.bool true) ∧ Below w.heap.size w w' := dictEnds_of s n va l w hss hl hT
end Go.Proofs.YtnnlfgfgfegjkaaDoor
