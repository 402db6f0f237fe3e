/- Layer 10's law DictParts. (written by tools/gen10/parts.py) -/
import Derived.Test.YtnnlfgfgfegjkaaDoorLaw10B
namespace Go.Proofs.YtnnlfgfgfegjkaaDoor
open Go.RowKit
set_option maxRecDepth 1000000
set_option linter.unusedSimpArgs false

theorem less_none {A B : List Ent} {j : Nat} (hj : j < B.length) : getE (A.filter (fun e => !hasE B e)) B[j].1 = none := get_none.2 fun e he hk => by
  have h := (List.mem_filter.1 he).2
  unfold hasE at h
  rw [hk] at h
  cases hg : getE B B[j].1 with
  | none => exact get_none.1 hg _ (List.getElem_mem hj) rfl
  | some x => rw [hg] at h; simp at h
theorem all_some {A B : List Ent} (hA : Rise A) (hB : Rise B) {j : Nat} (hj : j < B.length) : (getE (uniE A B) B[j].1).isSome = true := by
  rw [get_uni hA hB, get_own hB hj]
  cases getE A B[j].1 <;> rfl
set_option maxHeartbeats 8000000 in
theorem dictParts_of (s : Nat) (n : Int) (s2 : Nat) (n2 : Int) (va va2 : Value) (l l2 : List Ent) (w : World) (hss : s < 18446744073709551616) (hss2 : s2 < 18446744073709551616) (hl : Prs w va l) (hl2 : Prs w va2 l2) (hT : Tab6 w) :
    Calls Tryd.prog 9 #[.agg #[.int .u64 (s : Int), .int .i64 n], .agg #[.int .u64 (s2 : Int), .int .i64 n2], va, va2] w fun e w' => e = .returned (.bool true) ∧ Below w.heap.size w w' := by
  have HTB := Lib.hid (fun W (h : Below w.heap.size w W) => hT.below h)
  have HFEW := Lib.hid (fun W (h : Below w.heap.size w W) => few10 va l W (hl.later h))
  have HFEW2 := Lib.hid (fun W (h : Below w.heap.size w W) => few10 va2 l2 W (hl2.later h))
  obtain ⟨w0, hw0⟩ : ∃ w0, (w.alloc (.cells #[.int .u64 (s : Int), .int .i64 n] 24)).alloc (.cells #[.int .u64 (s2 : Int), .int .i64 n2] 24) = w0 := ⟨_, rfl⟩
  obtain ⟨hb0, hx0, hy0, hs0⟩ := two_newG hw0
  have HC := Lib.hid hx0
  have HC2 := Lib.hid hy0
  have HB := Lib.hid hb0
  clear hT hb0 hx0 hy0 hs0
  by_cases hf1 : few10B l = true
  case neg =>
    rw [show few10B l = false by simpa using hf1] at HFEW
    clear hl hl2
    go_enter Tryd.func9, Tryd.ntmps9
    go_upto_region 1 with fail
    clear hw0
    go_wp2_with (first
      | (go_at_call 11; (with_reducible refine (live10 _ (HTB.out _ HB.out)).mono ?_); rintro e w1 ⟨rfl, hb⟩; replace HC := Lib.hid ((hb.block _ (Array.getElem?_eq_some_iff.1 HC.out).1).trans HC.out); replace HC2 := Lib.hid ((hb.block _ (Array.getElem?_eq_some_iff.1 HC2.out).1).trans HC2.out); replace HB := Lib.hid (HB.out.trans (hb.mono HB.out.size)); clear hb)
      | (go_at_call 12; (with_reducible refine (HFEW.out _ HB.out).mono ?_); rintro e w1 ⟨rfl, hb⟩; replace HC := Lib.hid ((hb.block _ (Array.getElem?_eq_some_iff.1 HC.out).1).trans HC.out); replace HC2 := Lib.hid ((hb.block _ (Array.getElem?_eq_some_iff.1 HC2.out).1).trans HC2.out); replace HB := Lib.hid (HB.out.trans (hb.mono HB.out.size)); clear hb)
      | (go_at_call 12; (with_reducible refine (HFEW2.out _ HB.out).mono ?_); rintro e w1 ⟨rfl, hb⟩; replace HC := Lib.hid ((hb.block _ (Array.getElem?_eq_some_iff.1 HC.out).1).trans HC.out); replace HC2 := Lib.hid ((hb.block _ (Array.getElem?_eq_some_iff.1 HC2.out).1).trans HC2.out); replace HB := Lib.hid (HB.out.trans (hb.mono HB.out.size)); clear hb))
    go_ret
    exact ⟨rfl, HB.out⟩
  have HF := Lib.hid (few10_prs hf1)
  rw [hf1] at HFEW
  clear hf1
  by_cases hf2 : few10B l2 = true
  case neg =>
    rw [show few10B l2 = false by simpa using hf2] at HFEW2
    clear hl hl2
    go_enter Tryd.func9, Tryd.ntmps9
    go_upto_region 1 with fail
    clear hw0
    go_wp2_with (first
      | (go_at_call 11; (with_reducible refine (live10 _ (HTB.out _ HB.out)).mono ?_); rintro e w1 ⟨rfl, hb⟩; replace HC := Lib.hid ((hb.block _ (Array.getElem?_eq_some_iff.1 HC.out).1).trans HC.out); replace HC2 := Lib.hid ((hb.block _ (Array.getElem?_eq_some_iff.1 HC2.out).1).trans HC2.out); replace HB := Lib.hid (HB.out.trans (hb.mono HB.out.size)); clear hb)
      | (go_at_call 12; (with_reducible refine (HFEW.out _ HB.out).mono ?_); rintro e w1 ⟨rfl, hb⟩; replace HC := Lib.hid ((hb.block _ (Array.getElem?_eq_some_iff.1 HC.out).1).trans HC.out); replace HC2 := Lib.hid ((hb.block _ (Array.getElem?_eq_some_iff.1 HC2.out).1).trans HC2.out); replace HB := Lib.hid (HB.out.trans (hb.mono HB.out.size)); clear hb)
      | (go_at_call 12; (with_reducible refine (HFEW2.out _ HB.out).mono ?_); rintro e w1 ⟨rfl, hb⟩; replace HC := Lib.hid ((hb.block _ (Array.getElem?_eq_some_iff.1 HC.out).1).trans HC.out); replace HC2 := Lib.hid ((hb.block _ (Array.getElem?_eq_some_iff.1 HC2.out).1).trans HC2.out); replace HB := Lib.hid (HB.out.trans (hb.mono HB.out.size)); clear hb))
    go_ret
    exact ⟨rfl, HB.out⟩
  have HF2 := Lib.hid (few10_prs hf2)
  rw [hf2] at HFEW2
  clear hf2
  have HMD := Lib.hid (fun W (h : Below w.heap.size w W) => made10 W s hss n va l (hl.later h) HF.out.1 (by have := HF.out.2; omega) (HTB.out _ h))
  have HMD2 := Lib.hid (fun W (h : Below w.heap.size w W) => made10 W s2 hss2 n2 va2 l2 (hl2.later h) HF2.out.1 (by have := HF2.out.2; omega) (HTB.out _ h))
  clear hl hl2
  go_enter Tryd.func9, Tryd.ntmps9
  go_upto_region 1 with fail
  clear hw0
  go_upto_region 4 with (first
    | (go_at_call 11; (with_reducible refine (live10 _ (HTB.out _ HB.out)).mono ?_); rintro e w1 ⟨rfl, hb⟩; replace HC := Lib.hid ((hb.block _ (Array.getElem?_eq_some_iff.1 HC.out).1).trans HC.out); replace HC2 := Lib.hid ((hb.block _ (Array.getElem?_eq_some_iff.1 HC2.out).1).trans HC2.out); replace HB := Lib.hid (HB.out.trans (hb.mono HB.out.size)); clear hb)
    | (go_at_call 12; (with_reducible refine (HFEW.out _ HB.out).mono ?_); rintro e w1 ⟨rfl, hb⟩; replace HC := Lib.hid ((hb.block _ (Array.getElem?_eq_some_iff.1 HC.out).1).trans HC.out); replace HC2 := Lib.hid ((hb.block _ (Array.getElem?_eq_some_iff.1 HC2.out).1).trans HC2.out); replace HB := Lib.hid (HB.out.trans (hb.mono HB.out.size)); clear hb)
    | (go_at_call 12; (with_reducible refine (HFEW2.out _ HB.out).mono ?_); rintro e w1 ⟨rfl, hb⟩; replace HC := Lib.hid ((hb.block _ (Array.getElem?_eq_some_iff.1 HC.out).1).trans HC.out); replace HC2 := Lib.hid ((hb.block _ (Array.getElem?_eq_some_iff.1 HC2.out).1).trans HC2.out); replace HB := Lib.hid (HB.out.trans (hb.mono HB.out.size)); clear hb)
    | (refine ld_if (by rfl) 24 _ rfl w.heap.size rfl 24 _ _ _ HC.out Tryd.underlying24 rfl (by exact api_size) ?_)
    | (go_at_call 13; (with_reducible refine (HMD.out _ HB.out).mono ?_); rintro e wm ⟨cm, cw, rfl, hm, hw, hb⟩; replace HC := Lib.hid ((hb.block _ (Array.getElem?_eq_some_iff.1 HC.out).1).trans HC.out); replace HC2 := Lib.hid ((hb.block _ (Array.getElem?_eq_some_iff.1 HC2.out).1).trans HC2.out); replace HB := Lib.hid (HB.out.trans (hb.mono HB.out.size)); have HMA := Lib.hid hm; have HWA := Lib.hid hw; have HZM := Lib.hid hm.size; have HZW := Lib.hid hw.size; have HLW : Hid (w.heap.size + 2 ≤ wm.heap.size) := (by show _ ≤ _; have h0 := (Array.getElem?_eq_some_iff.1 HC2.out).1; omega); clear hm hw hb)
    | (refine st_agg rfl 36 _ _ rfl wm.heap.size cm rfl rfl 36 mapZ (two_newG rfl).2.1 (by rw [HZM.out]; exact map_size) (by rw [HZM.out]; rfl) HMA.out.one ?_; intro w4 h4 k4; have hb4 : Below wm.heap.size wm w4 := (two_newG rfl).1.trans (k4.below (Nat.le_refl _)); have HY : Hid (w4.heap[wm.heap.size + 1]? = some (.cells refZ 40 (0, 0))) := k4.other (two_newG rfl).2.2.1 (by omega); replace HC := Lib.hid ((hb4.block _ (Array.getElem?_eq_some_iff.1 HC.out).1).trans HC.out); replace HC2 := Lib.hid ((hb4.block _ (Array.getElem?_eq_some_iff.1 HC2.out).1).trans HC2.out); replace HB := Lib.hid (HB.out.trans (hb4.mono HB.out.size)); have HM : Hid (MB w4 s n (uniE l []) wm.heap.size) := ⟨cm, h4, HMA.out.later hb4⟩; replace HWA := Lib.hid (HWA.out.later hb4); clear h4 k4 hb4)
    | (refine st_agg rfl 40 _ _ rfl (wm.heap.size + 1) cw rfl rfl 40 refZ HY.out (by rw [HZW.out]; exact refm_size) (by rw [HZW.out]; rfl) HWA.out.one ?_; intro w5 h5 k5; have hlw : w.heap.size + 2 ≤ wm.heap.size := HLW.out; replace HC := Lib.hid (k5.other HC.out (by omega)); replace HC2 := Lib.hid (k5.other HC2.out (by omega)); replace HM := Lib.hid (HM.out.only k5 HY.out (by omega) (by decide)); replace HB := Lib.hid (HB.out.trans (k5.below (by omega))); have HN : Hid (RB w5 (uniE l []) (wm.heap.size + 1)) := RB.wrote h5 k5 HY.out HWA.out; clear h5 k5 hlw))
  go_upto_region 5 with (first
    | (refine ld_if (by rfl) 24 _ rfl (w.heap.size + 1) rfl 24 _ _ _ HC2.out Tryd.underlying24 rfl (by exact api_size) ?_)
    | (go_at_call 13; (with_reducible refine (HMD2.out _ HB.out).mono ?_); rintro e wm2 ⟨cm2, cw2, rfl, hm, hw, hb⟩; replace HC := Lib.hid ((hb.block _ (Array.getElem?_eq_some_iff.1 HC.out).1).trans HC.out); replace HC2 := Lib.hid ((hb.block _ (Array.getElem?_eq_some_iff.1 HC2.out).1).trans HC2.out); replace HM := Lib.hid (HM.out.later hb); replace HN := Lib.hid (HN.out.later hb); replace HB := Lib.hid (HB.out.trans (hb.mono HB.out.size)); have HMA2 := Lib.hid hm; have HWA2 := Lib.hid hw; have HZM2 := Lib.hid hm.size; have HZW2 := Lib.hid hw.size; have HLW2 : Hid (w.heap.size + 2 ≤ wm2.heap.size ∧ wm.heap.size + 1 < wm2.heap.size ∧ w.heap.size + 2 ≤ wm.heap.size) := (by show _ ∧ _ ∧ _; have h0 := (Array.getElem?_eq_some_iff.1 HC2.out).1; have h1 := HN.out.lt; have h2 := HLW.out; omega); clear hm hw hb)
    | (refine st_agg rfl 36 _ _ rfl wm2.heap.size cm2 rfl rfl 36 mapZ (two_newG rfl).2.1 (by rw [HZM2.out]; exact map_size) (by rw [HZM2.out]; rfl) HMA2.out.one ?_; intro w4 h4 k4; have hb4 : Below wm2.heap.size wm2 w4 := (two_newG rfl).1.trans (k4.below (Nat.le_refl _)); have HY2 : Hid (w4.heap[wm2.heap.size + 1]? = some (.cells refZ 40 (0, 0))) := k4.other (two_newG rfl).2.2.1 (by omega); replace HC := Lib.hid ((hb4.block _ (Array.getElem?_eq_some_iff.1 HC.out).1).trans HC.out); replace HC2 := Lib.hid ((hb4.block _ (Array.getElem?_eq_some_iff.1 HC2.out).1).trans HC2.out); replace HM := Lib.hid (HM.out.later hb4); replace HN := Lib.hid (HN.out.later hb4); replace HB := Lib.hid (HB.out.trans (hb4.mono HB.out.size)); have HM2 : Hid (MB w4 s2 n2 (uniE l2 []) wm2.heap.size) := ⟨cm2, h4, HMA2.out.later hb4⟩; replace HWA2 := Lib.hid (HWA2.out.later hb4); clear h4 k4 hb4)
    | (refine st_agg rfl 40 _ _ rfl (wm2.heap.size + 1) cw2 rfl rfl 40 refZ HY2.out (by rw [HZW2.out]; exact refm_size) (by rw [HZW2.out]; rfl) HWA2.out.one ?_; intro w52 h5 k5; have hlw : w.heap.size + 2 ≤ wm2.heap.size ∧ wm.heap.size + 1 < wm2.heap.size ∧ w.heap.size + 2 ≤ wm.heap.size := HLW2.out; replace HC := Lib.hid (k5.other HC.out (by omega)); replace HC2 := Lib.hid (k5.other HC2.out (by omega)); replace HM := Lib.hid (HM.out.only k5 HY2.out (by omega) (by decide)); replace HN := Lib.hid (HN.out.only k5 HY2.out (by omega) (by decide) (by decide)); replace HM2 := Lib.hid (HM2.out.only k5 HY2.out (by omega) (by decide)); replace HB := Lib.hid (HB.out.trans (k5.below (by omega))); have HN2 : Hid (RB w52 (uniE l2 []) (wm2.heap.size + 1)) := RB.wrote h5 k5 HY2.out HWA2.out; clear h5 k5 hlw))
  obtain ⟨cm, hxm, hmm⟩ := HM.out
  obtain ⟨cn, hxn, hmn⟩ := HN.out
  have HXM := Lib.hid hxm
  have HXN := Lib.hid hxn
  have HML := Lib.hid hmm
  have HRL := Lib.hid hmn
  have HZM := Lib.hid hmm.size
  have HZN := Lib.hid hmn.size
  clear hxm hxn hmm hmn HM HN
  obtain ⟨cm2, hxm, hmm⟩ := HM2.out
  obtain ⟨cn2, hxn, hmn⟩ := HN2.out
  have HXM2 := Lib.hid hxm
  have HXN2 := Lib.hid hxn
  have HML2 := Lib.hid hmm
  have HRL2 := Lib.hid hmn
  have HZM2 := Lib.hid hmm.size
  have HZN2 := Lib.hid hmn.size
  clear hxm hxn hmm hmn HM2 HN2
  have HRI : Hid (Rise (uniE l []) ∧ Rise (uniE l2 [])) := ⟨uni_rise Rise.nil l, uni_rise Rise.nil l2⟩
  have HSH : Hid (Short (uniE l []) ∧ Short (uniE l2 [])) := ⟨short_uni (A := l) (fun e he => HF.out.1 e he) short_nil, short_uni (A := l2) (fun e he => HF2.out.1 e he) short_nil⟩
  have HLN : Hid ((uniE l []).length ≤ 80 ∧ (uniE l2 []).length ≤ 80) := by
    show _ ∧ _
    have h := uni_len Rise.nil l
    have h2 := uni_len Rise.nil l2
    rw [List.length_nil] at h h2
    have := HF.out.2
    have := HF2.out.2
    omega
  obtain ⟨A, hA⟩ : ∃ D, D = uniE l [] := ⟨_, rfl⟩
  obtain ⟨B, hB⟩ : ∃ D, D = uniE l2 [] := ⟨_, rfl⟩
  rw [← hA] at HML HRI HSH HLN
  rw [← hB] at HML2 HRI HSH HLN
  clear hA hB HC HC2 HXN HXN2 HRL HRL2
  have HSA : Hid (∀ e ∈ A, e.1.size ≤ 9223372036854775800) := fun e he => by have := HSH.out.1 e he; omega
  have HSB : Hid (∀ e ∈ B, e.1.size ≤ 9223372036854775800) := fun e he => by have := HSH.out.2 e he; omega
  have HLT0 : Hid (w.heap.size + 2 ≤ w52.heap.size ∧ wm.heap.size < w52.heap.size ∧ wm2.heap.size < w52.heap.size) := by
    show _ ∧ _ ∧ _
    have h1 := (Array.getElem?_eq_some_iff.1 HXM.out).1
    have h2 := (Array.getElem?_eq_some_iff.1 HXM2.out).1
    have h3 := HLW.out
    omega
  have HKS : Hid (∀ V, Below w52.heap.size w52 V → V.heap[wm.heap.size]? = some (.cells cm 36 (0, 0)) ∧ V.heap[wm2.heap.size]? = some (.cells cm2 36 (0, 0))) := fun V hV => ⟨(hV.block _ (Array.getElem?_eq_some_iff.1 HXM.out).1).trans HXM.out, (hV.block _ (Array.getElem?_eq_some_iff.1 HXM2.out).1).trans HXM2.out⟩
  have HW : Hid (Below w52.heap.size w52 w52.drew) := drawn_below w52
  refine wp_region_T (S := (fun V => V.heap[wm.heap.size]? = some (.cells cm 36 (0, 0)) ∧ V.heap[wm2.heap.size]? = some (.cells cm2 36 (0, 0)))) [12, 13, 14] (by kernel_rfl) (by exact HKS.out _ HW.out) (fun hHeld => ?_)
  refine wpAnyT_take (i := 0) (oi := ⟨some 47, _, _, _, _, _⟩) (v := _) rfl (by kernel_rfl) (by kernel_rfl) (by kernel_rfl) (by kernel_rfl) (fun _ _ _ h => h) (yieldsIf_load_row (by rfl) 36 _ rfl wm.heap.size rfl cm 36 (0, 0) _ (fun w hw => hw.1) Tryd.underlying36 rfl (by rw [HZM.out]; exact map_size)) (by assumption) ?_
  (try simp only [Act.put, List.setIfInBounds_toArray, List.set_cons_zero, List.set_cons_succ])
  refine wpAnyT_take (i := 1) (oi := ⟨some 48, _, _, _, _, _⟩) (v := _) rfl (by kernel_rfl) (by kernel_rfl) (by kernel_rfl) (by kernel_rfl) (fun _ _ _ h => h) (yieldsIf_load_row (by rfl) 36 _ rfl wm2.heap.size rfl cm2 36 (0, 0) _ (fun w hw => hw.2) Tryd.underlying36 rfl (by rw [HZM2.out]; exact map_size)) (by assumption) ?_
  (try simp only [Act.put, List.setIfInBounds_toArray, List.set_cons_zero, List.set_cons_succ])
  refine wpAnyT_take (i := 3) (oi := ⟨some 50, _, _, _, _, _⟩) (v := _) rfl (by kernel_rfl) (by kernel_rfl) (by kernel_rfl) (by kernel_rfl) (fun _ _ _ h => h) (yieldsIf_load_row (by rfl) 36 _ rfl wm.heap.size rfl cm 36 (0, 0) _ (fun w hw => hw.1) Tryd.underlying36 rfl (by rw [HZM.out]; exact map_size)) (by assumption) ?_
  (try simp only [Act.put, List.setIfInBounds_toArray, List.set_cons_zero, List.set_cons_succ])
  refine wpAnyT_take (i := 4) (oi := ⟨some 51, _, _, _, _, _⟩) (v := _) rfl (by kernel_rfl) (by kernel_rfl) (by kernel_rfl) (by kernel_rfl) (fun _ _ _ h => h) (yieldsIf_load_row (by rfl) 36 _ rfl wm2.heap.size rfl cm2 36 (0, 0) _ (fun w hw => hw.2) Tryd.underlying36 rfl (by rw [HZM2.out]; exact map_size)) (by assumption) ?_
  (try simp only [Act.put, List.setIfInBounds_toArray, List.set_cons_zero, List.set_cons_succ])
  refine wpAnyT_take (i := 6) (oi := ⟨some 53, _, _, _, _, _⟩) (v := _) rfl (by kernel_rfl) (by kernel_rfl) (by kernel_rfl) (by kernel_rfl) (fun _ _ _ h => h) (yieldsIf_load_row (by rfl) 36 _ rfl wm.heap.size rfl cm 36 (0, 0) _ (fun w hw => hw.1) Tryd.underlying36 rfl (by rw [HZM.out]; exact map_size)) (by assumption) ?_
  (try simp only [Act.put, List.setIfInBounds_toArray, List.set_cons_zero, List.set_cons_succ])
  refine wpAnyT_take (i := 7) (oi := ⟨some 54, _, _, _, _, _⟩) (v := _) rfl (by kernel_rfl) (by kernel_rfl) (by kernel_rfl) (by kernel_rfl) (fun _ _ _ h => h) (yieldsIf_load_row (by rfl) 36 _ rfl wm2.heap.size rfl cm2 36 (0, 0) _ (fun w hw => hw.2) Tryd.underlying36 rfl (by rw [HZM2.out]; exact map_size)) (by assumption) ?_
  (try simp only [Act.put, List.setIfInBounds_toArray, List.set_cons_zero, List.set_cons_succ])
  refine wpAnyT_groupA (n := 3) [2, 5, 8, 9, 10, 11] (fun a0 m b V => ∃ val : Nat → Value, b = ((((((a0.put (some 49) (val 2)).put (some 52) (val 5)).put (some 55) (val 8)).put (some 13) (val 9)).put (some 14) (val 10)).put (some 15) (val 11)) ∧ Gr GotM 36 mapZ [9, 10, 11] [(2, (s, n, (A.filter (hasE B)))), (5, (s, n, (A.filter (fun e => !hasE B e)))), (8, (s, n, (uniE A B)))] w52.drew V m val) rfl (by kernel_rfl) ⟨fun _ => undef, rfl, Gr.start _⟩ (by assumption) ?step5 ?done5
  case step5 =>
    as_aux_lemma =>
    clear hHeld
    rintro m i b V hi - hw ⟨val, rfl, hG⟩ hS
    (try simp only [Act.put, List.setIfInBounds_toArray, List.set_cons_zero, List.set_cons_succ])
    have HG := Lib.hid hG
    clear hG hS hw
    rcases (by simp only [List.mem_cons, List.not_mem_nil, or_false] at hi; omega : i = 2 ∨ i = 5 ∨ i = 8 ∨ i = 9 ∨ i = 10 ∨ i = 11) with rfl | rfl | rfl | rfl | rfl | rfl
    · refine group_one (o := ⟨some 49, _, _, _, _, _⟩) rfl (fun K hK => ?_)
      go_simp
      go_at_call 27
      (with_reducible refine (dc_Meet V s hss n A cm s2 hss2 n2 B cm2 (HML.out.later (HW.out.trans (HG.out.bel.mono HW.out.size))) (HML2.out.later (HW.out.trans (HG.out.bel.mono HW.out.size))) HRI.out.1 HRI.out.2 (by have := HLN.out; omega) (by have := HLN.out; omega) HSA.out (HTB.out _ (HB.out.trans ((HW.out.trans (HG.out.bel.mono HW.out.size)).mono HB.out.size)))).mono ?_)
      rintro e V2 ⟨c, rfl, hr, hb⟩
      dsimp only
      refine hK.out _ _ (by exact HKS.out _ (HW.out.trans ((HG.out.bel.trans (hb.mono HG.out.bel.size)).mono HW.out.size))) ⟨_, rfl, Gr.call (R := GotM) (fun A B v x h hb => gotM_later h hb) HG.out hb (by decide) (fun g hg e => ?_)⟩
      · simp only [List.mem_cons, List.not_mem_nil, or_false] at hg
        rcases hg with rfl | rfl | rfl <;> first | (exfalso; simp at e; done) | exact ⟨_, rfl, hr⟩
    · refine group_one (o := ⟨some 52, _, _, _, _, _⟩) rfl (fun K hK => ?_)
      go_simp
      go_at_call 29
      (with_reducible refine (dc_Less V s hss n A cm s2 hss2 n2 B cm2 (HML.out.later (HW.out.trans (HG.out.bel.mono HW.out.size))) (HML2.out.later (HW.out.trans (HG.out.bel.mono HW.out.size))) HRI.out.1 HRI.out.2 (by have := HLN.out; omega) (by have := HLN.out; omega) HSA.out (HTB.out _ (HB.out.trans ((HW.out.trans (HG.out.bel.mono HW.out.size)).mono HB.out.size)))).mono ?_)
      rintro e V2 ⟨c, rfl, hr, hb⟩
      dsimp only
      refine hK.out _ _ (by exact HKS.out _ (HW.out.trans ((HG.out.bel.trans (hb.mono HG.out.bel.size)).mono HW.out.size))) ⟨_, rfl, Gr.call (R := GotM) (fun A B v x h hb => gotM_later h hb) HG.out hb (by decide) (fun g hg e => ?_)⟩
      · simp only [List.mem_cons, List.not_mem_nil, or_false] at hg
        rcases hg with rfl | rfl | rfl <;> first | (exfalso; simp at e; done) | exact ⟨_, rfl, hr⟩
    · refine group_one (o := ⟨some 55, _, _, _, _, _⟩) rfl (fun K hK => ?_)
      go_simp
      go_at_call 25
      (with_reducible refine (dc_Union V s hss n A cm s2 n2 B cm2 (HML.out.later (HW.out.trans (HG.out.bel.mono HW.out.size))) (HML2.out.later (HW.out.trans (HG.out.bel.mono HW.out.size))) HRI.out.1 HRI.out.2 (by have := HLN.out; omega) HSB.out (HTB.out _ (HB.out.trans ((HW.out.trans (HG.out.bel.mono HW.out.size)).mono HB.out.size)))).mono ?_)
      rintro e V2 ⟨c, rfl, hr, hb⟩
      dsimp only
      refine hK.out _ _ (by exact HKS.out _ (HW.out.trans ((HG.out.bel.trans (hb.mono HG.out.bel.size)).mono HW.out.size))) ⟨_, rfl, Gr.call (R := GotM) (fun A B v x h hb => gotM_later h hb) HG.out hb (by decide) (fun g hg e => ?_)⟩
      · simp only [List.mem_cons, List.not_mem_nil, or_false] at hg
        rcases hg with rfl | rfl | rfl <;> first | (exfalso; simp at e; done) | exact ⟨_, rfl, hr⟩
    · refine group_one (o := ⟨some 13, _, _, _, _, _⟩) rfl (fun K hK => ?_)
      go_simp
      refine hK.out _ _ (by exact HKS.out _ (HW.out.trans ((HG.out.bel.trans ((Below.newly' V _).mono HG.out.bel.size)).mono HW.out.size))) ⟨_, rfl, Gr.alloc (R := GotM) (gots := [(2, (s, n, (A.filter (hasE B)))), (5, (s, n, (A.filter (fun e => !hasE B e)))), (8, (s, n, (uniE A B)))]) (fun A B v x h hb => gotM_later h hb) HG.out (fun g hg e => by simp only [List.mem_cons, List.not_mem_nil, or_false] at hg; rcases hg with rfl | rfl | rfl <;> (simp at e))⟩
    · refine group_one (o := ⟨some 14, _, _, _, _, _⟩) rfl (fun K hK => ?_)
      go_simp
      refine hK.out _ _ (by exact HKS.out _ (HW.out.trans ((HG.out.bel.trans ((Below.newly' V _).mono HG.out.bel.size)).mono HW.out.size))) ⟨_, rfl, Gr.alloc (R := GotM) (gots := [(2, (s, n, (A.filter (hasE B)))), (5, (s, n, (A.filter (fun e => !hasE B e)))), (8, (s, n, (uniE A B)))]) (fun A B v x h hb => gotM_later h hb) HG.out (fun g hg e => by simp only [List.mem_cons, List.not_mem_nil, or_false] at hg; rcases hg with rfl | rfl | rfl <;> (simp at e))⟩
    · refine group_one (o := ⟨some 15, _, _, _, _, _⟩) rfl (fun K hK => ?_)
      go_simp
      refine hK.out _ _ (by exact HKS.out _ (HW.out.trans ((HG.out.bel.trans ((Below.newly' V _).mono HG.out.bel.size)).mono HW.out.size))) ⟨_, rfl, Gr.alloc (R := GotM) (gots := [(2, (s, n, (A.filter (hasE B)))), (5, (s, n, (A.filter (fun e => !hasE B e)))), (8, (s, n, (uniE A B)))]) (fun A B v x h hb => gotM_later h hb) HG.out (fun g hg e => by simp only [List.mem_cons, List.not_mem_nil, or_false] at hg; rcases hg with rfl | rfl | rfl <;> (simp at e))⟩
  case done5 =>
    clear hHeld
    rintro m b V hm ⟨val, rfl, hG⟩ -
    obtain ⟨X1, e1, g1, z1⟩ := hG.made 9 (by decide) (hm 9 rfl)
    obtain ⟨X2, e2, g2, z2⟩ := hG.made 10 (by decide) (hm 10 rfl)
    obtain ⟨X3, e3, g3, z3⟩ := hG.made 11 (by decide) (hm 11 rfl)
    have n12 : X1 ≠ X2 := fun e => hG.apart 9 (by decide) 10 (by decide) (hm 9 rfl) (hm 10 rfl) (by decide) (by rw [e1, e2, e])
    have n13 : X1 ≠ X3 := fun e => hG.apart 9 (by decide) 11 (by decide) (hm 9 rfl) (hm 11 rfl) (by decide) (by rw [e1, e3, e])
    have n23 : X2 ≠ X3 := fun e => hG.apart 10 (by decide) 11 (by decide) (hm 10 rfl) (hm 11 rfl) (by decide) (by rw [e2, e3, e])
    obtain ⟨cg1, f1, hr1⟩ := hG.got (2, (s, n, (A.filter (hasE B)))) (by simp) (hm 2 rfl)
    obtain ⟨cg2, f2, hr2⟩ := hG.got (5, (s, n, (A.filter (fun e => !hasE B e)))) (by simp) (hm 5 rfl)
    obtain ⟨cg3, f3, hr3⟩ := hG.got (8, (s, n, (uniE A B))) (by simp) (hm 8 rfl)
    have HBL : Hid (Below w52.heap.size w52 V) := HW.out.trans (hG.bel.mono HW.out.size)
    rw [e1, e2, e3, f1, f2, f3]
    dsimp only at hr1 hr2 hr3
    have g1' : w52.heap.size ≤ X1 := g1
    have HRS1 := Lib.hid hr1
    have HZV1 := Lib.hid z1
    have HZG1 := Lib.hid hr1.size
    have g2' : w52.heap.size ≤ X2 := g2
    have HRS2 := Lib.hid hr2
    have HZV2 := Lib.hid z2
    have HZG2 := Lib.hid hr2.size
    have g3' : w52.heap.size ≤ X3 := g3
    have HRS3 := Lib.hid hr3
    have HZV3 := Lib.hid z3
    have HZG3 := Lib.hid hr3.size
    have HNE := Lib.hid (And.intro n12 (And.intro n13 (And.intro n23 (And.intro g1' (And.intro g2' g3')))))
    clear hG hm e1 e2 e3 g1 g2 g3 z1 z2 z3 n12 n13 n23 g1' g2' g3' f1 f2 f3 hr1 hr2 hr3
    (try simp only [Act.put, List.setIfInBounds_toArray, List.set_cons_zero, List.set_cons_succ])
    refine wpAnyT_last (i := 12) (o := ⟨none, _, _, _, _, _⟩) (by kernel_rfl) (by decide) rfl (fun K hK => ?_)
    rw [if_pos (by rfl)]
    refine st_agg_wp 36 _ _ rfl X1 cg1 rfl rfl 36 mapZ HZV1.out (by rw [HZG1.out]; exact map_size) (by rw [HZG1.out]; rfl) HRS1.out.one ?_
    intro wS1 hs1 ks1
    refine hK.out _ _ ?_
    clear hK K
    (try simp only [Act.put, List.setIfInBounds_toArray, List.set_cons_zero, List.set_cons_succ])
    have hne := HNE.out
    have hlt0 := HLT0.out
    replace HRS1 := Lib.hid (HRS1.out.but ks1 HZV1.out (by decide))
    replace HRS2 := Lib.hid (HRS2.out.but ks1 HZV1.out (by decide))
    replace HRS3 := Lib.hid (HRS3.out.but ks1 HZV1.out (by decide))
    have HXG1 := Lib.hid hs1
    replace HBL := Lib.hid (HBL.out.trans (ks1.below (by omega)))
    replace HZV2 := Lib.hid (ks1.other HZV2.out (by omega))
    replace HZV3 := Lib.hid (ks1.other HZV3.out (by omega))
    clear hne hlt0 hs1 ks1
    refine wpAnyT_last (i := 13) (o := ⟨none, _, _, _, _, _⟩) (by kernel_rfl) (by decide) rfl (fun K hK => ?_)
    rw [if_pos (by rfl)]
    refine st_agg_wp 36 _ _ rfl X2 cg2 rfl rfl 36 mapZ HZV2.out (by rw [HZG2.out]; exact map_size) (by rw [HZG2.out]; rfl) HRS2.out.one ?_
    intro wS2 hs2 ks2
    refine hK.out _ _ ?_
    clear hK K
    (try simp only [Act.put, List.setIfInBounds_toArray, List.set_cons_zero, List.set_cons_succ])
    have hne := HNE.out
    have hlt0 := HLT0.out
    replace HRS1 := Lib.hid (HRS1.out.but ks2 HZV2.out (by decide))
    replace HRS2 := Lib.hid (HRS2.out.but ks2 HZV2.out (by decide))
    replace HRS3 := Lib.hid (HRS3.out.but ks2 HZV2.out (by decide))
    replace HXG1 := Lib.hid (ks2.other HXG1.out (by omega))
    have HXG2 := Lib.hid hs2
    replace HBL := Lib.hid (HBL.out.trans (ks2.below (by omega)))
    replace HZV3 := Lib.hid (ks2.other HZV3.out (by omega))
    clear hne hlt0 hs2 ks2
    refine wpAnyT_last (i := 14) (o := ⟨none, _, _, _, _, _⟩) (by kernel_rfl) (by decide) rfl (fun K hK => ?_)
    rw [if_pos (by rfl)]
    refine st_agg_wp 36 _ _ rfl X3 cg3 rfl rfl 36 mapZ HZV3.out (by rw [HZG3.out]; exact map_size) (by rw [HZG3.out]; rfl) HRS3.out.one ?_
    intro wS3 hs3 ks3
    refine hK.out _ _ ?_
    clear hK K
    (try simp only [Act.put, List.setIfInBounds_toArray, List.set_cons_zero, List.set_cons_succ])
    have hne := HNE.out
    have hlt0 := HLT0.out
    replace HRS1 := Lib.hid (HRS1.out.but ks3 HZV3.out (by decide))
    replace HRS2 := Lib.hid (HRS2.out.but ks3 HZV3.out (by decide))
    replace HRS3 := Lib.hid (HRS3.out.but ks3 HZV3.out (by decide))
    replace HXG1 := Lib.hid (ks3.other HXG1.out (by omega))
    replace HXG2 := Lib.hid (ks3.other HXG2.out (by omega))
    have HXG3 := Lib.hid hs3
    replace HBL := Lib.hid (HBL.out.trans (ks3.below (by omega)))
    clear hne hlt0 hs3 ks3
    refine wpAnyT_done (by kernel_rfl) ?_ _
    replace HXM := Lib.hid ((HBL.out.block _ (Array.getElem?_eq_some_iff.1 HXM.out).1).trans HXM.out)
    replace HXM2 := Lib.hid ((HBL.out.block _ (Array.getElem?_eq_some_iff.1 HXM2.out).1).trans HXM2.out)
    replace HML := Lib.hid (HML.out.later HBL.out)
    replace HML2 := Lib.hid (HML2.out.later HBL.out)
    replace HB := Lib.hid (HB.out.trans (HBL.out.mono HB.out.size))
    clear HKS HW HBL HZV1 HZV2 HZV3
    have HKY := Lib.hid (fun W (h : ML W s2 n2 B cm2) hT => ml_Keys W s2 n2 B cm2 h HRI.out.2 (by have := HLN.out; omega) hT)
    obtain ⟨N, hN⟩ : ∃ N, N = B.length := ⟨_, rfl⟩
    have HN : Hid (N = B.length ∧ N ≤ 80) := ⟨hN, by have := HLN.out; omega⟩
    have hn8 : (N : Int) ≤ 80 := by have := HN.out.2; omega
    clear hN
    go_wp2_with (first
      | (refine ld_if (by rfl) 36 _ rfl wm2.heap.size rfl 36 cm2 _ _ HXM2.out Tryd.underlying36 rfl (by rw [HZM2.out]; exact map_size) ?_)
      | (go_at_call 45; (with_reducible refine (HKY.out _ HML2.out (HTB.out _ HB.out)).mono ?_); rintro e w6 ⟨vk, rfl, hk, hb⟩; replace HXM := Lib.hid ((hb.block _ (Array.getElem?_eq_some_iff.1 HXM.out).1).trans HXM.out); replace HXM2 := Lib.hid ((hb.block _ (Array.getElem?_eq_some_iff.1 HXM2.out).1).trans HXM2.out); replace HXG1 := Lib.hid ((hb.block _ (Array.getElem?_eq_some_iff.1 HXG1.out).1).trans HXG1.out); replace HXG2 := Lib.hid ((hb.block _ (Array.getElem?_eq_some_iff.1 HXG2.out).1).trans HXG2.out); replace HXG3 := Lib.hid ((hb.block _ (Array.getElem?_eq_some_iff.1 HXG3.out).1).trans HXG3.out); replace HML := Lib.hid (HML.out.later hb); replace HML2 := Lib.hid (HML2.out.later hb); replace HRS1 := Lib.hid (HRS1.out.later hb); replace HRS2 := Lib.hid (HRS2.out.later hb); replace HRS3 := Lib.hid (HRS3.out.later hb); replace HB := Lib.hid (HB.out.trans (hb.mono HB.out.size)); have HK := Lib.hid hk.lsS; obtain ⟨ak, ck, hvk, _⟩ := hk.lsS.shape; rw [keysE_len, ← HN.out.1] at hvk; subst hvk; clear hk hb))
    go_loopw [59] (fun i wl => ∃ j : Nat, i = .int .i64 (j : Int) ∧ j ≤ N ∧ Hid (wl.heap[wm.heap.size]? = some (.cells cm 36 (0, 0))) ∧ Hid (wl.heap[wm2.heap.size]? = some (.cells cm2 36 (0, 0))) ∧ Hid (wl.heap[X1]? = some (.cells cg1 36 (0, 0))) ∧ Hid (wl.heap[X2]? = some (.cells cg2 36 (0, 0))) ∧ Hid (wl.heap[X3]? = some (.cells cg3 36 (0, 0))) ∧ Hid (ML wl s n A cm) ∧ Hid (ML wl s2 n2 B cm2) ∧ Hid (ML wl s n (A.filter (hasE B)) cg1) ∧ Hid (ML wl s n (A.filter (fun e => !hasE B e)) cg2) ∧ Hid (ML wl s n (uniE A B) cg3) ∧ Hid (LsS wl (.slice ak N ck) (keysE B)) ∧ Hid (Below w.heap.size w wl)) (fun i _ => N - (intOf i).toNat)
    case atStart => exact ⟨0, rfl, Nat.zero_le _, HXM, HXM2, HXG1, HXG2, HXG3, HML, HML2, HRS1, HRS2, HRS3, HK, HB⟩
    case round =>
      clear HXM HXM2 HXG1 HXG2 HXG3 HML HML2 HRS1 HRS2 HRS3 HK HB
      obtain ⟨j, rfl, hj, HXM, HXM2, HXG1, HXG2, HXG3, HML, HML2, HRS1, HRS2, HRS3, HK, HB⟩ := hrel
      by_cases hlt : j < N
      · have hlt' : (j : Int) < N := by omega
        have hjL : j < B.length := by rw [← HN.out.1]; exact hlt
        obtain ⟨g1, d1, e1, hc1⟩ := HK.out.cell (j := j) (by rw [keysE_len]; exact hjL)
        simp only [Value.slice.injEq] at e1
        obtain ⟨rfl, hd1, rfl⟩ := e1
        have hkj : (keysE B)[j]'(by rw [keysE_len]; exact hjL) = B[j].1 := by unfold keysE; rw [List.getElem_map]
        rw [hkj] at hc1
        have hsz := HSB.out _ (List.getElem_mem hjL)
        have hg2 := fun W (h : ML W s n (A.filter (fun e => !hasE B e)) cg2) => ml_Get W s hss n _ cg2 B[j].1 hsz h (HRI.out.1.filter _) (Nat.le_trans (List.length_filter_le _ _) (by have := HLN.out; omega))
        have hg3 := fun W (h : ML W s n (uniE A B) cg3) => ml_Get W s hss n _ cg3 B[j].1 hsz h (uni_rise HRI.out.2 A) (by have h := uni_len HRI.out.2 A; have := HLN.out; omega)
        rw [less_none hjL] at hg2
        rw [all_some HRI.out.1 HRI.out.2 hjL] at hg3
        simp only [Option.getD_none, Option.isSome_none] at hg2
        obtain ⟨xv, hxv⟩ : ∃ x, x = (getE (uniE A B) B[j].1).getD 0 := ⟨_, rfl⟩
        rw [← hxv] at hg3
        obtain ⟨ky, hky⟩ : ∃ e, e = B[j].1 := ⟨_, rfl⟩
        rw [← hky] at hc1 hg2 hg3
        have HG2 := Lib.hid hg2
        have HG3 := Lib.hid hg3
        have HLT := Lib.hid hlt
        clear hd1 hkj hsz hg2 hg3 hxv hky hjL hlt
        go_wp2_with (first
          | (refine ld_if (by rfl) 36 _ rfl X2 rfl 36 cg2 _ _ HXG2.out Tryd.underlying36 rfl (by rw [HZG2.out]; exact map_size) ?_)
          | (refine ld_if (by rfl) 36 _ rfl X3 rfl 36 cg3 _ _ HXG3.out Tryd.underlying36 rfl (by rw [HZG3.out]; exact map_size) ?_)
          | (go_at_call 46; (with_reducible refine (HG2.out _ HRS2.out).mono ?_); rintro e w1 ⟨rfl, hb⟩; replace HXM := Lib.hid ((hb.block _ (Array.getElem?_eq_some_iff.1 HXM.out).1).trans HXM.out); replace HXM2 := Lib.hid ((hb.block _ (Array.getElem?_eq_some_iff.1 HXM2.out).1).trans HXM2.out); replace HXG1 := Lib.hid ((hb.block _ (Array.getElem?_eq_some_iff.1 HXG1.out).1).trans HXG1.out); replace HXG2 := Lib.hid ((hb.block _ (Array.getElem?_eq_some_iff.1 HXG2.out).1).trans HXG2.out); replace HXG3 := Lib.hid ((hb.block _ (Array.getElem?_eq_some_iff.1 HXG3.out).1).trans HXG3.out); replace HML := Lib.hid (HML.out.later hb); replace HML2 := Lib.hid (HML2.out.later hb); replace HRS1 := Lib.hid (HRS1.out.later hb); replace HRS2 := Lib.hid (HRS2.out.later hb); replace HRS3 := Lib.hid (HRS3.out.later hb); replace HK := Lib.hid (HK.out.later hb); replace HB := Lib.hid (HB.out.trans (hb.mono HB.out.size)); clear hb)
          | (go_at_call 46; (with_reducible refine (HG3.out _ HRS3.out).mono ?_); rintro e w1 ⟨rfl, hb⟩; replace HXM := Lib.hid ((hb.block _ (Array.getElem?_eq_some_iff.1 HXM.out).1).trans HXM.out); replace HXM2 := Lib.hid ((hb.block _ (Array.getElem?_eq_some_iff.1 HXM2.out).1).trans HXM2.out); replace HXG1 := Lib.hid ((hb.block _ (Array.getElem?_eq_some_iff.1 HXG1.out).1).trans HXG1.out); replace HXG2 := Lib.hid ((hb.block _ (Array.getElem?_eq_some_iff.1 HXG2.out).1).trans HXG2.out); replace HXG3 := Lib.hid ((hb.block _ (Array.getElem?_eq_some_iff.1 HXG3.out).1).trans HXG3.out); replace HML := Lib.hid (HML.out.later hb); replace HML2 := Lib.hid (HML2.out.later hb); replace HRS1 := Lib.hid (HRS1.out.later hb); replace HRS2 := Lib.hid (HRS2.out.later hb); replace HRS3 := Lib.hid (HRS3.out.later hb); replace HK := Lib.hid (HK.out.later hb); replace HB := Lib.hid (HB.out.trans (hb.mono HB.out.size)); clear hb))
        go_roundw
        case rel => exact ⟨j + 1, by simp, by have := HLT.out; omega, HXM, HXM2, HXG1, HXG2, HXG3, HML, HML2, HRS1, HRS2, HRS3, HK, HB⟩
        case measure => have := HLT.out; simp [intOf]; omega
      · obtain rfl : j = N := by omega
        go_upto_region 14 with fail
        have h1 := ml_Len wr s n _ cg1 HRS1.out
        have h2 := ml_Len wr s n _ cg2 HRS2.out
        have h3 := ml_Len wr s n _ cg3 HRS3.out
        have h4 := ml_Len wr s n _ cm HML.out
        have h5 := ml_Len wr s2 n2 _ cm2 HML2.out
        have hlp := len_parts A (hasE B)
        have hlu := len_uni HRI.out.1 HRI.out.2
        obtain ⟨p1, hp1⟩ : ∃ p, p = (A.filter (hasE B)).length := ⟨_, rfl⟩
        obtain ⟨p2, hp2⟩ : ∃ p, p = (A.filter (fun e => !hasE B e)).length := ⟨_, rfl⟩
        obtain ⟨p3, hp3⟩ : ∃ p, p = (uniE A B).length := ⟨_, rfl⟩
        obtain ⟨p4, hp4⟩ : ∃ p, p = A.length := ⟨_, rfl⟩
        obtain ⟨p5, hp5⟩ : ∃ p, p = B.length := ⟨_, rfl⟩
        have HLP : Hid ((A.filter (hasE B)).length + (A.filter (fun e => !hasE B e)).length = A.length ∧ A.length ≤ 80) := ⟨hlp, by have := HLN.out; omega⟩
        rw [← hp1] at h1 hlp
        rw [← hp2] at h2 hlp hlu
        rw [← hp3] at h3 hlu
        rw [← hp4] at h4 hlp
        rw [← hp5] at h5 hlu
        have b4 : (p4 : Int) ≤ 80 := by have := HLN.out; omega
        have b5 : (p5 : Int) ≤ 80 := by have := HLN.out; omega
        have b1 : (p1 : Int) ≤ 80 := by omega
        have b2 : (p2 : Int) ≤ 80 := by omega
        have s1 : (p1 : Int) + (p2 : Int) = (p4 : Int) := by omega
        have s2' : (p2 : Int) + (p5 : Int) = (p3 : Int) := by omega
        have u1 : IntKind.i64.wrap ((p1 : Int) + (p2 : Int)) = (p4 : Int) := by rw [IntKind.wrap_i64]; omega
        have u2 : IntKind.i64.wrap ((p2 : Int) + (p5 : Int)) = (p3 : Int) := by rw [IntKind.wrap_i64]; omega
        have HL1 := Lib.hid h1
        have HL2 := Lib.hid h2
        have HL3 := Lib.hid h3
        have HLA := Lib.hid h4
        have HLB := Lib.hid h5
        clear h1 h2 h3 h4 h5 hlp hlu hp1 hp2 hp3 hp4 hp5
        have HKS : Hid (∀ V, Below wr.heap.size wr V → V.heap[wm.heap.size]? = some (.cells cm 36 (0, 0)) ∧ V.heap[wm2.heap.size]? = some (.cells cm2 36 (0, 0)) ∧ V.heap[X1]? = some (.cells cg1 36 (0, 0)) ∧ V.heap[X2]? = some (.cells cg2 36 (0, 0)) ∧ V.heap[X3]? = some (.cells cg3 36 (0, 0))) := fun V hV => ⟨(hV.block _ (Array.getElem?_eq_some_iff.1 HXM.out).1).trans HXM.out, (hV.block _ (Array.getElem?_eq_some_iff.1 HXM2.out).1).trans HXM2.out, (hV.block _ (Array.getElem?_eq_some_iff.1 HXG1.out).1).trans HXG1.out, (hV.block _ (Array.getElem?_eq_some_iff.1 HXG2.out).1).trans HXG2.out, (hV.block _ (Array.getElem?_eq_some_iff.1 HXG3.out).1).trans HXG3.out⟩
        have HW : Hid (Below wr.heap.size wr wr.drew) := drawn_below wr
        refine wp_region_T (S := (fun V => V.heap[wm.heap.size]? = some (.cells cm 36 (0, 0)) ∧ V.heap[wm2.heap.size]? = some (.cells cm2 36 (0, 0)) ∧ V.heap[X1]? = some (.cells cg1 36 (0, 0)) ∧ V.heap[X2]? = some (.cells cg2 36 (0, 0)) ∧ V.heap[X3]? = some (.cells cg3 36 (0, 0)))) [] (by kernel_rfl) (by exact HKS.out _ HW.out) (fun hHeld => ?_)
        refine wpAnyT_take (i := 0) (oi := ⟨some 81, _, _, _, _, _⟩) (v := _) rfl (by kernel_rfl) (by kernel_rfl) (by kernel_rfl) (by kernel_rfl) (fun _ _ _ h => h) (yieldsIf_load_row (by rfl) 36 _ rfl X1 rfl cg1 36 (0, 0) _ (fun w hw => hw.2.2.1) Tryd.underlying36 rfl (by rw [HZG1.out]; exact map_size)) (by assumption) ?_
        (try simp only [Act.put, List.setIfInBounds_toArray, List.set_cons_zero, List.set_cons_succ])
        refine wpAnyT_take (i := 2) (oi := ⟨some 83, _, _, _, _, _⟩) (v := _) rfl (by kernel_rfl) (by kernel_rfl) (by kernel_rfl) (by kernel_rfl) (fun _ _ _ h => h) (yieldsIf_load_row (by rfl) 36 _ rfl X2 rfl cg2 36 (0, 0) _ (fun w hw => hw.2.2.2.1) Tryd.underlying36 rfl (by rw [HZG2.out]; exact map_size)) (by assumption) ?_
        (try simp only [Act.put, List.setIfInBounds_toArray, List.set_cons_zero, List.set_cons_succ])
        refine wpAnyT_take (i := 5) (oi := ⟨some 86, _, _, _, _, _⟩) (v := _) rfl (by kernel_rfl) (by kernel_rfl) (by kernel_rfl) (by kernel_rfl) (fun _ _ _ h => h) (yieldsIf_load_row (by rfl) 36 _ rfl wm.heap.size rfl cm 36 (0, 0) _ (fun w hw => hw.1) Tryd.underlying36 rfl (by rw [HZM.out]; exact map_size)) (by assumption) ?_
        (try simp only [Act.put, List.setIfInBounds_toArray, List.set_cons_zero, List.set_cons_succ])
        refine wpAnyT_one (i := 1) (o := ⟨some 82, _, _, _, _, _⟩) (by kernel_rfl) rfl (fun K hK => ?_)
        go_simp
        go_at_call 47
        (with_reducible refine (HL1.out _).mono ?_)
        rintro r w3 ⟨rfl, hb⟩
        replace HW := Lib.hid (HW.out.trans (hb.mono HW.out.size))
        clear hb
        dsimp only
        refine hK.out _ _ (by exact HKS.out _ HW.out) (fun hHeld => ?_)
        clear hK K
        (try simp only [Act.put, List.setIfInBounds_toArray, List.set_cons_zero, List.set_cons_succ])
        refine wpAnyT_one (i := 3) (o := ⟨some 84, _, _, _, _, _⟩) (by kernel_rfl) rfl (fun K hK => ?_)
        go_simp
        go_at_call 47
        (with_reducible refine (HL2.out _).mono ?_)
        rintro r w3 ⟨rfl, hb⟩
        replace HW := Lib.hid (HW.out.trans (hb.mono HW.out.size))
        clear hb
        dsimp only
        refine hK.out _ _ (by exact HKS.out _ HW.out) (fun hHeld => ?_)
        clear hK K
        (try simp only [Act.put, List.setIfInBounds_toArray, List.set_cons_zero, List.set_cons_succ])
        refine wpAnyT_take (i := 4) (oi := ⟨some 85, _, _, _, _, _⟩) (v := (.int .i64 (p4 : Int))) rfl (by kernel_rfl) (by kernel_rfl) (by kernel_rfl) (by kernel_rfl) (fun _ _ _ h => h) (Or.inl ⟨by rfl, ?hg2_4⟩) (by assumption) ?rg2_4
        case hg2_4 => (intro w hSw; (try dsimp only at hSw); go_simp; first | done | (rw [IntKind.wrap_i64]; omega))
        (try simp only [Act.put, List.setIfInBounds_toArray, List.set_cons_zero, List.set_cons_succ])
        refine wpAnyT_one (i := 6) (o := ⟨some 87, _, _, _, _, _⟩) (by kernel_rfl) rfl (fun K hK => ?_)
        go_simp
        go_at_call 47
        (with_reducible refine (HLA.out _).mono ?_)
        rintro r w3 ⟨rfl, hb⟩
        replace HW := Lib.hid (HW.out.trans (hb.mono HW.out.size))
        clear hb
        dsimp only
        refine hK.out _ _ (by exact HKS.out _ HW.out) (fun hHeld => ?_)
        clear hK K
        (try simp only [Act.put, List.setIfInBounds_toArray, List.set_cons_zero, List.set_cons_succ])
        refine wpAnyT_take (i := 7) (oi := ⟨some 88, _, _, _, _, _⟩) (v := ?vg2_7) rfl (by kernel_rfl) (by kernel_rfl) (by kernel_rfl) (by kernel_rfl) (fun _ _ _ h => h) (Or.inl ⟨by rfl, ?hg2_7⟩) (by assumption) ?rg2_7
        case hg2_7 => (intro w hSw; (try dsimp only at hSw); first | (go_simp; done) | (go_simp; with_reducible rfl))
        (try simp only [Act.put, List.setIfInBounds_toArray, List.set_cons_zero, List.set_cons_succ])
        refine wpAnyT_take (i := 8) (oi := ⟨some 89, _, _, _, _, _⟩) (v := ?vg2_8) rfl (by kernel_rfl) (by kernel_rfl) (by kernel_rfl) (by kernel_rfl) (fun _ _ _ h => h) (Or.inl ⟨by rfl, ?hg2_8⟩) (by assumption) ?rg2_8
        case hg2_8 => (intro w hSw; (try dsimp only at hSw); first | (go_simp; done) | (go_simp; with_reducible rfl))
        (try simp only [Act.put, List.setIfInBounds_toArray, List.set_cons_zero, List.set_cons_succ])
        refine wpAnyT_take (i := 9) (oi := ⟨some 90, _, _, _, _, _⟩) (v := _) rfl (by kernel_rfl) (by kernel_rfl) (by kernel_rfl) (by kernel_rfl) (fun _ _ _ h => h) (yieldsIf_load_row (by rfl) 36 _ rfl X1 rfl cg1 36 (0, 0) _ (fun w hw => hw.2.2.1) Tryd.underlying36 rfl (by rw [HZG1.out]; exact map_size)) (by assumption) ?_
        (try simp only [Act.put, List.setIfInBounds_toArray, List.set_cons_zero, List.set_cons_succ])
        refine wpAnyT_take (i := 10) (oi := ⟨some 91, _, _, _, _, _⟩) (v := _) rfl (by kernel_rfl) (by kernel_rfl) (by kernel_rfl) (by kernel_rfl) (fun _ _ _ h => h) (yieldsIf_load_row (by rfl) 36 _ rfl X2 rfl cg2 36 (0, 0) _ (fun w hw => hw.2.2.2.1) Tryd.underlying36 rfl (by rw [HZG2.out]; exact map_size)) (by assumption) ?_
        (try simp only [Act.put, List.setIfInBounds_toArray, List.set_cons_zero, List.set_cons_succ])
        refine wpAnyT_take (i := 12) (oi := ⟨some 93, _, _, _, _, _⟩) (v := _) rfl (by kernel_rfl) (by kernel_rfl) (by kernel_rfl) (by kernel_rfl) (fun _ _ _ h => h) (yieldsIf_load_row (by rfl) 36 _ rfl wm.heap.size rfl cm 36 (0, 0) _ (fun w hw => hw.1) Tryd.underlying36 rfl (by rw [HZM.out]; exact map_size)) (by assumption) ?_
        (try simp only [Act.put, List.setIfInBounds_toArray, List.set_cons_zero, List.set_cons_succ])
        refine wpAnyT_one (i := 11) (o := ⟨some 92, _, _, _, _, _⟩) (by kernel_rfl) rfl (fun K hK => ?_)
        go_simp
        go_at_call 25
        (with_reducible refine (dc_Union _ s hss n (A.filter (hasE B)) cg1 s n (A.filter (fun e => !hasE B e)) cg2 (HRS1.out.later HW.out) (HRS2.out.later HW.out) (HRI.out.1.filter _) (HRI.out.1.filter _) (by have h1 := HLP.out; omega) (fun e he => HSA.out e (List.mem_filter.1 he).1) (HTB.out _ (HB.out.trans (HW.out.mono HB.out.size)))).mono ?_)
        rintro r w3 ⟨cu, rfl, hu, hb⟩
        rw [uni_parts HRI.out.1 (hasE B)] at hu
        have HU := Lib.hid hu
        replace HW := Lib.hid (HW.out.trans (hb.mono HW.out.size))
        clear hb
        clear hu
        dsimp only
        refine hK.out _ _ (by exact HKS.out _ HW.out) (fun hHeld => ?_)
        clear hK K
        (try simp only [Act.put, List.setIfInBounds_toArray, List.set_cons_zero, List.set_cons_succ])
        refine wpAnyT_one (i := 13) (o := ⟨some 94, _, _, _, _, _⟩) (by kernel_rfl) rfl (fun K hK => ?_)
        go_simp
        go_at_call 44
        (with_reducible refine (alike10 _ s hss n s hss n A cu cm HU.out (HML.out.later HW.out) HRI.out.1 HSA.out (by have := HLN.out; omega) (HTB.out _ (HB.out.trans (HW.out.mono HB.out.size)))).mono ?_)
        rintro r w3 ⟨rfl, hb⟩
        replace HW := Lib.hid (HW.out.trans (hb.mono HW.out.size))
        clear hb
        dsimp only
        refine hK.out _ _ (by exact HKS.out _ HW.out) (fun hHeld => ?_)
        clear hK K
        (try simp only [Act.put, List.setIfInBounds_toArray, List.set_cons_zero, List.set_cons_succ])
        refine wpAnyT_take (i := 14) (oi := ⟨some 95, _, _, _, _, _⟩) (v := ?vg2_14) rfl (by kernel_rfl) (by kernel_rfl) (by kernel_rfl) (by kernel_rfl) (fun _ _ _ h => h) (Or.inl ⟨by rfl, ?hg2_14⟩) (by assumption) ?rg2_14
        case hg2_14 => (intro w hSw; (try dsimp only at hSw); first | (go_simp; done) | (go_simp; with_reducible rfl))
        (try simp only [Act.put, List.setIfInBounds_toArray, List.set_cons_zero, List.set_cons_succ])
        refine wpAnyT_take (i := 15) (oi := ⟨some 96, _, _, _, _, _⟩) (v := ?vg2_15) rfl (by kernel_rfl) (by kernel_rfl) (by kernel_rfl) (by kernel_rfl) (fun _ _ _ h => h) (Or.inl ⟨by rfl, ?hg2_15⟩) (by assumption) ?rg2_15
        case hg2_15 => (intro w hSw; (try dsimp only at hSw); first | (go_simp; done) | (go_simp; with_reducible rfl))
        (try simp only [Act.put, List.setIfInBounds_toArray, List.set_cons_zero, List.set_cons_succ])
        refine wpAnyT_take (i := 16) (oi := ⟨some 97, _, _, _, _, _⟩) (v := _) rfl (by kernel_rfl) (by kernel_rfl) (by kernel_rfl) (by kernel_rfl) (fun _ _ _ h => h) (yieldsIf_load_row (by rfl) 36 _ rfl X3 rfl cg3 36 (0, 0) _ (fun w hw => hw.2.2.2.2) Tryd.underlying36 rfl (by rw [HZG3.out]; exact map_size)) (by assumption) ?_
        (try simp only [Act.put, List.setIfInBounds_toArray, List.set_cons_zero, List.set_cons_succ])
        refine wpAnyT_take (i := 18) (oi := ⟨some 99, _, _, _, _, _⟩) (v := _) rfl (by kernel_rfl) (by kernel_rfl) (by kernel_rfl) (by kernel_rfl) (fun _ _ _ h => h) (yieldsIf_load_row (by rfl) 36 _ rfl X2 rfl cg2 36 (0, 0) _ (fun w hw => hw.2.2.2.1) Tryd.underlying36 rfl (by rw [HZG2.out]; exact map_size)) (by assumption) ?_
        (try simp only [Act.put, List.setIfInBounds_toArray, List.set_cons_zero, List.set_cons_succ])
        refine wpAnyT_take (i := 20) (oi := ⟨some 101, _, _, _, _, _⟩) (v := _) rfl (by kernel_rfl) (by kernel_rfl) (by kernel_rfl) (by kernel_rfl) (fun _ _ _ h => h) (yieldsIf_load_row (by rfl) 36 _ rfl wm2.heap.size rfl cm2 36 (0, 0) _ (fun w hw => hw.2.1) Tryd.underlying36 rfl (by rw [HZM2.out]; exact map_size)) (by assumption) ?_
        (try simp only [Act.put, List.setIfInBounds_toArray, List.set_cons_zero, List.set_cons_succ])
        refine wpAnyT_one (i := 17) (o := ⟨some 98, _, _, _, _, _⟩) (by kernel_rfl) rfl (fun K hK => ?_)
        go_simp
        go_at_call 47
        (with_reducible refine (HL3.out _).mono ?_)
        rintro r w3 ⟨rfl, hb⟩
        replace HW := Lib.hid (HW.out.trans (hb.mono HW.out.size))
        clear hb
        dsimp only
        refine hK.out _ _ (by exact HKS.out _ HW.out) (fun hHeld => ?_)
        clear hK K
        (try simp only [Act.put, List.setIfInBounds_toArray, List.set_cons_zero, List.set_cons_succ])
        refine wpAnyT_one (i := 19) (o := ⟨some 100, _, _, _, _, _⟩) (by kernel_rfl) rfl (fun K hK => ?_)
        go_simp
        go_at_call 47
        (with_reducible refine (HL2.out _).mono ?_)
        rintro r w3 ⟨rfl, hb⟩
        replace HW := Lib.hid (HW.out.trans (hb.mono HW.out.size))
        clear hb
        dsimp only
        refine hK.out _ _ (by exact HKS.out _ HW.out) (fun hHeld => ?_)
        clear hK K
        (try simp only [Act.put, List.setIfInBounds_toArray, List.set_cons_zero, List.set_cons_succ])
        refine wpAnyT_one (i := 21) (o := ⟨some 102, _, _, _, _, _⟩) (by kernel_rfl) rfl (fun K hK => ?_)
        go_simp
        go_at_call 47
        (with_reducible refine (HLB.out _).mono ?_)
        rintro r w3 ⟨rfl, hb⟩
        replace HW := Lib.hid (HW.out.trans (hb.mono HW.out.size))
        clear hb
        dsimp only
        refine hK.out _ _ (by exact HKS.out _ HW.out) (fun hHeld => ?_)
        clear hK K
        (try simp only [Act.put, List.setIfInBounds_toArray, List.set_cons_zero, List.set_cons_succ])
        refine wpAnyT_take (i := 22) (oi := ⟨some 103, _, _, _, _, _⟩) (v := (.int .i64 (p3 : Int))) rfl (by kernel_rfl) (by kernel_rfl) (by kernel_rfl) (by kernel_rfl) (fun _ _ _ h => h) (Or.inl ⟨by rfl, ?hg2_22⟩) (by assumption) ?rg2_22
        case hg2_22 => (intro w hSw; (try dsimp only at hSw); go_simp; first | done | (rw [IntKind.wrap_i64]; omega))
        (try simp only [Act.put, List.setIfInBounds_toArray, List.set_cons_zero, List.set_cons_succ])
        refine wpAnyT_take (i := 23) (oi := ⟨some 104, _, _, _, _, _⟩) (v := ?vg2_23) rfl (by kernel_rfl) (by kernel_rfl) (by kernel_rfl) (by kernel_rfl) (fun _ _ _ h => h) (Or.inl ⟨by rfl, ?hg2_23⟩) (by assumption) ?rg2_23
        case hg2_23 => (intro w hSw; (try dsimp only at hSw); first | (go_simp; done) | (go_simp; with_reducible rfl))
        (try simp only [Act.put, List.setIfInBounds_toArray, List.set_cons_zero, List.set_cons_succ])
        refine wpAnyT_take (i := 24) (oi := ⟨some 105, _, _, _, _, _⟩) (v := ?vg2_24) rfl (by kernel_rfl) (by kernel_rfl) (by kernel_rfl) (by kernel_rfl) (fun _ _ _ h => h) (Or.inl ⟨by rfl, ?hg2_24⟩) (by assumption) ?rg2_24
        case hg2_24 => (intro w hSw; (try dsimp only at hSw); first | (go_simp; done) | (go_simp; with_reducible rfl))
        (try simp only [Act.put, List.setIfInBounds_toArray, List.set_cons_zero, List.set_cons_succ])
        refine wpAnyT_take (i := 25) (oi := ⟨some 106, _, _, _, _, _⟩) (v := ?vg2_25) rfl (by kernel_rfl) (by kernel_rfl) (by kernel_rfl) (by kernel_rfl) (fun _ _ _ h => h) (Or.inl ⟨by rfl, ?hg2_25⟩) (by assumption) ?rg2_25
        case hg2_25 => (intro w hSw; (try dsimp only at hSw); first | (go_simp; done) | (go_simp; with_reducible rfl))
        (try simp only [Act.put, List.setIfInBounds_toArray, List.set_cons_zero, List.set_cons_succ])
        refine wpAnyT_take (i := 26) (oi := ⟨some 107, _, _, _, _, _⟩) (v := _) rfl (by kernel_rfl) (by kernel_rfl) (by kernel_rfl) (by kernel_rfl) (fun _ _ _ h => h) (yieldsIf_load_row (by rfl) 36 _ rfl wm.heap.size rfl cm 36 (0, 0) _ (fun w hw => hw.1) Tryd.underlying36 rfl (by rw [HZM.out]; exact map_size)) (by assumption) ?_
        (try simp only [Act.put, List.setIfInBounds_toArray, List.set_cons_zero, List.set_cons_succ])
        refine wpAnyT_take (i := 27) (oi := ⟨some 108, _, _, _, _, _⟩) (v := _) rfl (by kernel_rfl) (by kernel_rfl) (by kernel_rfl) (by kernel_rfl) (fun _ _ _ h => h) (yieldsIf_load_row (by rfl) 36 _ rfl X3 rfl cg3 36 (0, 0) _ (fun w hw => hw.2.2.2.2) Tryd.underlying36 rfl (by rw [HZG3.out]; exact map_size)) (by assumption) ?_
        (try simp only [Act.put, List.setIfInBounds_toArray, List.set_cons_zero, List.set_cons_succ])
        refine wpAnyT_one (i := 28) (o := ⟨some 109, _, _, _, _, _⟩) (by kernel_rfl) rfl (fun K hK => ?_)
        go_simp
        go_at_call 29
        (with_reducible refine (dc_Less _ s hss n A cm s hss n (uniE A B) cg3 (HML.out.later HW.out) (HRS3.out.later HW.out) HRI.out.1 (uni_rise HRI.out.2 A) (by have := HLN.out; omega) (by have h := uni_len HRI.out.2 A; have := HLN.out; omega) HSA.out (HTB.out _ (HB.out.trans (HW.out.mono HB.out.size)))).mono ?_)
        rintro r w3 ⟨cd, rfl, hu, hb⟩
        rw [less_all HRI.out.1 HRI.out.2] at hu
        have HLD := Lib.hid (ml_Len _ s n [] cd hu)
        replace HW := Lib.hid (HW.out.trans (hb.mono HW.out.size))
        clear hb
        clear hu
        dsimp only
        refine hK.out _ _ (by exact HKS.out _ HW.out) (fun hHeld => ?_)
        clear hK K
        (try simp only [Act.put, List.setIfInBounds_toArray, List.set_cons_zero, List.set_cons_succ])
        refine wpAnyT_one (i := 29) (o := ⟨some 110, _, _, _, _, _⟩) (by kernel_rfl) rfl (fun K hK => ?_)
        go_simp
        go_at_call 47
        (with_reducible refine (HLD.out _).mono ?_)
        rintro r w3 ⟨rfl, hb⟩
        replace HW := Lib.hid (HW.out.trans (hb.mono HW.out.size))
        clear hb
        dsimp only
        refine hK.out _ _ (by exact HKS.out _ HW.out) (fun hHeld => ?_)
        clear hK K
        (try simp only [Act.put, List.setIfInBounds_toArray, List.set_cons_zero, List.set_cons_succ])
        refine wpAnyT_take (i := 30) (oi := ⟨some 111, _, _, _, _, _⟩) (v := ?vg2_30) rfl (by kernel_rfl) (by kernel_rfl) (by kernel_rfl) (by kernel_rfl) (fun _ _ _ h => h) (Or.inl ⟨by rfl, ?hg2_30⟩) (by assumption) ?rg2_30
        case hg2_30 => (intro w hSw; (try dsimp only at hSw); first | (go_simp; done) | (go_simp; with_reducible rfl))
        (try simp only [Act.put, List.setIfInBounds_toArray, List.set_cons_zero, List.set_cons_succ])
        refine wpAnyT_take (i := 31) (oi := ⟨some 112, _, _, _, _, _⟩) (v := ?vg2_31) rfl (by kernel_rfl) (by kernel_rfl) (by kernel_rfl) (by kernel_rfl) (fun _ _ _ h => h) (Or.inl ⟨by rfl, ?hg2_31⟩) (by assumption) ?rg2_31
        case hg2_31 => (intro w hSw; (try dsimp only at hSw); first | (go_simp; done) | (go_simp; with_reducible rfl))
        (try simp only [Act.put, List.setIfInBounds_toArray, List.set_cons_zero, List.set_cons_succ])
        refine wpAnyT_take (i := 32) (oi := ⟨some 8, _, _, _, _, _⟩) (v := ?vg2_32) rfl (by kernel_rfl) (by kernel_rfl) (by kernel_rfl) (by kernel_rfl) (fun _ _ _ h => h) (Or.inl ⟨by rfl, ?hg2_32⟩) (by assumption) ?rg2_32
        case hg2_32 => (intro w hSw; (try dsimp only at hSw); first | (go_simp; done) | (go_simp; with_reducible rfl))
        (try simp only [Act.put, List.setIfInBounds_toArray, List.set_cons_zero, List.set_cons_succ])
        refine wpAnyT_done (by kernel_rfl) ?_ _
        clear hHeld
        go_wp2_with fail
        go_ret
        exact ⟨rfl, HB.out.trans (HW.out.mono HB.out.size)⟩
theorem dictParts_walk (s : Nat) (n : Int) (s2 : Nat) (n2 : Int) (va : Value) (l : List Ent) (va2 : Value) (l2 : List Ent) (hss : s < 18446744073709551616) (hss2 : s2 < 18446744073709551616) (w : World) (hl : Prs w va l) (hl2 : Prs w va2 l2) (hT : Tab6 w) :
    Calls Tryd.prog 9 #[.agg #[.int .u64 (s : Int), .int .i64 n], .agg #[.int .u64 (s2 : Int), .int .i64 n2], va, va2] w fun e w' => e = .returned (.bool true) ∧ Below w.heap.size w w' := dictParts_of s n s2 n2 va va2 l l2 w hss hss2 hl hl2 hT
end Go.Proofs.YtnnlfgfgfegjkaaDoor
