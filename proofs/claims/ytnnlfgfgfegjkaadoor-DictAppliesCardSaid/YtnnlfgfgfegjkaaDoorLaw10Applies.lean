/- Layer 10's law DictApplies. (written by tools/gen10/applies.py) -/
import Derived.Test.YtnnlfgfgfegjkaaDoorLaw10P
namespace Go.Proofs.YtnnlfgfgfegjkaaDoor
open Go.RowKit
set_option maxRecDepth 1000000
set_option linter.unusedSimpArgs false

theorem rows_beside {B B' : Nat} {e e' : TypeId} {s s' : Nat} {v v' : Value} {cs cs' : List (Array Value)} {w w' : World} (h : RowsOwn B e s v cs w) (h' : RowsOwn B' e' s' v' cs' w) (hT : e ≠ e') (hg : w.grownBy w' v'.ownBlock) : RowsOwn B e s v cs w' := by
  refine h.grown hg ?_
  cases hv : v.ownBlock with
  | none => exact .inl rfl
  | some X =>
    refine .inr fun he => ?_
    obtain ⟨c1, f1, h1⟩ := h.typed' X hv
    obtain ⟨c2, f2, h2⟩ := h'.typed' X he.symm
    rw [h1] at h2
    simp only [Option.some.injEq, Obj.cells.injEq] at h2
    exact hT h2.2.1
theorem rows_off {B : Nat} {e T : TypeId} {s : Nat} {v : Value} {cs : List (Array Value)} {w : World} (h : RowsOwn B e s v cs w) {X : Nat} (hX : v.ownBlock = some X) (hT : e ≠ T) {c : Array Value} {fr : Nat × Nat} (h' : w.heap[X]? = some (.cells c T fr)) : False := by
  obtain ⟨c1, f1, h1⟩ := h.typed' X hX
  rw [h'] at h1
  simp only [Option.some.injEq, Obj.cells.injEq] at h1
  exact hT h1.2.1.symm
set_option maxHeartbeats 8000000 in
theorem dictApplies_of (s : Nat) (n : Int) (va : Value) (l : List Ent) (vm : Value) (more : List Chg) (w : World) (hss : s < 18446744073709551616) (hl : Prs w va l) (hm : Aps w vm more) (hT : Tab6 w) :
    Calls Tryd.prog 7 #[.agg #[.int .u64 (s : Int), .int .i64 n], va, vm] w fun e w' => e = .returned (.bool true) ∧ Below w.heap.size w w' := by
  have HTB := Lib.hid (fun W (h : Below w.heap.size w W) => hT.below h)
  have HFEW := Lib.hid (fun W (h : Below w.heap.size w W) => few10 va l W (hl.later h))
  obtain ⟨w0, hw0⟩ : ∃ w0, w.alloc (.cells #[.int .u64 (s : Int), .int .i64 n] 24) = w0 := ⟨_, rfl⟩
  obtain ⟨hb0, hx0, hs0⟩ := new_below hw0
  have HC := Lib.hid hx0
  have HB := Lib.hid hb0
  clear hT hb0 hx0 hs0
  by_cases hf1 : few10B l = true
  case neg =>
    rw [show few10B l = false by simpa using hf1] at HFEW
    clear hl hm
    go_enter Tryd.func7, Tryd.ntmps7
    go_upto_region 1 with fail
    clear hw0
    go_wp2_with (first
      | (go_at_call 11; (with_reducible refine (live10 _ (HTB.out _ HB.out)).mono ?_); rintro e w1 ⟨rfl, hb⟩; replace HC := Lib.hid ((hb.block _ (Array.getElem?_eq_some_iff.1 HC.out).1).trans HC.out); replace HB := Lib.hid (HB.out.trans (hb.mono HB.out.size)); clear hb)
      | (go_at_call 12; (with_reducible refine (HFEW.out _ HB.out).mono ?_); rintro e w1 ⟨rfl, hb⟩; replace HC := Lib.hid ((hb.block _ (Array.getElem?_eq_some_iff.1 HC.out).1).trans HC.out); replace HB := Lib.hid (HB.out.trans (hb.mono HB.out.size)); clear hb))
    go_ret
    exact ⟨rfl, HB.out⟩
  have HF := Lib.hid (few10_prs hf1)
  rw [hf1] at HFEW
  clear hf1
  obtain ⟨am, cpm, bm, om, rfl, hm1, hm2, hm3⟩ := hm
  obtain ⟨M, hM⟩ : ∃ M, M = more.length := ⟨_, rfl⟩
  rw [← hM]
  by_cases hk1 : (M : Int) ≤ 80
  case neg =>
    have hk2 : (80 : Int) < (M : Int) := by omega
    have hk4 : (M : Int) ≤ 9223372036854775807 := by unfold maxLen at hm3; omega
    clear hk1 hm1 hm2 hm3 hM
    clear hl
    go_enter Tryd.func7, Tryd.ntmps7
    go_upto_region 1 with fail
    clear hw0
    go_wp2_with (first
      | (go_at_call 11; (with_reducible refine (live10 _ (HTB.out _ HB.out)).mono ?_); rintro e w1 ⟨rfl, hb⟩; replace HC := Lib.hid ((hb.block _ (Array.getElem?_eq_some_iff.1 HC.out).1).trans HC.out); replace HB := Lib.hid (HB.out.trans (hb.mono HB.out.size)); clear hb)
      | (go_at_call 12; (with_reducible refine (HFEW.out _ HB.out).mono ?_); rintro e w1 ⟨rfl, hb⟩; replace HC := Lib.hid ((hb.block _ (Array.getElem?_eq_some_iff.1 HC.out).1).trans HC.out); replace HB := Lib.hid (HB.out.trans (hb.mono HB.out.size)); clear hb))
    go_ret
    exact ⟨rfl, HB.out⟩
  have HMO : Hid (M = more.length ∧ M ≤ 80) := ⟨hM, by omega⟩
  have HLO := Lib.hid hm1
  have HLC := Lib.hid hm2
  have HMD := Lib.hid (fun W (h : Below w.heap.size w W) => made10 W s hss n va l (hl.later h) HF.out.1 (by have := HF.out.2; omega) (HTB.out _ h))
  clear hl hm1 hm2 hm3 hM
  go_enter Tryd.func7, Tryd.ntmps7
  go_upto_region 1 with fail
  clear hw0
  go_upto_region 4 with (first
    | (go_at_call 11; (with_reducible refine (live10 _ (HTB.out _ HB.out)).mono ?_); rintro e w1 ⟨rfl, hb⟩; replace HC := Lib.hid ((hb.block _ (Array.getElem?_eq_some_iff.1 HC.out).1).trans HC.out); replace HB := Lib.hid (HB.out.trans (hb.mono HB.out.size)); clear hb)
    | (go_at_call 12; (with_reducible refine (HFEW.out _ HB.out).mono ?_); rintro e w1 ⟨rfl, hb⟩; replace HC := Lib.hid ((hb.block _ (Array.getElem?_eq_some_iff.1 HC.out).1).trans HC.out); replace HB := Lib.hid (HB.out.trans (hb.mono HB.out.size)); clear hb)
    | (refine ld_if (by rfl) 24 _ rfl w.heap.size rfl 24 _ _ _ HC.out Tryd.underlying24 rfl (by exact api_size) ?_)
    | (go_at_call 13; (with_reducible refine (HMD.out _ HB.out).mono ?_); rintro e wm ⟨cm, cw, rfl, hm, hw, hb⟩; replace HC := Lib.hid ((hb.block _ (Array.getElem?_eq_some_iff.1 HC.out).1).trans HC.out); replace HB := Lib.hid (HB.out.trans (hb.mono HB.out.size)); have HMA := Lib.hid hm; have HWA := Lib.hid hw; have HZM := Lib.hid hm.size; have HZW := Lib.hid hw.size; have HLW : Hid (w.heap.size + 1 ≤ wm.heap.size) := (by show _ ≤ _; have h0 := (Array.getElem?_eq_some_iff.1 HC.out).1; omega); clear hm hw hb)
    | (refine st_agg rfl 36 _ _ rfl wm.heap.size cm rfl rfl 36 mapZ (two_newG rfl).2.1 (by rw [HZM.out]; exact map_size) (by rw [HZM.out]; rfl) HMA.out.one ?_; intro w4 h4 k4; have hb4 : Below wm.heap.size wm w4 := (two_newG rfl).1.trans (k4.below (Nat.le_refl _)); have HY : Hid (w4.heap[wm.heap.size + 1]? = some (.cells refZ 40 (0, 0))) := k4.other (two_newG rfl).2.2.1 (by omega); replace HC := Lib.hid ((hb4.block _ (Array.getElem?_eq_some_iff.1 HC.out).1).trans HC.out); replace HB := Lib.hid (HB.out.trans (hb4.mono HB.out.size)); have HM : Hid (MB w4 s n (uniE l []) wm.heap.size) := ⟨cm, h4, HMA.out.later hb4⟩; replace HWA := Lib.hid (HWA.out.later hb4); clear h4 k4 hb4)
    | (refine st_agg rfl 40 _ _ rfl (wm.heap.size + 1) cw rfl rfl 40 refZ HY.out (by rw [HZW.out]; exact refm_size) (by rw [HZW.out]; rfl) HWA.out.one ?_; intro w5 h5 k5; have hlw : w.heap.size + 1 ≤ wm.heap.size := HLW.out; replace HC := Lib.hid (k5.other HC.out (by omega)); replace HM := Lib.hid (HM.out.only k5 HY.out (by omega) (by decide)); replace HB := Lib.hid (HB.out.trans (k5.below (by omega))); have HN : Hid (RB w5 (uniE l []) (wm.heap.size + 1)) := RB.wrote h5 k5 HY.out HWA.out; clear h5 k5 hlw))
  obtain ⟨cm, hxm, hmm⟩ := HM.out
  obtain ⟨cn, hxn, hmn⟩ := HN.out
  have HXM := Lib.hid hxm
  have HXN := Lib.hid hxn
  have HML := Lib.hid hmm
  have HRL := Lib.hid hmn
  have HZM := Lib.hid hmm.size
  have HZN := Lib.hid hmn.size
  clear hxm hxn hmm hmn HM HN
  have HRI := Lib.hid (uni_rise Rise.nil l)
  have HSH := Lib.hid (short_uni (A := l) (fun e he => HF.out.1 e he) short_nil)
  have HLN : Hid ((uniE l []).length ≤ 80) := by show _ ≤ _; have h := uni_len Rise.nil l; rw [List.length_nil] at h; have := HF.out.2; omega
  obtain ⟨A, hA⟩ : ∃ D, D = uniE l [] := ⟨_, rfl⟩
  rw [← hA] at HML HRL HRI HSH HLN
  clear hA
  have HR1 : Hid (RowsOwn w.heap.size 73 5 (.slice none 0 0) ((more.take 0).map chgC) w5) := by show RowsOwn _ _ _ _ _ _; rw [List.take_zero]; exact rows_nil HB.out.size
  have HR2 : Hid (RowsOwn w.heap.size 74 5 (.slice none 0 0) ((more.take 0).map chgC) w5) := by show RowsOwn _ _ _ _ _ _; rw [List.take_zero]; exact rows_nil HB.out.size
  go_wp2_with fail
  go_loopw [9, 10, 34] (fun v1 v2 i wl => ∃ j : Nat, i = .int .i64 (j : Int) ∧ j ≤ M ∧ Hid (∀ x ∈ more.take j, x.1.size ≤ 200) ∧ Hid (wl.heap[w.heap.size]? = some (.cells #[.int .u64 (s : Int), .int .i64 n] 24 (0, 0))) ∧ Hid (wl.heap[wm.heap.size]? = some (.cells cm 36 (0, 0))) ∧ Hid (wl.heap[(wm.heap.size + 1)]? = some (.cells cn 40 (0, 0))) ∧ Hid (ML wl s n A cm) ∧ Hid (RefM wl cn A) ∧ Hid (RowsOwn w.heap.size 73 5 v1 ((more.take j).map chgC) wl) ∧ Hid (RowsOwn w.heap.size 74 5 v2 ((more.take j).map chgC) wl) ∧ Hid (Below w.heap.size w wl)) (fun _ _ i _ => M - (intOf i).toNat)
  case atStart => exact ⟨0, rfl, Nat.zero_le _, (fun x hx => by simp at hx), HC, HXM, HXN, HML, HRL, HR1, HR2, HB⟩
  case round =>
    clear HC HXM HXN HML HRL HR1 HR2 HB
    obtain ⟨j, rfl, hj, HKM, HC, HXM, HXN, HML, HRL, HR1, HR2, HB⟩ := hrel
    by_cases hlt : j < M
    · have hlt' : (j : Int) < (M : Int) := by omega
      have hjL : j < more.length := by rw [← HMO.out.1]; exact hlt
      have had : am = some ⟨bm, om, none⟩ := HLO.out (by omega)
      subst had
      have HOP := Lib.hid ((HLC.out j hjL).later HB.out)
      have HTK := Lib.hid (List.take_succ_eq_append_getElem hjL)
      have HLT := Lib.hid hlt
      have HOL : Hid (((more.take j).map chgC).length ≤ 100000) := by show _ ≤ _; rw [List.length_map, List.length_take]; have := HMO.out; omega
      obtain ⟨⟨c1, c2, c3, c4, c5⟩, ho⟩ : ∃ o, o = more[j] := ⟨_, rfl⟩
      rw [← ho] at HOP HTK
      clear ho hjL hlt
      go_upto_region 9 with (refine ld_ap (by rfl) _ rfl bm (om + j * 5) rfl (c1, c2, c3, c4, c5) HOP.out ?_)
      obtain ⟨w5b, hw5⟩ : ∃ w5, wr.alloc (.cells (chgC (c1, c2, c3, c4, c5)) 72) = w5 := ⟨_, rfl⟩
      obtain ⟨hb5, hx5, hs5⟩ := new_below hw5
      have HXC := Lib.hid hx5
      replace HC := Lib.hid ((hb5.block _ (Array.getElem?_eq_some_iff.1 HC.out).1).trans HC.out)
      replace HXM := Lib.hid ((hb5.block _ (Array.getElem?_eq_some_iff.1 HXM.out).1).trans HXM.out)
      replace HXN := Lib.hid ((hb5.block _ (Array.getElem?_eq_some_iff.1 HXN.out).1).trans HXN.out)
      replace HML := Lib.hid (HML.out.later hb5)
      replace HRL := Lib.hid (HRL.out.later hb5)
      replace HR1 := Lib.hid (HR1.out.later hb5)
      replace HR2 := Lib.hid (HR2.out.later hb5)
      replace HB := Lib.hid (HB.out.trans (hb5.mono HB.out.size))
      have q0 := cell_in HXC.out (j := 0) (v := .string c1) rfl
      have q1 := cell_in HXC.out (j := 1) (v := .bool c2) rfl
      have q2 := cell_in HXC.out (j := 2) (v := .bool c3) rfl
      have q3 := cell_in HXC.out (j := 3) (v := .int .i64 c4) rfl
      have q4 := cell_in HXC.out (j := 4) (v := .int .i64 c5) rfl
      rw [hw5]
      clear hb5 hx5 hs5 hw5 HOP
      by_cases h15 : (200 : Int) < (c1.size : Int)
      · go_wp2_with fail
        go_ret
        exact ⟨rfl, HB.out⟩
      · go_wp2_with (first
          | (refine bs_list rfl 59 73 _ rfl (chgC (c1, c2, c3, c4, c5)) 5 (.agg chgZ) rfl rfl (by decide) (by decide) Tryd.underlying59 rfl ?_; intro w6 h6 hb6 hs6; replace HC := Lib.hid ((hb6.block _ (Array.getElem?_eq_some_iff.1 HC.out).1).trans HC.out); replace HXM := Lib.hid ((hb6.block _ (Array.getElem?_eq_some_iff.1 HXM.out).1).trans HXM.out); replace HXN := Lib.hid ((hb6.block _ (Array.getElem?_eq_some_iff.1 HXN.out).1).trans HXN.out); replace HML := Lib.hid (HML.out.later hb6); replace HRL := Lib.hid (HRL.out.later hb6); replace HR1 := Lib.hid (HR1.out.later hb6); replace HR2 := Lib.hid (HR2.out.later hb6); replace HB := Lib.hid (HB.out.trans (hb6.mono HB.out.size)); replace HXC := Lib.hid ((hb6.block _ (Array.getElem?_eq_some_iff.1 HXC.out).1).trans HXC.out); have HGa := Lib.hid h6; clear h6 hb6 hs6)
          | (refine rows_list rfl (z := .agg chgZ) (by_ := 40) 59 73 _ _ rfl rfl HR1.out _ rfl HGa.out rfl (chgC_one _) Tryd.underlying59 rfl rfl (by decide) HOL.out (by decide) ?_; intro v7a w7 hr7 hg7; replace HXC := Lib.hid (HR1.out.keepsT hg7 (by decide) HXC.out); replace HC := Lib.hid (HR1.out.keepsT hg7 (by decide) HC.out); replace HXM := Lib.hid (HR1.out.keepsT hg7 (by decide) HXM.out); replace HXN := Lib.hid (HR1.out.keepsT hg7 (by decide) HXN.out); replace HML := Lib.hid (HML.out.kept hg7 (HR1.out.typed') (by decide)); replace HRL := Lib.hid (HRL.out.kept hg7 (fun X e cs fr h' => rows_off HR1.out e (by decide) h') (fun X e cs fr h' => rows_off HR1.out e (by decide) h')); replace HR2 := Lib.hid (rows_beside HR2.out HR1.out (by decide) hg7); replace HB := Lib.hid (HB.out.trans (HR1.out.below hg7 (Nat.le_refl _) HB.out.size)); replace HR1 := Lib.hid hr7; clear hr7 hg7; have q0 := cell_in HXC.out (j := 0) (v := .string c1) rfl; have q1 := cell_in HXC.out (j := 1) (v := .bool c2) rfl; have q2 := cell_in HXC.out (j := 2) (v := .bool c3) rfl; have q3 := cell_in HXC.out (j := 3) (v := .int .i64 c4) rfl; have q4 := cell_in HXC.out (j := 4) (v := .int .i64 c5) rfl)
          | (refine bs_list rfl 64 74 _ rfl (chgC (c1, c2, c3, c4, c5)) 5 (.agg chgZ) rfl rfl (by decide) (by decide) Tryd.underlying64 rfl ?_; intro w6 h6 hb6 hs6; replace HC := Lib.hid ((hb6.block _ (Array.getElem?_eq_some_iff.1 HC.out).1).trans HC.out); replace HXM := Lib.hid ((hb6.block _ (Array.getElem?_eq_some_iff.1 HXM.out).1).trans HXM.out); replace HXN := Lib.hid ((hb6.block _ (Array.getElem?_eq_some_iff.1 HXN.out).1).trans HXN.out); replace HML := Lib.hid (HML.out.later hb6); replace HRL := Lib.hid (HRL.out.later hb6); replace HR1 := Lib.hid (HR1.out.later hb6); replace HR2 := Lib.hid (HR2.out.later hb6); replace HB := Lib.hid (HB.out.trans (hb6.mono HB.out.size)); replace HXC := Lib.hid ((hb6.block _ (Array.getElem?_eq_some_iff.1 HXC.out).1).trans HXC.out); have HGb := Lib.hid h6; clear h6 hb6 hs6)
          | (refine rows_list rfl (z := .agg chgZ) (by_ := 40) 64 74 _ _ rfl rfl HR2.out _ rfl HGb.out rfl (chgC_one _) Tryd.underlying64 rfl rfl (by decide) HOL.out (by decide) ?_; intro v7b w7 hr7 hg7; replace HXC := Lib.hid (HR2.out.keepsT hg7 (by decide) HXC.out); replace HC := Lib.hid (HR2.out.keepsT hg7 (by decide) HC.out); replace HXM := Lib.hid (HR2.out.keepsT hg7 (by decide) HXM.out); replace HXN := Lib.hid (HR2.out.keepsT hg7 (by decide) HXN.out); replace HML := Lib.hid (HML.out.kept hg7 (HR2.out.typed') (by decide)); replace HRL := Lib.hid (HRL.out.kept hg7 (fun X e cs fr h' => rows_off HR2.out e (by decide) h') (fun X e cs fr h' => rows_off HR2.out e (by decide) h')); replace HR1 := Lib.hid (rows_beside HR1.out HR2.out (by decide) hg7); replace HB := Lib.hid (HB.out.trans (HR2.out.below hg7 (Nat.le_refl _) HB.out.size)); replace HR2 := Lib.hid hr7; clear hr7 hg7; have q0 := cell_in HXC.out (j := 0) (v := .string c1) rfl; have q1 := cell_in HXC.out (j := 1) (v := .bool c2) rfl; have q2 := cell_in HXC.out (j := 2) (v := .bool c3) rfl; have q3 := cell_in HXC.out (j := 3) (v := .int .i64 c4) rfl; have q4 := cell_in HXC.out (j := 4) (v := .int .i64 c5) rfl))
        go_roundw
        case rel =>
          refine ⟨j + 1, by simp, by have := HLT.out; omega, ?_, HC, HXM, HXN, HML, HRL, ?_, ?_, HB⟩
          · show ∀ x ∈ more.take (j + 1), x.1.size ≤ 200
            intro x hx
            rw [HTK.out, List.mem_append, List.mem_singleton] at hx
            rcases hx with hx | rfl
            · exact HKM.out x hx
            · show c1.size ≤ 200; omega
          · show RowsOwn _ _ _ _ _ _
            rw [HTK.out, List.map_append]
            exact HR1.out
          · show RowsOwn _ _ _ _ _ _
            rw [HTK.out, List.map_append]
            exact HR2.out
        case measure => have := HLT.out; simp [intOf]; omega
    · obtain rfl : j = M := by omega
      rw [HMO.out.1, List.take_length] at HKM HR1 HR2
      go_upto_region 14 with fail
      have HKS : Hid (∀ V, Below wr.heap.size wr V → V.heap[wm.heap.size]? = some (.cells cm 36 (0, 0)) ∧ V.heap[(wm.heap.size + 1)]? = some (.cells cn 40 (0, 0)) ∧ V.heap[w.heap.size]? = some (.cells #[.int .u64 (s : Int), .int .i64 n] 24 (0, 0))) := fun V hV => ⟨(hV.block _ (Array.getElem?_eq_some_iff.1 HXM.out).1).trans HXM.out, (hV.block _ (Array.getElem?_eq_some_iff.1 HXN.out).1).trans HXN.out, (hV.block _ (Array.getElem?_eq_some_iff.1 HC.out).1).trans HC.out⟩
      have HW : Hid (Below wr.heap.size wr wr.drew) := drawn_below wr
      refine wp_region_T (S := (fun V => V.heap[wm.heap.size]? = some (.cells cm 36 (0, 0)) ∧ V.heap[(wm.heap.size + 1)]? = some (.cells cn 40 (0, 0)) ∧ V.heap[w.heap.size]? = some (.cells #[.int .u64 (s : Int), .int .i64 n] 24 (0, 0)))) [] (by kernel_rfl) (by exact HKS.out _ HW.out) (fun hHeld => ?_)
      refine wpAnyT_take (i := 0) (oi := ⟨some 71, _, _, _, _, _⟩) (v := _) rfl (by kernel_rfl) (by kernel_rfl) (by kernel_rfl) (by kernel_rfl) (fun _ _ _ h => h) (yieldsIf_load_row (by rfl) 36 _ rfl wm.heap.size rfl cm 36 (0, 0) _ (fun w hw => hw.1) Tryd.underlying36 rfl (by rw [HZM.out]; exact map_size)) (by assumption) ?_
      (try simp only [Act.put, List.setIfInBounds_toArray, List.set_cons_zero, List.set_cons_succ])
      refine wpAnyT_take (i := 1) (oi := ⟨some 72, _, _, _, _, _⟩) (v := ?vg1_1) rfl (by kernel_rfl) (by kernel_rfl) (by kernel_rfl) (by kernel_rfl) (fun _ _ _ h => h) (Or.inl ⟨by rfl, ?hg1_1⟩) (by assumption) ?rg1_1
      case hg1_1 => (intro w hSw; (try dsimp only at hSw); first | (go_simp; done) | (go_simp; with_reducible rfl))
      (try simp only [Act.put, List.setIfInBounds_toArray, List.set_cons_zero, List.set_cons_succ])
      refine wpAnyT_take (i := 3) (oi := ⟨some 74, _, _, _, _, _⟩) (v := _) rfl (by kernel_rfl) (by kernel_rfl) (by kernel_rfl) (by kernel_rfl) (fun _ _ _ h => h) (yieldsIf_load_row (by rfl) 24 _ rfl w.heap.size rfl #[.int .u64 (s : Int), .int .i64 n] 24 (0, 0) _ (fun w hw => hw.2.2) Tryd.underlying24 rfl (by exact api_size)) (by assumption) ?_
      (try simp only [Act.put, List.setIfInBounds_toArray, List.set_cons_zero, List.set_cons_succ])
      refine wpAnyT_take (i := 4) (oi := ⟨some 75, _, _, _, _, _⟩) (v := _) rfl (by kernel_rfl) (by kernel_rfl) (by kernel_rfl) (by kernel_rfl) (fun _ _ _ h => h) (yieldsIf_load_row (by rfl) 40 _ rfl (wm.heap.size + 1) rfl cn 40 (0, 0) _ (fun w hw => hw.2.1) Tryd.underlying40 rfl (by rw [HZN.out]; exact refm_size)) (by assumption) ?_
      (try simp only [Act.put, List.setIfInBounds_toArray, List.set_cons_zero, List.set_cons_succ])
      refine wpAnyT_take (i := 5) (oi := ⟨some 76, _, _, _, _, _⟩) (v := ?vg1_5) rfl (by kernel_rfl) (by kernel_rfl) (by kernel_rfl) (by kernel_rfl) (fun _ _ _ h => h) (Or.inl ⟨by rfl, ?hg1_5⟩) (by assumption) ?rg1_5
      case hg1_5 => (intro w hSw; (try dsimp only at hSw); first | (go_simp; done) | (go_simp; with_reducible rfl))
      (try simp only [Act.put, List.setIfInBounds_toArray, List.set_cons_zero, List.set_cons_succ])
      refine wpAnyT_one (i := 2) (o := ⟨some 73, _, _, _, _, _⟩) (by kernel_rfl) rfl (fun K hK => ?_)
      go_simp
      go_at_call 41
      (with_reducible refine (dc_Apply _ s hss n A cm _ more (HML.out.later HW.out) HRI.out (by have := HLN.out; have := HMO.out; omega) (HR1.out.chl.later HW.out) HKM.out (HTB.out _ (HB.out.trans (HW.out.mono HB.out.size)))).mono ?_)
      rintro r w3 ⟨cu, rfl, hu, hb⟩
      have HU := Lib.hid hu
      replace HW := Lib.hid (HW.out.trans (hb.mono HW.out.size))
      clear hb
      clear hu
      dsimp only
      refine hK.out _ _ (by exact HKS.out _ HW.out) (fun hHeld => ?_)
      clear hK K
      (try simp only [Act.put, List.setIfInBounds_toArray, List.set_cons_zero, List.set_cons_succ])
      refine wpAnyT_one (i := 6) (o := ⟨some 77, _, _, _, _, _⟩) (by kernel_rfl) rfl (fun K hK => ?_)
      go_simp
      go_at_call 42
      (with_reducible refine (rf_Apply _ A cn _ more (HRL.out.later HW.out) HRI.out (by have := HLN.out; have := HMO.out; omega) (HR2.out.chl.later HW.out) HSH.out HKM.out).mono ?_)
      rintro r w3 ⟨cv, rfl, hv, hb⟩
      have HV := Lib.hid hv
      replace HU := Lib.hid (HU.out.later hb)
      replace HW := Lib.hid (HW.out.trans (hb.mono HW.out.size))
      clear hb
      clear hv
      dsimp only
      refine hK.out _ _ (by exact HKS.out _ HW.out) (fun hHeld => ?_)
      clear hK K
      (try simp only [Act.put, List.setIfInBounds_toArray, List.set_cons_zero, List.set_cons_succ])
      refine wpAnyT_one (i := 7) (o := ⟨some 78, _, _, _, _, _⟩) (by kernel_rfl) rfl (fun K hK => ?_)
      go_simp
      go_at_call 24
      (with_reducible refine (same10 _ s hss n (appsE A more) cu cv HU.out HV.out (apps_rise HRI.out more) (by have h := short_apps HSH.out HKM.out more.length; rwa [List.take_length] at h) (by have h := apps_len HRI.out more; have := HLN.out; have := HMO.out; omega) (HTB.out _ (HB.out.trans (HW.out.mono HB.out.size)))).mono ?_)
      rintro r w3 ⟨rfl, hb⟩
      replace HW := Lib.hid (HW.out.trans (hb.mono HW.out.size))
      clear hb
      dsimp only
      refine hK.out _ _ (by exact HKS.out _ HW.out) (fun hHeld => ?_)
      clear hK K
      (try simp only [Act.put, List.setIfInBounds_toArray, List.set_cons_zero, List.set_cons_succ])
      refine wpAnyT_take (i := 8) (oi := ⟨some 79, _, _, _, _, _⟩) (v := ?vg1_8) rfl (by kernel_rfl) (by kernel_rfl) (by kernel_rfl) (by kernel_rfl) (fun _ _ _ h => h) (Or.inl ⟨by rfl, ?hg1_8⟩) (by assumption) ?rg1_8
      case hg1_8 => (intro w hSw; (try dsimp only at hSw); first | (go_simp; done) | (go_simp; with_reducible rfl))
      (try simp only [Act.put, List.setIfInBounds_toArray, List.set_cons_zero, List.set_cons_succ])
      refine wpAnyT_take (i := 9) (oi := ⟨some 80, _, _, _, _, _⟩) (v := _) rfl (by kernel_rfl) (by kernel_rfl) (by kernel_rfl) (by kernel_rfl) (fun _ _ _ h => h) (yieldsIf_load_row (by rfl) 36 _ rfl wm.heap.size rfl cm 36 (0, 0) _ (fun w hw => hw.1) Tryd.underlying36 rfl (by rw [HZM.out]; exact map_size)) (by assumption) ?_
      (try simp only [Act.put, List.setIfInBounds_toArray, List.set_cons_zero, List.set_cons_succ])
      refine wpAnyT_take (i := 10) (oi := ⟨some 81, _, _, _, _, _⟩) (v := _) rfl (by kernel_rfl) (by kernel_rfl) (by kernel_rfl) (by kernel_rfl) (fun _ _ _ h => h) (yieldsIf_load_row (by rfl) 24 _ rfl w.heap.size rfl #[.int .u64 (s : Int), .int .i64 n] 24 (0, 0) _ (fun w hw => hw.2.2) Tryd.underlying24 rfl (by exact api_size)) (by assumption) ?_
      (try simp only [Act.put, List.setIfInBounds_toArray, List.set_cons_zero, List.set_cons_succ])
      refine wpAnyT_take (i := 11) (oi := ⟨some 82, _, _, _, _, _⟩) (v := _) rfl (by kernel_rfl) (by kernel_rfl) (by kernel_rfl) (by kernel_rfl) (fun _ _ _ h => h) (yieldsIf_load_row (by rfl) 40 _ rfl (wm.heap.size + 1) rfl cn 40 (0, 0) _ (fun w hw => hw.2.1) Tryd.underlying40 rfl (by rw [HZN.out]; exact refm_size)) (by assumption) ?_
      (try simp only [Act.put, List.setIfInBounds_toArray, List.set_cons_zero, List.set_cons_succ])
      refine wpAnyT_one (i := 12) (o := ⟨some 83, _, _, _, _, _⟩) (by kernel_rfl) rfl (fun K hK => ?_)
      go_simp
      go_at_call 24
      (with_reducible refine (same10 _ s hss n A cm cn (HML.out.later HW.out) (HRL.out.later HW.out) HRI.out HSH.out (by have := HLN.out; omega) (HTB.out _ (HB.out.trans (HW.out.mono HB.out.size)))).mono ?_)
      rintro r w3 ⟨rfl, hb⟩
      replace HW := Lib.hid (HW.out.trans (hb.mono HW.out.size))
      clear hb
      dsimp only
      refine hK.out _ _ (by exact HKS.out _ HW.out) (fun hHeld => ?_)
      clear hK K
      (try simp only [Act.put, List.setIfInBounds_toArray, List.set_cons_zero, List.set_cons_succ])
      refine wpAnyT_take (i := 13) (oi := ⟨some 84, _, _, _, _, _⟩) (v := ?vg1_13) rfl (by kernel_rfl) (by kernel_rfl) (by kernel_rfl) (by kernel_rfl) (fun _ _ _ h => h) (Or.inl ⟨by rfl, ?hg1_13⟩) (by assumption) ?rg1_13
      case hg1_13 => (intro w hSw; (try dsimp only at hSw); first | (go_simp; done) | (go_simp; with_reducible rfl))
      (try simp only [Act.put, List.setIfInBounds_toArray, List.set_cons_zero, List.set_cons_succ])
      refine wpAnyT_take (i := 14) (oi := ⟨some 6, _, _, _, _, _⟩) (v := ?vg1_14) rfl (by kernel_rfl) (by kernel_rfl) (by kernel_rfl) (by kernel_rfl) (fun _ _ _ h => h) (Or.inl ⟨by rfl, ?hg1_14⟩) (by assumption) ?rg1_14
      case hg1_14 => (intro w hSw; (try dsimp only at hSw); first | (go_simp; done) | (go_simp; with_reducible rfl))
      (try simp only [Act.put, List.setIfInBounds_toArray, List.set_cons_zero, List.set_cons_succ])
      refine wpAnyT_done (by kernel_rfl) ?_ _
      clear hHeld
      go_wp2_with fail
      go_ret
      exact ⟨rfl, HB.out.trans (HW.out.mono HB.out.size)⟩
theorem dictApplies_walk (s : Nat) (n : Int) (va : Value) (l : List Ent) (vm : Value) (more : List Chg) (hss : s < 18446744073709551616) (w : World) (hl : Prs w va l) (hm : Aps w vm more) (hT : Tab6 w) :
    Calls Tryd.prog 7 #[.agg #[.int .u64 (s : Int), .int .i64 n], va, vm] w fun e w' => e = .returned (.bool true) ∧ Below w.heap.size w w' := dictApplies_of s n va l vm more w hss hl hm hT
end Go.Proofs.YtnnlfgfgfegjkaaDoor
