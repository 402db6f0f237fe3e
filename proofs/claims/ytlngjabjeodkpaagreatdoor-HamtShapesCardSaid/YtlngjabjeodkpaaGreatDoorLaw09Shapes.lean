/- Layer 9's law HamtShapes, over package hamt as it landed. (written by tools/gen09/shapes9.py) -/
import Derived.Test.YtlngjabjeodkpaaGreatDoorLaw09B
import Derived.Test.YtlngjabjeodkpaaGreatDoorRef09C
namespace Go.Proofs.YtlngjabjeodkpaaGreatDoor
open Go.RowKit
set_option maxRecDepth 1000000
set_option linter.unusedSimpArgs false

set_option maxHeartbeats 8000000 in
theorem hamtShapes_of (s : Nat) (n : Int) (va : Value) (l : List Op9) (w : World) (hss : s < 18446744073709551616) (hl : Ops9 w va l) (hT : Tabs w) :
    Calls Tryz.prog 4 #[.agg #[.int .u64 (s : Int), .int .i64 n], va] w fun e w' => e = .returned (.bool true) ∧ Below w.heap.size w w' := by
  have HTB := Lib.hid hT
  have HFEWl := Lib.hid (fun W (h : Below w.heap.size w W) => few9 va l W (hl.later h))
  obtain ⟨adl, capl, bbl, ool, rfl, hl1, hl2, hl3⟩ := hl
  have HLl := Lib.hid (And.intro hl1 hl2)
  clear hT hl1 hl2 hl3
  by_cases hf1 : few9B l = true
  case neg =>
    rw [show few9B l = false by simpa using hf1] at HFEWl
    as_aux_lemma =>
    clear hf1
    go_enter Tryz.func4, Tryz.ntmps4
    go_upto_region 1 with fail
    obtain ⟨w0, hw0⟩ : ∃ w0, w.alloc (.cells #[.int .u64 (s : Int), .int .i64 n] 24) = w0 := ⟨_, rfl⟩
    obtain ⟨hb, hx, _⟩ := new_below hw0
    have HC := Lib.hid hx
    have HB := Lib.hid hb
    rw [hw0]
    clear hx hb hw0
    go_wp2_with (first
      | (go_at_call 5; (with_reducible refine (live9 _ (HTB.out.later HB.out)).mono ?_); rintro e w1 ⟨rfl, hb⟩; replace HC := Lib.hid ((hb.block _ (Array.getElem?_eq_some_iff.1 HC.out).1).trans HC.out); replace HB := Lib.hid (HB.out.trans (hb.mono HB.out.size)); clear hb)
      | (go_at_call 6; (with_reducible refine (HFEWl.out _ HB.out).mono ?_); rintro e w1 ⟨rfl, hb⟩; replace HC := Lib.hid ((hb.block _ (Array.getElem?_eq_some_iff.1 HC.out).1).trans HC.out); replace HB := Lib.hid (HB.out.trans (hb.mono HB.out.size)); clear hb))
    go_ret
    exact ⟨rfl, HB.out⟩
  have HFl := Lib.hid (few9_ops hf1)
  rw [hf1] at HFEWl
  clear hf1
  by_cases h30 : (30 : Int) < (l.length : Int)
  · as_aux_lemma =>
    go_enter Tryz.func4, Tryz.ntmps4
    go_upto_region 1 with fail
    obtain ⟨w0, hw0⟩ : ∃ w0, w.alloc (.cells #[.int .u64 (s : Int), .int .i64 n] 24) = w0 := ⟨_, rfl⟩
    obtain ⟨hb, hx, _⟩ := new_below hw0
    have HC := Lib.hid hx
    have HB := Lib.hid hb
    rw [hw0]
    clear hx hb hw0
    go_wp2_with (first
      | (go_at_call 5; (with_reducible refine (live9 _ (HTB.out.later HB.out)).mono ?_); rintro e w1 ⟨rfl, hb⟩; replace HC := Lib.hid ((hb.block _ (Array.getElem?_eq_some_iff.1 HC.out).1).trans HC.out); replace HB := Lib.hid (HB.out.trans (hb.mono HB.out.size)); clear hb)
      | (go_at_call 6; (with_reducible refine (HFEWl.out _ HB.out).mono ?_); rintro e w1 ⟨rfl, hb⟩; replace HC := Lib.hid ((hb.block _ (Array.getElem?_eq_some_iff.1 HC.out).1).trans HC.out); replace HB := Lib.hid (HB.out.trans (hb.mono HB.out.size)); clear hb))
    go_ret
    exact ⟨rfl, HB.out⟩
  have hl120 : (l.length : Int) ≤ 30 := by omega
  go_enter Tryz.func4, Tryz.ntmps4
  go_upto_region 1 with fail
  obtain ⟨w0, hw0⟩ : ∃ w0, w.alloc (.cells #[.int .u64 (s : Int), .int .i64 n] 24) = w0 := ⟨_, rfl⟩
  obtain ⟨hb, hx, _⟩ := new_below hw0
  have HC := Lib.hid hx
  have HB := Lib.hid hb
  rw [hw0]
  clear hx hb hw0
  go_upto_region 4 with (first
    | (go_at_call 5; (with_reducible refine (live9 _ (HTB.out.later HB.out)).mono ?_); rintro e w1 ⟨rfl, hb⟩; replace HC := Lib.hid ((hb.block _ (Array.getElem?_eq_some_iff.1 HC.out).1).trans HC.out); replace HB := Lib.hid (HB.out.trans (hb.mono HB.out.size)); clear hb)
    | (go_at_call 6; (with_reducible refine (HFEWl.out _ HB.out).mono ?_); rintro e w1 ⟨rfl, hb⟩; replace HC := Lib.hid ((hb.block _ (Array.getElem?_eq_some_iff.1 HC.out).1).trans HC.out); replace HB := Lib.hid (HB.out.trans (hb.mono HB.out.size)); clear hb)
    | (refine ld_if (by rfl) 24 _ rfl w.heap.size rfl 24 _ _ _ HC.out Tryz.underlying24 rfl api_size ?_)
    | (go_at_call 7; (with_reducible refine (hm_New _ s n (fun _ => True)).mono ?_); rintro e w3 ⟨c0, rfl, hm, hb⟩; have HM0 := Lib.hid hm.ml; have HZ0 := Lib.hid hm.size; replace HC := Lib.hid ((hb.block _ (Array.getElem?_eq_some_iff.1 HC.out).1).trans HC.out); replace HB := Lib.hid (HB.out.trans (hb.mono HB.out.size)); clear hm hb)
    | (refine st_agg rfl 36 _ _ rfl w3.heap.size c0 rfl rfl 36 #[.int .u64 0, .int .i64 0, .int .i64 0, .int .u32 0, .slice none 0 0, .slice none 0 0] (heap_alloc_last w3 _) (by rw [HZ0.out]; exact map_size) (by rw [HZ0.out]; rfl) HM0.out.one ?_
       intro w4 h4 k4
       have hb4 : Below w3.heap.size w3 w4 := (Below.newly' w3 _).trans (k4.below (Nat.le_refl _))
       have HM : Hid (MB w4 s n [] w3.heap.size) := ⟨c0, h4, HM0.out.later hb4⟩
       have HX3 : Hid (w.heap.size < w3.heap.size) := (Array.getElem?_eq_some_iff.1 HC.out).1
       replace HC := Lib.hid ((hb4.block _ (Array.getElem?_eq_some_iff.1 HC.out).1).trans HC.out)
       replace HB := Lib.hid (HB.out.trans (hb4.mono HB.out.size))
       clear h4 k4 hb4))
  obtain ⟨X, hX⟩ : ∃ X, X = w3.heap.size := ⟨_, rfl⟩
  rw [← hX] at HM HX3 ⊢
  clear hX
  go_wp2_with fail
  obtain ⟨Y, hY⟩ : ∃ Y, Y = w4.heap.size := ⟨_, rfl⟩
  have HXY : Hid (X < Y) := by show _ < _; rw [hY]; exact HM.out.lt
  have HR : Hid (RB (w4.alloc (.cells #[.slice none 0 0, .slice none 0 0] 41)) [] Y) := by show RB _ _ _; rw [hY]; exact RB.new w4
  have hb5 := Below.newly' w4 (.cells #[.slice none 0 0, .slice none 0 0] 41)
  replace HM := Lib.hid (HM.out.later hb5)
  replace HC := Lib.hid ((hb5.block _ (Array.getElem?_eq_some_iff.1 HC.out).1).trans HC.out)
  replace HB := Lib.hid (HB.out.trans (hb5.mono HB.out.size))
  obtain ⟨w5, hw5⟩ : ∃ w5, w4.alloc (.cells #[.slice none 0 0, .slice none 0 0] 41) = w5 := ⟨_, rfl⟩
  rw [hw5] at HM HC HB HR
  rw [hw5, ← hY]
  clear hb5 hw5 hY HM0 HZ0
  go_loopw [26] (fun i wl => ∃ j : Nat, i = .int .i64 (j : Int) ∧ j ≤ l.length ∧ Hid (MB wl s n (runE [] (l.take j)) X) ∧ Hid (RB wl (runE [] (l.take j)) Y) ∧ Hid (wl.heap[w.heap.size]? = some (.cells #[.int .u64 (s : Int), .int .i64 n] 24 (0, 0))) ∧ Hid (Below w.heap.size w wl)) (fun i _ => l.length - (intOf i).toNat)
  case atStart => exact ⟨0, rfl, Nat.zero_le _, HM, HR, HC, HB⟩
  case round =>
    clear HM HR HB HC
    obtain ⟨j, rfl, hj, HM, HR, HC, HB⟩ := hrel
    by_cases hlt : j < l.length
    · as_aux_lemma =>
      have hlt' : (j : Int) < (l.length : Int) := by omega
      have had : adl = some ⟨bbl, ool, none⟩ := HLl.out.1 (by omega)
      subst had
      have HOP := Lib.hid ((HLl.out.2 j hlt).later HB.out)
      have HRI := Lib.hid (run_rise l j)
      have HLN : Hid ((runE [] (l.take j)).length ≤ 40000) := by show _ ≤ _; have := run_len l j; have := HFl.out.2; omega
      have HSH := Lib.hid (run_short l HFl.out.1 j)
      have HKL := Lib.hid (HFl.out.1 _ (List.getElem_mem hlt))
      have HEA := Lib.hid (run_take l hlt)
      have HRI2 := Lib.hid (run_rise l (j + 1))
      have HLN2 : Hid ((runE [] (l.take (j + 1))).length ≤ 40000) := by show _ ≤ _; have := run_len l (j + 1); have := HFl.out.2; omega
      have HSH2 := Lib.hid (run_short l HFl.out.1 (j + 1))
      rw [HEA.out] at HRI2 HLN2 HSH2
      obtain ⟨o, ho⟩ : ∃ o, o = l[j] := ⟨_, rfl⟩
      obtain ⟨D, hD⟩ : ∃ D, D = runE [] (l.take j) := ⟨_, rfl⟩
      rw [← ho] at HOP HKL HEA HRI2 HLN2 HSH2
      rw [← hD] at HM HR HRI HLN HSH HEA HRI2 HLN2 HSH2
      have HLT := Lib.hid hlt
      clear ho hD
      go_upto_region 8 with (refine ld_op9 (by rfl) _ rfl bbl (ool + j * 3) rfl o HOP.out ?_)
      obtain ⟨OB, hOB⟩ : ∃ OB, OB = wr.heap.size := ⟨_, rfl⟩
      have hb6 := Below.newly' wr (.cells (op9C o) 45)
      have HO : Hid ((wr.alloc (.cells (op9C o) 45)).heap[OB]? = some (.cells (op9C o) 45 (0, 0))) := by show _ = _; rw [hOB]; exact heap_alloc_last _ _
      have HD : Hid (w.heap.size < X ∧ X < Y ∧ Y < OB) := by
        show _ ∧ _ ∧ _
        rw [hOB]
        exact ⟨HX3.out, HXY.out, HR.out.lt⟩
      replace HM := Lib.hid (HM.out.later hb6)
      replace HR := Lib.hid (HR.out.later hb6)
      replace HC := Lib.hid ((hb6.block _ (Array.getElem?_eq_some_iff.1 HC.out).1).trans HC.out)
      replace HB := Lib.hid (HB.out.trans (hb6.mono HB.out.size))
      obtain ⟨w6, hw6⟩ : ∃ w6, wr.alloc (.cells (op9C o) 45) = w6 := ⟨_, rfl⟩
      rw [hw6] at HM HR HC HB HO
      rw [hw6, ← hOB]
      have hO := HO.out
      clear hb6 hw6 hOB HOP
      obtain ⟨cm1, hX1, hm1⟩ := HM.out
      have HZ1 := Lib.hid hm1.size
      obtain ⟨cm2, hX2, hm2⟩ := HR.out
      have HZ2 := Lib.hid hm2.size
      have HKS : Hid (∀ V, Below w6.heap.size w6 V → V.heap[X]? = some (.cells cm1 36 (0, 0)) ∧ V.heap[Y]? = some (.cells cm2 41 (0, 0)) ∧ V.heap[OB]? = some (.cells (op9C o) 45 (0, 0))) := fun V hV => ⟨(hV.block _ (Array.getElem?_eq_some_iff.1 hX1).1).trans hX1, (hV.block _ (Array.getElem?_eq_some_iff.1 hX2).1).trans hX2, (hV.block _ (Array.getElem?_eq_some_iff.1 hO).1).trans hO⟩
      have HDO1 := Lib.hid (fun W (hb : Below w6.heap.size w6 W) => does9 W s hss n D cm1 o (hm1.later hb) HRI.out HLN.out HKL.out (HTB.out.later (HB.out.trans (hb.mono HB.out.size))).1)
      have HDO2 := Lib.hid (fun W (hb : Below w6.heap.size w6 W) => should9 W D cm2 o (hm2.later hb) HRI.out HSH.out HLN.out HKL.out)
      clear hX1 hm1 hX2 hm2
      have HW : Hid (Below w6.heap.size w6 w6.drew) := drawn_below w6
      refine wp_region_T (S := (fun V => V.heap[X]? = some (.cells cm1 36 (0, 0)) ∧ V.heap[Y]? = some (.cells cm2 41 (0, 0)) ∧ V.heap[OB]? = some (.cells (op9C o) 45 (0, 0)))) [6, 7] (by kernel_rfl) (by exact HKS.out _ HW.out) (fun hHeld => ?_)
      refine wpAnyT_take (i := 0) (oi := ⟨some 30, _, _, _, _, _⟩) (v := _) rfl (by kernel_rfl) (by kernel_rfl) (by kernel_rfl) (by kernel_rfl) (fun _ _ _ h => h) (yieldsIf_load_row (by rfl) 36 _ rfl X rfl cm1 36 (0, 0) _ (fun w hw => hw.1) Tryz.underlying36 rfl (by rw [HZ1.out]; exact map_size)) (by assumption) ?_
      (try simp only [Act.put, List.setIfInBounds_toArray, List.set_cons_zero, List.set_cons_succ])
      refine wpAnyT_take (i := 1) (oi := ⟨some 31, _, _, _, _, _⟩) (v := _) rfl (by kernel_rfl) (by kernel_rfl) (by kernel_rfl) (by kernel_rfl) (fun _ _ _ h => h) (yieldsIf_load_row (by rfl) 45 _ rfl OB rfl (op9C o) 45 (0, 0) _ (fun w hw => hw.2.2) Tryz.underlying45 rfl (by exact op9_size)) (by assumption) ?_
      (try simp only [Act.put, List.setIfInBounds_toArray, List.set_cons_zero, List.set_cons_succ])
      refine wpAnyT_take (i := 3) (oi := ⟨some 33, _, _, _, _, _⟩) (v := _) rfl (by kernel_rfl) (by kernel_rfl) (by kernel_rfl) (by kernel_rfl) (fun _ _ _ h => h) (yieldsIf_load_row (by rfl) 41 _ rfl Y rfl cm2 41 (0, 0) _ (fun w hw => hw.2.1) Tryz.underlying41 rfl (by rw [HZ2.out]; exact refm_size)) (by assumption) ?_
      (try simp only [Act.put, List.setIfInBounds_toArray, List.set_cons_zero, List.set_cons_succ])
      refine wpAnyT_take (i := 4) (oi := ⟨some 34, _, _, _, _, _⟩) (v := _) rfl (by kernel_rfl) (by kernel_rfl) (by kernel_rfl) (by kernel_rfl) (fun _ _ _ h => h) (yieldsIf_load_row (by rfl) 45 _ rfl OB rfl (op9C o) 45 (0, 0) _ (fun w hw => hw.2.2) Tryz.underlying45 rfl (by exact op9_size)) (by assumption) ?_
      (try simp only [Act.put, List.setIfInBounds_toArray, List.set_cons_zero, List.set_cons_succ])
      refine wpAnyT_one (i := 2) (o := ⟨some 32, _, _, _, _, _⟩) (by kernel_rfl) rfl (fun K hK => ?_)
      go_simp
      go_at_call 8
      (with_reducible refine (HDO1.out _ (by exact HW.out)).mono ?_)
      rintro e wA1 ⟨cn1, rfl, hq, hb⟩
      have HQ1 := Lib.hid hq
      replace HW := Lib.hid (HW.out.trans (hb.mono HW.out.size))
      clear hq hb
      dsimp only
      refine hK.out _ _ (by exact HKS.out _ HW.out) (fun hHeld => ?_)
      clear hK K
      (try simp only [Act.put, List.setIfInBounds_toArray, List.set_cons_zero, List.set_cons_succ])
      refine wpAnyT_one (i := 5) (o := ⟨some 35, _, _, _, _, _⟩) (by kernel_rfl) rfl (fun K hK => ?_)
      go_simp
      go_at_call 9
      (with_reducible refine (HDO2.out _ (by exact HW.out)).mono ?_)
      rintro e wA2 ⟨cn2, rfl, hq, hb⟩
      have HQ2 := Lib.hid hq
      replace HQ1 := Lib.hid (HQ1.out.later hb)
      replace HW := Lib.hid (HW.out.trans (hb.mono HW.out.size))
      clear hq hb
      dsimp only
      refine hK.out _ _ (by exact HKS.out _ HW.out) (fun hHeld => ?_)
      clear hK K
      (try simp only [Act.put, List.setIfInBounds_toArray, List.set_cons_zero, List.set_cons_succ])
      refine wpAnyT_last (i := 6) (o := ⟨none, _, _, _, _, _⟩) (by kernel_rfl) (by decide) rfl (fun K hK => ?_)
      have hr1 := (HKS.out _ HW.out).1
      have hr2 := (HKS.out _ HW.out).2.1
      rw [if_pos (by rfl)]
      refine st_agg_wp 36 _ _ rfl X cn1 rfl rfl 36 _ hr1 (by rw [HQ1.out.size]; exact map_size) (by rw [HZ1.out, HQ1.out.size]) HQ1.out.one ?_
      intro wS1 hs1 ks1
      have hr2 := ks1.other hr2 (by have h := HD.out; omega)
      replace HQ2 := Lib.hid (HQ2.out.but ks1 hr1 (by decide) (by decide))
      refine hK.out _ _ ?_
      clear hK K
      (try simp only [Act.put, List.setIfInBounds_toArray, List.set_cons_zero, List.set_cons_succ])
      refine wpAnyT_last (i := 7) (o := ⟨none, _, _, _, _, _⟩) (by kernel_rfl) (by decide) rfl (fun K hK => ?_)
      rw [if_pos (by rfl)]
      refine st_agg_wp 41 _ _ rfl Y cn2 rfl rfl 41 _ hr2 (by rw [HQ2.out.size]; exact refm_size) (by rw [HZ2.out, HQ2.out.size]) HQ2.out.one ?_
      intro wS2 hs2 ks2
      refine hK.out _ _ ?_
      clear hK K
      (try simp only [Act.put, List.setIfInBounds_toArray, List.set_cons_zero, List.set_cons_succ])
      refine wpAnyT_done (by kernel_rfl) ?_ _
      replace HC := Lib.hid ((HW.out.block _ (Array.getElem?_eq_some_iff.1 HC.out).1).trans HC.out)
      replace HB := Lib.hid (HB.out.trans (HW.out.mono HB.out.size))
      replace HC := Lib.hid (ks1.other HC.out (by have h := HD.out; omega))
      replace HB := Lib.hid (HB.out.trans (ks1.below (by have h := HD.out; omega)))
      replace HC := Lib.hid (ks2.other HC.out (by have h := HD.out; omega))
      replace HB := Lib.hid (HB.out.trans (ks2.below (by have h := HD.out; omega)))
      replace HM := Lib.hid ((MB.wrote hs1 ks1 hr1 HQ1.out).only ks2 hr2 (by have h := HD.out; omega) (by decide))
      replace HR := Lib.hid (RB.wrote hs2 ks2 hr2 HQ2.out)
      clear HKS HDO1 HQ1 HZ1 hs1 ks1 hr1 HDO2 HQ2 HZ2 hs2 ks2 hr2 HW hHeld
      go_upto_region 9 with fail
      obtain ⟨cm, hXm, hmm⟩ := HM.out
      obtain ⟨cr, hXr, hrr⟩ := HR.out
      obtain ⟨kv, xv, rfl, hkv, hxv⟩ := hrr
      obtain ⟨a1, c1, rfl, _⟩ := hkv.shape
      have HMZ := Lib.hid hmm.size
      have HSHP := Lib.hid (fun W (hW : Below wS2.heap.size wS2 W) => ml_Shape W s n (doE D o) cm (hmm.later hW) (Nat.le_trans HLN2.out (by omega)) (HTB.out.later (HB.out.trans (hW.mono HB.out.size))))
      have HRSP := Lib.hid (fun W (hW : Below wS2.heap.size wS2 W) => ref_Shape9 s hss n W _ (keysE (doE D o)) (hkv.later hW) (by rw [keysE_len]; exact Nat.le_trans HLN2.out (by omega)) (fun k hk => by
        obtain ⟨e, he, rfl⟩ := List.mem_map.1 hk
        exact Nat.le_trans (HSH2.out e he) (by decide)))
      obtain ⟨sh, hsh⟩ : ∃ sh : ByteArray, sh = ⟨(shapeF (hsN s n) 13 (keysE (doE D o))).toArray⟩ := ⟨_, rfl⟩
      rw [← hsh] at HSHP HRSP
      obtain ⟨N, hN⟩ : ∃ N, N = (keysE (doE D o)).length := ⟨_, rfl⟩
      rw [← hN] at HRSP hXr
      have HKS : Hid (∀ V, Below wS2.heap.size wS2 V → V.heap[X]? = some (.cells cm 36 (0, 0)) ∧ V.heap[w.heap.size]? = some (.cells #[.int .u64 (s : Int), .int .i64 n] 24 (0, 0)) ∧ V.cell? ⟨Y, 0, none⟩ = some (.slice a1 N c1)) := fun V hV => ⟨(hV.block _ (Array.getElem?_eq_some_iff.1 hXm).1).trans hXm, (hV.block _ (Array.getElem?_eq_some_iff.1 HC.out).1).trans HC.out, cell_in ((hV.block _ (Array.getElem?_eq_some_iff.1 hXr).1).trans hXr) rfl⟩
      have HW : Hid (Below wS2.heap.size wS2 wS2.drew) := drawn_below wS2
      clear hXm hXr hkv hxv hsh hN hmm
      refine wp_region_T (S := (fun V => V.heap[X]? = some (.cells cm 36 (0, 0)) ∧ V.heap[w.heap.size]? = some (.cells #[.int .u64 (s : Int), .int .i64 n] 24 (0, 0)) ∧ V.cell? ⟨Y, 0, none⟩ = some (.slice a1 N c1))) [] (by kernel_rfl) (by exact HKS.out _ HW.out) (fun hHeld => ?_)
      refine wpAnyT_take (i := 0) (oi := ⟨some 36, _, _, _, _, _⟩) (v := _) rfl (by kernel_rfl) (by kernel_rfl) (by kernel_rfl) (by kernel_rfl) (fun _ _ _ h => h) (yieldsIf_load_row (by rfl) 36 _ rfl X rfl cm 36 (0, 0) _ (fun w hw => hw.1) Tryz.underlying36 rfl (by rw [HMZ.out]; exact map_size)) (by assumption) ?_
      (try simp only [Act.put, List.setIfInBounds_toArray, List.set_cons_zero, List.set_cons_succ])
      refine wpAnyT_take (i := 2) (oi := ⟨some 38, _, _, _, _, _⟩) (v := _) rfl (by kernel_rfl) (by kernel_rfl) (by kernel_rfl) (by kernel_rfl) (fun _ _ _ h => h) (yieldsIf_load_row (by rfl) 24 _ rfl w.heap.size rfl #[.int .u64 (s : Int), .int .i64 n] 24 (0, 0) _ (fun w hw => hw.2.1) Tryz.underlying24 rfl (by exact api_size)) (by assumption) ?_
      (try simp only [Act.put, List.setIfInBounds_toArray, List.set_cons_zero, List.set_cons_succ])
      refine wpAnyT_take (i := 3) (oi := ⟨some 39, _, _, _, _, _⟩) (v := ?vg1_3) rfl (by kernel_rfl) (by kernel_rfl) (by kernel_rfl) (by kernel_rfl) (fun _ _ _ h => h) (Or.inl ⟨by rfl, ?hg1_3⟩) (by assumption) ?rg1_3
      case hg1_3 => (intro w hSw; (try dsimp only at hSw); first | (go_simp; done) | (go_simp; with_reducible rfl))
      (try simp only [Act.put, List.setIfInBounds_toArray, List.set_cons_zero, List.set_cons_succ])
      refine wpAnyT_take (i := 4) (oi := ⟨some 40, _, _, _, _, _⟩) (v := ?vg1_4) rfl (by kernel_rfl) (by kernel_rfl) (by kernel_rfl) (by kernel_rfl) (fun _ _ _ h => h) (Or.inl ⟨by rfl, ?hg1_4⟩) (by assumption) ?rg1_4
      case hg1_4 => (intro w hSw; (try dsimp only at hSw); first | (go_simp; done) | (go_simp; with_reducible rfl))
      (try simp only [Act.put, List.setIfInBounds_toArray, List.set_cons_zero, List.set_cons_succ])
      refine wpAnyT_one (i := 1) (o := ⟨some 37, _, _, _, _, _⟩) (by kernel_rfl) rfl (fun K hK => ?_)
      go_simp
      go_at_call 14
      (with_reducible refine (HSHP.out _ HW.out).mono ?_)
      rintro e w7 ⟨rfl, hb⟩
      replace HW := Lib.hid (HW.out.trans (hb.mono HW.out.size))
      clear hb
      dsimp only
      refine hK.out _ _ (by exact HKS.out _ HW.out) (fun hHeld => ?_)
      clear hK K
      (try simp only [Act.put, List.setIfInBounds_toArray, List.set_cons_zero, List.set_cons_succ])
      refine wpAnyT_one (i := 5) (o := ⟨some 41, _, _, _, _, _⟩) (by kernel_rfl) rfl (fun K hK => ?_)
      go_simp
      go_at_call 15
      (with_reducible refine (HRSP.out _ HW.out).mono ?_)
      rintro e w8 ⟨rfl, hb⟩
      replace HW := Lib.hid (HW.out.trans (hb.mono HW.out.size))
      clear hb
      dsimp only
      refine hK.out _ _ (by exact HKS.out _ HW.out) (fun hHeld => ?_)
      clear hK K
      (try simp only [Act.put, List.setIfInBounds_toArray, List.set_cons_zero, List.set_cons_succ])
      refine wpAnyT_take (i := 6) (oi := ⟨some 42, _, _, _, _, _⟩) (v := ?vg1_6) rfl (by kernel_rfl) (by kernel_rfl) (by kernel_rfl) (by kernel_rfl) (fun _ _ _ h => h) (Or.inl ⟨by rfl, ?hg1_6⟩) (by assumption) ?rg1_6
      case hg1_6 => (intro w hSw; (try dsimp only at hSw); first | (go_simp; done) | (go_simp; with_reducible rfl))
      (try simp only [Act.put, List.setIfInBounds_toArray, List.set_cons_zero, List.set_cons_succ])
      refine wpAnyT_done (by kernel_rfl) ?_ _
      clear hHeld
      replace HM := Lib.hid (HM.out.later HW.out)
      replace HR := Lib.hid (HR.out.later HW.out)
      replace HC := Lib.hid ((HW.out.block _ (Array.getElem?_eq_some_iff.1 HC.out).1).trans HC.out)
      replace HB := Lib.hid (HB.out.trans (HW.out.mono HB.out.size))
      go_wp2_with fail
      go_roundw
      case rel => exact ⟨j + 1, by simp, by have := HLT.out; omega, by rw [HEA.out]; exact HM, by rw [HEA.out]; exact HR, HC, HB⟩
      case measure => have := HLT.out; simp [intOf]; omega
    · obtain rfl : j = l.length := by omega
      go_wp2_with fail
      go_ret
      exact ⟨rfl, HB.out⟩
theorem hamtShapes_walk (s : Nat) (n : Int) (va : Value) (l : List Op9) (hss : s < 18446744073709551616) (w : World) (hl : Ops9 w va l) (hT : Tabs w) : Calls Tryz.prog 4 #[.agg #[.int .u64 (s : Int), .int .i64 n], va] w fun e w' => e = .returned (.bool true) ∧ Below w.heap.size w w' := hamtShapes_of s n va l w hss hl hT
end Go.Proofs.YtlngjabjeodkpaaGreatDoor
