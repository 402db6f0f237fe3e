/- Layer 9's law HamtBranches, over package hamt as it landed. (written by tools/gen09/branches9.py) -/
import Derived.Test.YtlngjabjeodkpaaDoorLaw09B
namespace Go.Proofs.YtlngjabjeodkpaaDoor
open Go.RowKit
set_option maxRecDepth 1000000
set_option linter.unusedSimpArgs false

set_option maxHeartbeats 8000000 in
theorem hamtBranches_of (s : Nat) (n : Int) (va : Value) (l : List Op9) (vb : Value) (a : List Op9) (vc : Value) (b : List Op9) (w : World) (hss : s < 18446744073709551616) (hl : Ops9 w va l) (ha : Ops9 w vb a) (hb : Ops9 w vc b) (hT : Tabs w) :
    Calls Tryd.prog 3 #[.agg #[.int .u64 (s : Int), .int .i64 n], va, vb, vc] w fun e w' => e = .returned (.bool true) ∧ Below w.heap.size w w' := by
  have HTB := Lib.hid hT
  have HFEWl := Lib.hid (fun W (h : Below w.heap.size w W) => few9 va l W (hl.later h))
  have HFEWa := Lib.hid (fun W (h : Below w.heap.size w W) => few9 vb a W (ha.later h))
  have HFEWb := Lib.hid (fun W (h : Below w.heap.size w W) => few9 vc b W (hb.later h))
  obtain ⟨adl, capl, bbl, ool, rfl, hl1, hl2, hl3⟩ := hl
  obtain ⟨ada, capa, bba, ooa, rfl, ha1, ha2, ha3⟩ := ha
  obtain ⟨adb, capb, bbb, oob, rfl, hb1, hb2, hb3⟩ := hb
  have HLl := Lib.hid (And.intro hl1 hl2)
  have HLa := Lib.hid (And.intro ha1 ha2)
  have HLb := Lib.hid (And.intro hb1 hb2)
  clear hT hl1 hl2 hl3 ha1 ha2 ha3 hb1 hb2 hb3
  by_cases hf1 : few9B l = true
  case neg =>
    rw [show few9B l = false by simpa using hf1] at HFEWl
    as_aux_lemma =>
    clear hf1
    go_enter Tryd.func3, Tryd.ntmps3
    go_upto_region 1 with fail
    obtain ⟨w0, hw0⟩ : ∃ w0, w.alloc (.cells #[.int .u64 (s : Int), .int .i64 n] 24) = w0 := ⟨_, rfl⟩
    obtain ⟨hb, hx, _⟩ := new_below hw0
    have HC := Lib.hid hx
    have HB := Lib.hid hb
    rw [hw0]
    clear hx hb hw0
    go_wp2_with (first
      | (go_at_call 7; (with_reducible refine (live9 _ (HTB.out.later HB.out)).mono ?_); rintro e w1 ⟨rfl, hb⟩; replace HC := Lib.hid ((hb.block _ (Array.getElem?_eq_some_iff.1 HC.out).1).trans HC.out); replace HB := Lib.hid (HB.out.trans (hb.mono HB.out.size)); clear hb)
      | (go_at_call 8; (with_reducible refine (HFEWl.out _ HB.out).mono ?_); rintro e w1 ⟨rfl, hb⟩; replace HC := Lib.hid ((hb.block _ (Array.getElem?_eq_some_iff.1 HC.out).1).trans HC.out); replace HB := Lib.hid (HB.out.trans (hb.mono HB.out.size)); clear hb)
      | (go_at_call 8; (with_reducible refine (HFEWa.out _ HB.out).mono ?_); rintro e w1 ⟨rfl, hb⟩; replace HC := Lib.hid ((hb.block _ (Array.getElem?_eq_some_iff.1 HC.out).1).trans HC.out); replace HB := Lib.hid (HB.out.trans (hb.mono HB.out.size)); clear hb)
      | (go_at_call 8; (with_reducible refine (HFEWb.out _ HB.out).mono ?_); rintro e w1 ⟨rfl, hb⟩; replace HC := Lib.hid ((hb.block _ (Array.getElem?_eq_some_iff.1 HC.out).1).trans HC.out); replace HB := Lib.hid (HB.out.trans (hb.mono HB.out.size)); clear hb))
    go_ret
    exact ⟨rfl, HB.out⟩
  have HFl := Lib.hid (few9_ops hf1)
  rw [hf1] at HFEWl
  clear hf1
  by_cases hf2 : few9B a = true
  case neg =>
    rw [show few9B a = false by simpa using hf2] at HFEWa
    as_aux_lemma =>
    clear hf2
    go_enter Tryd.func3, Tryd.ntmps3
    go_upto_region 1 with fail
    obtain ⟨w0, hw0⟩ : ∃ w0, w.alloc (.cells #[.int .u64 (s : Int), .int .i64 n] 24) = w0 := ⟨_, rfl⟩
    obtain ⟨hb, hx, _⟩ := new_below hw0
    have HC := Lib.hid hx
    have HB := Lib.hid hb
    rw [hw0]
    clear hx hb hw0
    go_wp2_with (first
      | (go_at_call 7; (with_reducible refine (live9 _ (HTB.out.later HB.out)).mono ?_); rintro e w1 ⟨rfl, hb⟩; replace HC := Lib.hid ((hb.block _ (Array.getElem?_eq_some_iff.1 HC.out).1).trans HC.out); replace HB := Lib.hid (HB.out.trans (hb.mono HB.out.size)); clear hb)
      | (go_at_call 8; (with_reducible refine (HFEWl.out _ HB.out).mono ?_); rintro e w1 ⟨rfl, hb⟩; replace HC := Lib.hid ((hb.block _ (Array.getElem?_eq_some_iff.1 HC.out).1).trans HC.out); replace HB := Lib.hid (HB.out.trans (hb.mono HB.out.size)); clear hb)
      | (go_at_call 8; (with_reducible refine (HFEWa.out _ HB.out).mono ?_); rintro e w1 ⟨rfl, hb⟩; replace HC := Lib.hid ((hb.block _ (Array.getElem?_eq_some_iff.1 HC.out).1).trans HC.out); replace HB := Lib.hid (HB.out.trans (hb.mono HB.out.size)); clear hb)
      | (go_at_call 8; (with_reducible refine (HFEWb.out _ HB.out).mono ?_); rintro e w1 ⟨rfl, hb⟩; replace HC := Lib.hid ((hb.block _ (Array.getElem?_eq_some_iff.1 HC.out).1).trans HC.out); replace HB := Lib.hid (HB.out.trans (hb.mono HB.out.size)); clear hb))
    go_ret
    exact ⟨rfl, HB.out⟩
  have HFa := Lib.hid (few9_ops hf2)
  rw [hf2] at HFEWa
  clear hf2
  by_cases hf3 : few9B b = true
  case neg =>
    rw [show few9B b = false by simpa using hf3] at HFEWb
    as_aux_lemma =>
    clear hf3
    go_enter Tryd.func3, Tryd.ntmps3
    go_upto_region 1 with fail
    obtain ⟨w0, hw0⟩ : ∃ w0, w.alloc (.cells #[.int .u64 (s : Int), .int .i64 n] 24) = w0 := ⟨_, rfl⟩
    obtain ⟨hb, hx, _⟩ := new_below hw0
    have HC := Lib.hid hx
    have HB := Lib.hid hb
    rw [hw0]
    clear hx hb hw0
    go_wp2_with (first
      | (go_at_call 7; (with_reducible refine (live9 _ (HTB.out.later HB.out)).mono ?_); rintro e w1 ⟨rfl, hb⟩; replace HC := Lib.hid ((hb.block _ (Array.getElem?_eq_some_iff.1 HC.out).1).trans HC.out); replace HB := Lib.hid (HB.out.trans (hb.mono HB.out.size)); clear hb)
      | (go_at_call 8; (with_reducible refine (HFEWl.out _ HB.out).mono ?_); rintro e w1 ⟨rfl, hb⟩; replace HC := Lib.hid ((hb.block _ (Array.getElem?_eq_some_iff.1 HC.out).1).trans HC.out); replace HB := Lib.hid (HB.out.trans (hb.mono HB.out.size)); clear hb)
      | (go_at_call 8; (with_reducible refine (HFEWa.out _ HB.out).mono ?_); rintro e w1 ⟨rfl, hb⟩; replace HC := Lib.hid ((hb.block _ (Array.getElem?_eq_some_iff.1 HC.out).1).trans HC.out); replace HB := Lib.hid (HB.out.trans (hb.mono HB.out.size)); clear hb)
      | (go_at_call 8; (with_reducible refine (HFEWb.out _ HB.out).mono ?_); rintro e w1 ⟨rfl, hb⟩; replace HC := Lib.hid ((hb.block _ (Array.getElem?_eq_some_iff.1 HC.out).1).trans HC.out); replace HB := Lib.hid (HB.out.trans (hb.mono HB.out.size)); clear hb))
    go_ret
    exact ⟨rfl, HB.out⟩
  have HFb := Lib.hid (few9_ops hf3)
  rw [hf3] at HFEWb
  clear hf3
  have hl120 : (l.length : Int) ≤ 120 := by have := HFl.out.2; omega
  have ha120 : (a.length : Int) ≤ 120 := by have := HFa.out.2; omega
  have hb120 : (b.length : Int) ≤ 120 := by have := HFb.out.2; omega
  go_enter Tryd.func3, Tryd.ntmps3
  go_upto_region 1 with fail
  obtain ⟨w0, hw0⟩ : ∃ w0, w.alloc (.cells #[.int .u64 (s : Int), .int .i64 n] 24) = w0 := ⟨_, rfl⟩
  obtain ⟨hb, hx, _⟩ := new_below hw0
  have HC := Lib.hid hx
  have HB := Lib.hid hb
  rw [hw0]
  clear hx hb hw0
  go_upto_region 4 with (first
    | (go_at_call 7; (with_reducible refine (live9 _ (HTB.out.later HB.out)).mono ?_); rintro e w1 ⟨rfl, hb⟩; replace HC := Lib.hid ((hb.block _ (Array.getElem?_eq_some_iff.1 HC.out).1).trans HC.out); replace HB := Lib.hid (HB.out.trans (hb.mono HB.out.size)); clear hb)
    | (go_at_call 8; (with_reducible refine (HFEWl.out _ HB.out).mono ?_); rintro e w1 ⟨rfl, hb⟩; replace HC := Lib.hid ((hb.block _ (Array.getElem?_eq_some_iff.1 HC.out).1).trans HC.out); replace HB := Lib.hid (HB.out.trans (hb.mono HB.out.size)); clear hb)
    | (go_at_call 8; (with_reducible refine (HFEWa.out _ HB.out).mono ?_); rintro e w1 ⟨rfl, hb⟩; replace HC := Lib.hid ((hb.block _ (Array.getElem?_eq_some_iff.1 HC.out).1).trans HC.out); replace HB := Lib.hid (HB.out.trans (hb.mono HB.out.size)); clear hb)
    | (go_at_call 8; (with_reducible refine (HFEWb.out _ HB.out).mono ?_); rintro e w1 ⟨rfl, hb⟩; replace HC := Lib.hid ((hb.block _ (Array.getElem?_eq_some_iff.1 HC.out).1).trans HC.out); replace HB := Lib.hid (HB.out.trans (hb.mono HB.out.size)); clear hb)
    | (refine ld_if (by rfl) 24 _ rfl w.heap.size rfl 24 _ _ _ HC.out Tryd.underlying24 rfl api_size ?_)
    | (go_at_call 9; (with_reducible refine (hm_New _ s n (fun _ => True)).mono ?_); rintro e w3 ⟨c0, rfl, hm, hb⟩; have HM0 := Lib.hid hm.ml; have HZ0 := Lib.hid hm.size; replace HC := Lib.hid ((hb.block _ (Array.getElem?_eq_some_iff.1 HC.out).1).trans HC.out); replace HB := Lib.hid (HB.out.trans (hb.mono HB.out.size)); clear hm hb)
    | (refine st_agg rfl 36 _ _ rfl w3.heap.size c0 rfl rfl 36 #[.int .u64 0, .int .i64 0, .int .i64 0, .int .u32 0, .slice none 0 0, .slice none 0 0] (heap_alloc_last w3 _) (by rw [HZ0.out]; exact map_size) (by rw [HZ0.out]; rfl) HM0.out.one ?_
       intro w4 h4 k4
       have hb4 : Below w3.heap.size w3 w4 := (Below.newly' w3 _).trans (k4.below (Nat.le_refl _))
       have HM : Hid (MB w4 s n [] w3.heap.size) := ⟨c0, h4, HM0.out.later hb4⟩
       have HX3 : Hid (w.heap.size < w3.heap.size) := (Array.getElem?_eq_some_iff.1 HC.out).1
       replace HC := Lib.hid ((hb4.block _ (Array.getElem?_eq_some_iff.1 HC.out).1).trans HC.out)
       replace HB := Lib.hid (HB.out.trans (hb4.mono HB.out.size))
       clear h4 k4 hb4))
  obtain ⟨X, hX⟩ : ∃ X, X = w3.heap.size := ⟨_, rfl⟩
  rw [← hX] at HM HX3 ⊢
  clear hX
  go_wp2_with fail
  obtain ⟨Y, hY⟩ : ∃ Y, Y = w4.heap.size := ⟨_, rfl⟩
  have HXY : Hid (X < Y) := by show _ < _; rw [hY]; exact HM.out.lt
  have HR : Hid (RB (w4.alloc (.cells #[.slice none 0 0, .slice none 0 0] 41)) [] Y) := by show RB _ _ _; rw [hY]; exact RB.new w4
  have hb5 := Below.newly' w4 (.cells #[.slice none 0 0, .slice none 0 0] 41)
  replace HM := Lib.hid (HM.out.later hb5)
  replace HC := Lib.hid ((hb5.block _ (Array.getElem?_eq_some_iff.1 HC.out).1).trans HC.out)
  replace HB := Lib.hid (HB.out.trans (hb5.mono HB.out.size))
  obtain ⟨w5, hw5⟩ : ∃ w5, w4.alloc (.cells #[.slice none 0 0, .slice none 0 0] 41) = w5 := ⟨_, rfl⟩
  rw [hw5] at HM HC HB HR
  rw [hw5, ← hY]
  clear hb5 hw5 hY HM0 HZ0
  go_loopw [40] (fun i wl => ∃ j : Nat, i = .int .i64 (j : Int) ∧ j ≤ l.length ∧ Hid (MB wl s n (runE [] (l.take j)) X) ∧ Hid (RB wl (runE [] (l.take j)) Y) ∧ Hid (Below w.heap.size w wl)) (fun i _ => l.length - (intOf i).toNat)
  case atStart => exact ⟨0, rfl, Nat.zero_le _, HM, HR, HB⟩
  case round =>
    clear HM HR HB HC
    obtain ⟨j, rfl, hj, HM, HR, HB⟩ := hrel
    by_cases hlt : j < l.length
    · as_aux_lemma =>
      have hlt' : (j : Int) < (l.length : Int) := by omega
      have had : adl = some ⟨bbl, ool, none⟩ := HLl.out.1 (by omega)
      subst had
      have HOP := Lib.hid ((HLl.out.2 j hlt).later HB.out)
      have HRI := Lib.hid (run_rise l j)
      have HLN : Hid ((runE [] (l.take j)).length ≤ 40000) := by show _ ≤ _; have := run_len l j; have := HFl.out.2; omega
      have HSH := Lib.hid (run_short l HFl.out.1 j)
      have HKL := Lib.hid (HFl.out.1 _ (List.getElem_mem hlt))
      have HEA := Lib.hid (run_take l hlt)
      obtain ⟨o, ho⟩ : ∃ o, o = l[j] := ⟨_, rfl⟩
      obtain ⟨D, hD⟩ : ∃ D, D = runE [] (l.take j) := ⟨_, rfl⟩
      rw [← ho] at HOP HKL HEA
      rw [← hD] at HM HR HRI HLN HSH HEA
      have HLT := Lib.hid hlt
      clear ho hD
      go_upto_region 8 with (refine ld_op9 (by rfl) _ rfl bbl (ool + j * 3) rfl o HOP.out ?_)
      obtain ⟨OB, hOB⟩ : ∃ OB, OB = wr.heap.size := ⟨_, rfl⟩
      have hb6 := Below.newly' wr (.cells (op9C o) 43)
      have HO : Hid ((wr.alloc (.cells (op9C o) 43)).heap[OB]? = some (.cells (op9C o) 43 (0, 0))) := by show _ = _; rw [hOB]; exact heap_alloc_last _ _
      have HD : Hid (w.heap.size < X ∧ X < Y ∧ Y < OB) := by
        show _ ∧ _ ∧ _
        rw [hOB]
        exact ⟨HX3.out, HXY.out, HR.out.lt⟩
      replace HM := Lib.hid (HM.out.later hb6)
      replace HR := Lib.hid (HR.out.later hb6)
      replace HB := Lib.hid (HB.out.trans (hb6.mono HB.out.size))
      obtain ⟨w6, hw6⟩ : ∃ w6, wr.alloc (.cells (op9C o) 43) = w6 := ⟨_, rfl⟩
      rw [hw6] at HM HR HB HO
      rw [hw6, ← hOB]
      have hO := HO.out
      clear hb6 hw6 hOB HOP
      obtain ⟨cm1, hX1, hm1⟩ := HM.out
      have HZ1 := Lib.hid hm1.size
      obtain ⟨cm2, hX2, hm2⟩ := HR.out
      have HZ2 := Lib.hid hm2.size
      have HKS : Hid (∀ V, Below w6.heap.size w6 V → V.heap[X]? = some (.cells cm1 36 (0, 0)) ∧ V.heap[Y]? = some (.cells cm2 41 (0, 0)) ∧ V.heap[OB]? = some (.cells (op9C o) 43 (0, 0))) := fun V hV => ⟨(hV.block _ (Array.getElem?_eq_some_iff.1 hX1).1).trans hX1, (hV.block _ (Array.getElem?_eq_some_iff.1 hX2).1).trans hX2, (hV.block _ (Array.getElem?_eq_some_iff.1 hO).1).trans hO⟩
      have HDO1 := Lib.hid (fun W (hb : Below w6.heap.size w6 W) => does9 W s hss n D cm1 o (hm1.later hb) HRI.out HLN.out HKL.out (HTB.out.later (HB.out.trans (hb.mono HB.out.size))).1)
      have HDO2 := Lib.hid (fun W (hb : Below w6.heap.size w6 W) => should9 W D cm2 o (hm2.later hb) HRI.out HSH.out HLN.out HKL.out)
      clear hX1 hm1 hX2 hm2
      have HW : Hid (Below w6.heap.size w6 w6.drew) := drawn_below w6
      refine wp_region_T (S := (fun V => V.heap[X]? = some (.cells cm1 36 (0, 0)) ∧ V.heap[Y]? = some (.cells cm2 41 (0, 0)) ∧ V.heap[OB]? = some (.cells (op9C o) 43 (0, 0)))) [6, 7] (by kernel_rfl) (by exact HKS.out _ HW.out) (fun hHeld => ?_)
      refine wpAnyT_take (i := 0) (oi := ⟨some 44, _, _, _, _, _⟩) (v := _) rfl (by kernel_rfl) (by kernel_rfl) (by kernel_rfl) (by kernel_rfl) (fun _ _ _ h => h) (yieldsIf_load_row (by rfl) 36 _ rfl X rfl cm1 36 (0, 0) _ (fun w hw => hw.1) Tryd.underlying36 rfl (by rw [HZ1.out]; exact map_size)) (by assumption) ?_
      (try simp only [Act.put, List.setIfInBounds_toArray, List.set_cons_zero, List.set_cons_succ])
      refine wpAnyT_take (i := 1) (oi := ⟨some 45, _, _, _, _, _⟩) (v := _) rfl (by kernel_rfl) (by kernel_rfl) (by kernel_rfl) (by kernel_rfl) (fun _ _ _ h => h) (yieldsIf_load_row (by rfl) 43 _ rfl OB rfl (op9C o) 43 (0, 0) _ (fun w hw => hw.2.2) Tryd.underlying43 rfl (by exact op9_size)) (by assumption) ?_
      (try simp only [Act.put, List.setIfInBounds_toArray, List.set_cons_zero, List.set_cons_succ])
      refine wpAnyT_take (i := 3) (oi := ⟨some 47, _, _, _, _, _⟩) (v := _) rfl (by kernel_rfl) (by kernel_rfl) (by kernel_rfl) (by kernel_rfl) (fun _ _ _ h => h) (yieldsIf_load_row (by rfl) 41 _ rfl Y rfl cm2 41 (0, 0) _ (fun w hw => hw.2.1) Tryd.underlying41 rfl (by rw [HZ2.out]; exact refm_size)) (by assumption) ?_
      (try simp only [Act.put, List.setIfInBounds_toArray, List.set_cons_zero, List.set_cons_succ])
      refine wpAnyT_take (i := 4) (oi := ⟨some 48, _, _, _, _, _⟩) (v := _) rfl (by kernel_rfl) (by kernel_rfl) (by kernel_rfl) (by kernel_rfl) (fun _ _ _ h => h) (yieldsIf_load_row (by rfl) 43 _ rfl OB rfl (op9C o) 43 (0, 0) _ (fun w hw => hw.2.2) Tryd.underlying43 rfl (by exact op9_size)) (by assumption) ?_
      (try simp only [Act.put, List.setIfInBounds_toArray, List.set_cons_zero, List.set_cons_succ])
      refine wpAnyT_one (i := 2) (o := ⟨some 46, _, _, _, _, _⟩) (by kernel_rfl) rfl (fun K hK => ?_)
      go_simp
      go_at_call 10
      (with_reducible refine (HDO1.out _ (by exact HW.out)).mono ?_)
      rintro e wA1 ⟨cn1, rfl, hq, hb⟩
      have HQ1 := Lib.hid hq
      replace HW := Lib.hid (HW.out.trans (hb.mono HW.out.size))
      clear hq hb
      dsimp only
      refine hK.out _ _ (by exact HKS.out _ HW.out) (fun hHeld => ?_)
      clear hK K
      (try simp only [Act.put, List.setIfInBounds_toArray, List.set_cons_zero, List.set_cons_succ])
      refine wpAnyT_one (i := 5) (o := ⟨some 49, _, _, _, _, _⟩) (by kernel_rfl) rfl (fun K hK => ?_)
      go_simp
      go_at_call 11
      (with_reducible refine (HDO2.out _ (by exact HW.out)).mono ?_)
      rintro e wA2 ⟨cn2, rfl, hq, hb⟩
      have HQ2 := Lib.hid hq
      replace HQ1 := Lib.hid (HQ1.out.later hb)
      replace HW := Lib.hid (HW.out.trans (hb.mono HW.out.size))
      clear hq hb
      dsimp only
      refine hK.out _ _ (by exact HKS.out _ HW.out) (fun hHeld => ?_)
      clear hK K
      (try simp only [Act.put, List.setIfInBounds_toArray, List.set_cons_zero, List.set_cons_succ])
      refine wpAnyT_last (i := 6) (o := ⟨none, _, _, _, _, _⟩) (by kernel_rfl) (by decide) rfl (fun K hK => ?_)
      have hr1 := (HKS.out _ HW.out).1
      have hr2 := (HKS.out _ HW.out).2.1
      rw [if_pos (by rfl)]
      refine st_agg_wp 36 _ _ rfl X cn1 rfl rfl 36 _ hr1 (by rw [HQ1.out.size]; exact map_size) (by rw [HZ1.out, HQ1.out.size]) HQ1.out.one ?_
      intro wS1 hs1 ks1
      have hr2 := ks1.other hr2 (by have h := HD.out; omega)
      replace HQ2 := Lib.hid (HQ2.out.but ks1 hr1 (by decide) (by decide))
      refine hK.out _ _ ?_
      clear hK K
      (try simp only [Act.put, List.setIfInBounds_toArray, List.set_cons_zero, List.set_cons_succ])
      refine wpAnyT_last (i := 7) (o := ⟨none, _, _, _, _, _⟩) (by kernel_rfl) (by decide) rfl (fun K hK => ?_)
      rw [if_pos (by rfl)]
      refine st_agg_wp 41 _ _ rfl Y cn2 rfl rfl 41 _ hr2 (by rw [HQ2.out.size]; exact refm_size) (by rw [HZ2.out, HQ2.out.size]) HQ2.out.one ?_
      intro wS2 hs2 ks2
      refine hK.out _ _ ?_
      clear hK K
      (try simp only [Act.put, List.setIfInBounds_toArray, List.set_cons_zero, List.set_cons_succ])
      refine wpAnyT_done (by kernel_rfl) ?_ _
      replace HB := Lib.hid (HB.out.trans (HW.out.mono HB.out.size))
      replace HB := Lib.hid (HB.out.trans (ks1.below (by have h := HD.out; omega)))
      replace HB := Lib.hid (HB.out.trans (ks2.below (by have h := HD.out; omega)))
      replace HM := Lib.hid ((MB.wrote hs1 ks1 hr1 HQ1.out).only ks2 hr2 (by have h := HD.out; omega) (by decide))
      replace HR := Lib.hid (RB.wrote hs2 ks2 hr2 HQ2.out)
      clear HKS HDO1 HQ1 HZ1 hs1 ks1 hr1 HDO2 HQ2 HZ2 hs2 ks2 hr2 HW hHeld
      go_wp2_with fail
      go_roundw
      case rel => exact ⟨j + 1, by simp, by have := HLT.out; omega, by rw [HEA.out]; exact HM, by rw [HEA.out]; exact HR, HB⟩
      case measure => have := HLT.out; simp [intOf]; omega
    · obtain rfl : j = l.length := by omega
      have hRI := run_rise l l.length
      have hLN : (runE [] (l.take l.length)).length ≤ 120 := by have := run_len l l.length; have := HFl.out.2; omega
      have hSH := run_short l HFl.out.1 l.length
      obtain ⟨L, hL⟩ : ∃ L, L = runE [] (l.take l.length) := ⟨_, rfl⟩
      rw [← hL] at hRI hLN hSH HM HR
      have HRL := Lib.hid (And.intro hRI (And.intro hLN hSH))
      clear hL hRI hLN hSH
      go_upto_region 10 with fail
      have HD : Hid (w.heap.size < X ∧ X < Y ∧ X < wr.heap.size ∧ Y < wr.heap.size) := ⟨HX3.out, HXY.out, HM.out.lt, HR.out.lt⟩
      obtain ⟨cm, hXm, hmm⟩ := HM.out
      have HXM := Lib.hid hXm
      have HMM := Lib.hid hmm
      have HZM := Lib.hid hmm.size
      clear hXm hmm
      have HKS : Hid (∀ V, Below wr.heap.size wr V → V.heap[X]? = some (.cells cm 36 (0, 0))) := fun V hV => (hV.block _ (Array.getElem?_eq_some_iff.1 HXM.out).1).trans HXM.out
      have HW : Hid (Below wr.heap.size wr wr.drew) := drawn_below wr
      refine wp_region_T (S := (fun V => V.heap[X]? = some (.cells cm 36 (0, 0)))) [5] (by kernel_rfl) (by exact HKS.out _ HW.out) (fun hHeld => ?_)
      refine wpAnyT_take (i := 0) (oi := ⟨some 51, _, _, _, _, _⟩) (v := _) rfl (by kernel_rfl) (by kernel_rfl) (by kernel_rfl) (by kernel_rfl) (fun _ _ _ h => h) (yieldsIf_load_row (by rfl) 36 _ rfl X rfl cm 36 (0, 0) _ (fun w hw => hw) Tryd.underlying36 rfl (by rw [HZM.out]; exact map_size)) (by assumption) ?_
      (try simp only [Act.put, List.setIfInBounds_toArray, List.set_cons_zero, List.set_cons_succ])
      refine wpAnyT_take (i := 1) (oi := ⟨some 52, _, _, _, _, _⟩) (v := _) rfl (by kernel_rfl) (by kernel_rfl) (by kernel_rfl) (by kernel_rfl) (fun _ _ _ h => h) (yieldsIf_load_row (by rfl) 36 _ rfl X rfl cm 36 (0, 0) _ (fun w hw => hw) Tryd.underlying36 rfl (by rw [HZM.out]; exact map_size)) (by assumption) ?_
      (try simp only [Act.put, List.setIfInBounds_toArray, List.set_cons_zero, List.set_cons_succ])
      refine wpAnyT_groupA (n := 2) [2, 3] (fun a0 m b V => ∃ val : Nat → Value, b = ((a0.put (some 13) (val 2)).put (some 14) (val 3)) ∧ Gr GotM 36 #[.int .u64 0, .int .i64 0, .int .i64 0, .int .u32 0, .slice none 0 0, .slice none 0 0] [2, 3] [] wr.drew V m val) rfl (by kernel_rfl) ⟨fun _ => undef, rfl, Gr.start _⟩ (by assumption) ?step10 ?done10
      case step10 =>
        as_aux_lemma =>
        clear hHeld
        rintro m i b V hi - hw ⟨val, rfl, hG⟩ hS
        (try simp only [Act.put, List.setIfInBounds_toArray, List.set_cons_zero, List.set_cons_succ])
        have HG := Lib.hid hG
        clear hG hS hw
        rcases (by simp only [List.mem_cons, List.not_mem_nil, or_false] at hi; omega : i = 2 ∨ i = 3) with rfl | rfl
        · refine group_one (o := ⟨some 13, _, _, _, _, _⟩) rfl (fun K hK => ?_)
          go_simp
          refine hK.out _ _ (by exact HKS.out _ (HW.out.trans ((HG.out.bel.trans ((Below.newly' V _).mono HG.out.bel.size)).mono HW.out.size))) ⟨_, rfl, Gr.alloc (R := GotM) (gots := []) (fun A B v x h hb => gotM_later h hb) HG.out (fun g hg e => by cases hg)⟩
        · refine group_one (o := ⟨some 14, _, _, _, _, _⟩) rfl (fun K hK => ?_)
          go_simp
          refine hK.out _ _ (by exact HKS.out _ (HW.out.trans ((HG.out.bel.trans ((Below.newly' V _).mono HG.out.bel.size)).mono HW.out.size))) ⟨_, rfl, Gr.alloc (R := GotM) (gots := []) (fun A B v x h hb => gotM_later h hb) HG.out (fun g hg e => by cases hg)⟩
      case done10 =>
        clear hHeld
        rintro m b V hm ⟨val, rfl, hG⟩ -
        obtain ⟨P, e1, g1, z1⟩ := hG.made 2 (by decide) (hm 2 rfl)
        obtain ⟨Q, e2, g2, z2⟩ := hG.made 3 (by decide) (hm 3 rfl)
        have n12 : P ≠ Q := fun e => hG.apart 2 (by decide) 3 (by decide) (hm 2 rfl) (hm 3 rfl) (by decide) (by rw [e1, e2, e])
        have HBL : Hid (Below wr.heap.size wr V) := HW.out.trans (hG.bel.mono HW.out.size)
        rw [e1, e2]
        have g1' : wr.heap.size ≤ P := g1
        have g2' : wr.heap.size ≤ Q := g2
        have HNE := Lib.hid (And.intro n12 (And.intro g1' g2'))
        have HZV1 := Lib.hid z1
        have HZV2 := Lib.hid z2
        clear hG hm e1 e2 g1 g2 z1 z2 n12 g1' g2'
        (try simp only [Act.put, List.setIfInBounds_toArray, List.set_cons_zero, List.set_cons_succ])
        have hml1 : ML V s n L cm := HMM.out.later HBL.out
        have hml2 : ML V s n L cm := HMM.out.later HBL.out
        refine wpAnyT_one (i := 4) (o := ⟨none, _, _, _, _, _⟩) (by kernel_rfl) rfl (fun K hK => ?_)
        rw [if_pos (by rfl)]
        refine st_agg_wp 36 _ _ rfl P cm rfl rfl 36 #[.int .u64 0, .int .i64 0, .int .i64 0, .int .u32 0, .slice none 0 0, .slice none 0 0] (HZV1.out) (by rw [hml1.size]; exact map_size) (by rw [hml1.size]; rfl) hml1.one ?_
        intro wS1 hs1 ks1
        refine hK.out _ _ (by exact ks1.other (HKS.out _ HBL.out) (by have h := HD.out; have h2 := HNE.out; omega)) (fun hHeld => ?_)
        clear hK K
        (try simp only [Act.put, List.setIfInBounds_toArray, List.set_cons_zero, List.set_cons_succ])
        have hz2 := ks1.other HZV2.out (fun e => HNE.out.1 e.symm)
        refine wpAnyT_last (i := 5) (o := ⟨none, _, _, _, _, _⟩) (by kernel_rfl) (by decide) rfl (fun K hK => ?_)
        rw [if_pos (by rfl)]
        refine st_agg_wp 36 _ _ rfl Q cm rfl rfl 36 #[.int .u64 0, .int .i64 0, .int .i64 0, .int .u32 0, .slice none 0 0, .slice none 0 0] (hz2) (by rw [hml2.size]; exact map_size) (by rw [hml2.size]; rfl) hml2.one ?_
        intro wS2 hs2 ks2
        refine hK.out _ _ ?_
        clear hK K
        (try simp only [Act.put, List.setIfInBounds_toArray, List.set_cons_zero, List.set_cons_succ])
        refine wpAnyT_done (by kernel_rfl) ?_ _
        have HP : Hid (MB wS2 s n L P) := MB.only (MB.wrote hs1 ks1 HZV1.out hml1) ks2 hz2 HNE.out.1 (by decide)
        have HQ : Hid (MB wS2 s n L Q) := MB.wrote hs2 ks2 hz2 (hml2.but ks1 HZV1.out (by decide))
        replace HM := Lib.hid (HM.out.later HBL.out)
        replace HR := Lib.hid (HR.out.later HBL.out)
        replace HB := Lib.hid (HB.out.trans (HBL.out.mono HB.out.size))
        have HNE2 := HNE.out
        replace HM := Lib.hid (HM.out.only ks1 HZV1.out (by have h := HD.out; have h2 := HNE.out; omega) (by decide))
        replace HR := Lib.hid (HR.out.only ks1 HZV1.out (by have h := HD.out; have h2 := HNE.out; omega) (by decide) (by decide))
        replace HB := Lib.hid (HB.out.trans (ks1.below (by have h := HD.out; have h2 := HNE.out; omega)))
        replace HM := Lib.hid (HM.out.only ks2 hz2 (by have h := HD.out; have h2 := HNE.out; omega) (by decide))
        replace HR := Lib.hid (HR.out.only ks2 hz2 (by have h := HD.out; have h2 := HNE.out; omega) (by decide) (by decide))
        replace HB := Lib.hid (HB.out.trans (ks2.below (by have h := HD.out; have h2 := HNE.out; omega)))
        clear HKS HW HBL HZV1 HZV2 hz2 hs1 hs2 ks1 ks2 hml1 hml2 HNE2
        have HDP := Lib.hid (And.intro HNE.out (And.intro HP.out.lt HQ.out.lt))
        clear HNE
        go_upto_region 11 with fail
        have HD2 : Hid (w.heap.size < X ∧ X < Y ∧ X < wS2.heap.size ∧ Y < wS2.heap.size ∧ P < wS2.heap.size ∧ Q < wS2.heap.size) := ⟨HX3.out, HXY.out, HM.out.lt, HR.out.lt, HP.out.lt, HQ.out.lt⟩
        have HDO := Lib.hid HD.out
        replace HD := HD2
        clear HD2
        obtain ⟨cr, hXr, hrr⟩ := HR.out
        have HXR := Lib.hid hXr
        have HRR := Lib.hid hrr
        clear hXr hrr
        obtain ⟨wP, hwP⟩ : ∃ wP, wP = wS2 := ⟨_, rfl⟩
        rw [← hwP] at HM HR HP HQ HB HD HXR HRR HDP
        rw [← hwP]
        clear hwP
        have HKS : Hid (∀ V, Below wP.heap.size wP V → V.heap[Y]? = some (.cells cr 41 (0, 0))) := fun V hV => (hV.block _ (Array.getElem?_eq_some_iff.1 HXR.out).1).trans HXR.out
        have HW : Hid (Below wP.heap.size wP wP.drew) := drawn_below wP
        refine wp_region_T (S := (fun V => V.heap[Y]? = some (.cells cr 41 (0, 0)))) [5] (by kernel_rfl) (by exact HKS.out _ HW.out) (fun hHeld => ?_)
        refine wpAnyT_take (i := 0) (oi := ⟨some 53, _, _, _, _, _⟩) (v := _) rfl (by kernel_rfl) (by kernel_rfl) (by kernel_rfl) (by kernel_rfl) (fun _ _ _ h => h) (yieldsIf_load_row (by rfl) 41 _ rfl Y rfl cr 41 (0, 0) _ (fun w hw => hw) Tryd.underlying41 rfl (by rw [HRR.out.size]; exact refm_size)) (by assumption) ?_
        (try simp only [Act.put, List.setIfInBounds_toArray, List.set_cons_zero, List.set_cons_succ])
        refine wpAnyT_take (i := 1) (oi := ⟨some 54, _, _, _, _, _⟩) (v := _) rfl (by kernel_rfl) (by kernel_rfl) (by kernel_rfl) (by kernel_rfl) (fun _ _ _ h => h) (yieldsIf_load_row (by rfl) 41 _ rfl Y rfl cr 41 (0, 0) _ (fun w hw => hw) Tryd.underlying41 rfl (by rw [HRR.out.size]; exact refm_size)) (by assumption) ?_
        (try simp only [Act.put, List.setIfInBounds_toArray, List.set_cons_zero, List.set_cons_succ])
        refine wpAnyT_groupA (n := 2) [2, 3] (fun a0 m b V => ∃ val : Nat → Value, b = ((a0.put (some 15) (val 2)).put (some 16) (val 3)) ∧ Gr GotM 41 #[.slice none 0 0, .slice none 0 0] [2, 3] [] wP.drew V m val) rfl (by kernel_rfl) ⟨fun _ => undef, rfl, Gr.start _⟩ (by assumption) ?step11 ?done11
        case step11 =>
          as_aux_lemma =>
          clear hHeld
          rintro m i b V hi - hw ⟨val, rfl, hG⟩ hS
          (try simp only [Act.put, List.setIfInBounds_toArray, List.set_cons_zero, List.set_cons_succ])
          have HG := Lib.hid hG
          clear hG hS hw
          rcases (by simp only [List.mem_cons, List.not_mem_nil, or_false] at hi; omega : i = 2 ∨ i = 3) with rfl | rfl
          · refine group_one (o := ⟨some 15, _, _, _, _, _⟩) rfl (fun K hK => ?_)
            go_simp
            refine hK.out _ _ (by exact HKS.out _ (HW.out.trans ((HG.out.bel.trans ((Below.newly' V _).mono HG.out.bel.size)).mono HW.out.size))) ⟨_, rfl, Gr.alloc (R := GotM) (gots := []) (fun A B v x h hb => gotM_later h hb) HG.out (fun g hg e => by cases hg)⟩
          · refine group_one (o := ⟨some 16, _, _, _, _, _⟩) rfl (fun K hK => ?_)
            go_simp
            refine hK.out _ _ (by exact HKS.out _ (HW.out.trans ((HG.out.bel.trans ((Below.newly' V _).mono HG.out.bel.size)).mono HW.out.size))) ⟨_, rfl, Gr.alloc (R := GotM) (gots := []) (fun A B v x h hb => gotM_later h hb) HG.out (fun g hg e => by cases hg)⟩
        case done11 =>
          clear hHeld
          rintro m b V hm ⟨val, rfl, hG⟩ -
          obtain ⟨U, e1, g1, z1⟩ := hG.made 2 (by decide) (hm 2 rfl)
          obtain ⟨U2, e2, g2, z2⟩ := hG.made 3 (by decide) (hm 3 rfl)
          have n12 : U ≠ U2 := fun e => hG.apart 2 (by decide) 3 (by decide) (hm 2 rfl) (hm 3 rfl) (by decide) (by rw [e1, e2, e])
          have HBL : Hid (Below wP.heap.size wP V) := HW.out.trans (hG.bel.mono HW.out.size)
          rw [e1, e2]
          have g1' : wP.heap.size ≤ U := g1
          have g2' : wP.heap.size ≤ U2 := g2
          have HNE := Lib.hid (And.intro n12 (And.intro g1' g2'))
          have HZV1 := Lib.hid z1
          have HZV2 := Lib.hid z2
          clear hG hm e1 e2 g1 g2 z1 z2 n12 g1' g2'
          (try simp only [Act.put, List.setIfInBounds_toArray, List.set_cons_zero, List.set_cons_succ])
          have hml1 : RefM V cr L := HRR.out.later HBL.out
          have hml2 : RefM V cr L := HRR.out.later HBL.out
          refine wpAnyT_one (i := 4) (o := ⟨none, _, _, _, _, _⟩) (by kernel_rfl) rfl (fun K hK => ?_)
          rw [if_pos (by rfl)]
          refine st_agg_wp 41 _ _ rfl U cr rfl rfl 41 #[.slice none 0 0, .slice none 0 0] (HZV1.out) (by rw [hml1.size]; exact refm_size) (by rw [hml1.size]; rfl) hml1.one ?_
          intro wS1 hs1 ks1
          refine hK.out _ _ (by exact ks1.other (HKS.out _ HBL.out) (by have h := HD.out; have h2 := HNE.out; omega)) (fun hHeld => ?_)
          clear hK K
          (try simp only [Act.put, List.setIfInBounds_toArray, List.set_cons_zero, List.set_cons_succ])
          have hz2 := ks1.other HZV2.out (fun e => HNE.out.1 e.symm)
          refine wpAnyT_last (i := 5) (o := ⟨none, _, _, _, _, _⟩) (by kernel_rfl) (by decide) rfl (fun K hK => ?_)
          rw [if_pos (by rfl)]
          refine st_agg_wp 41 _ _ rfl U2 cr rfl rfl 41 #[.slice none 0 0, .slice none 0 0] (hz2) (by rw [hml2.size]; exact refm_size) (by rw [hml2.size]; rfl) hml2.one ?_
          intro wS2 hs2 ks2
          refine hK.out _ _ ?_
          clear hK K
          (try simp only [Act.put, List.setIfInBounds_toArray, List.set_cons_zero, List.set_cons_succ])
          refine wpAnyT_done (by kernel_rfl) ?_ _
          have HU : Hid (RB wS2 L U) := RB.only (RB.wrote hs1 ks1 HZV1.out hml1) ks2 hz2 HNE.out.1 (by decide) (by decide)
          have HV : Hid (RB wS2 L U2) := RB.wrote hs2 ks2 hz2 (hml2.but ks1 HZV1.out (by decide) (by decide))
          replace HM := Lib.hid (HM.out.later HBL.out)
          replace HR := Lib.hid (HR.out.later HBL.out)
          replace HP := Lib.hid (HP.out.later HBL.out)
          replace HQ := Lib.hid (HQ.out.later HBL.out)
          replace HB := Lib.hid (HB.out.trans (HBL.out.mono HB.out.size))
          have HNE2 := HNE.out
          replace HM := Lib.hid (HM.out.only ks1 HZV1.out (by have h := HD.out; have h2 := HNE.out; omega) (by decide))
          replace HR := Lib.hid (HR.out.only ks1 HZV1.out (by have h := HD.out; have h2 := HNE.out; omega) (by decide) (by decide))
          replace HP := Lib.hid (HP.out.only ks1 HZV1.out (by have h := HD.out; have h2 := HNE.out; omega) (by decide))
          replace HQ := Lib.hid (HQ.out.only ks1 HZV1.out (by have h := HD.out; have h2 := HNE.out; omega) (by decide))
          replace HB := Lib.hid (HB.out.trans (ks1.below (by have h := HD.out; have h2 := HNE.out; omega)))
          replace HM := Lib.hid (HM.out.only ks2 hz2 (by have h := HD.out; have h2 := HNE.out; omega) (by decide))
          replace HR := Lib.hid (HR.out.only ks2 hz2 (by have h := HD.out; have h2 := HNE.out; omega) (by decide) (by decide))
          replace HP := Lib.hid (HP.out.only ks2 hz2 (by have h := HD.out; have h2 := HNE.out; omega) (by decide))
          replace HQ := Lib.hid (HQ.out.only ks2 hz2 (by have h := HD.out; have h2 := HNE.out; omega) (by decide))
          replace HB := Lib.hid (HB.out.trans (ks2.below (by have h := HD.out; have h2 := HNE.out; omega)))
          clear HKS HW HBL HZV1 HZV2 hz2 hs1 hs2 ks1 ks2 hml1 hml2 HNE2
          have hDD : w.heap.size < X ∧ w.heap.size < Y ∧ w.heap.size < P ∧ w.heap.size < Q ∧ w.heap.size < U ∧ w.heap.size < U2 ∧ X ≠ Y ∧ P ≠ Q ∧ U ≠ U2 ∧ X ≠ P ∧ X ≠ Q ∧ X ≠ U ∧ X ≠ U2 ∧ Y ≠ P ∧ Y ≠ Q ∧ Y ≠ U ∧ Y ≠ U2 ∧ P ≠ U ∧ P ≠ U2 ∧ Q ≠ U ∧ Q ≠ U2 := by
            have h1 := HD.out
            have h2 := HDP.out
            have h3 := HNE.out
            have h4 := HDO.out
            omega
          replace HD := Lib.hid hDD
          clear hDD HDO HDP HNE HXM HMM HZM HXR HRR HX3 HXY
          go_wp2_with fail
          obtain ⟨Mx, hMx⟩ : ∃ Mx : Nat, max (a.length : Int) (b.length : Int) = (Mx : Int) := ⟨max a.length b.length, by omega⟩
          have HMX : Hid (a.length ≤ Mx ∧ b.length ≤ Mx ∧ (Mx ≤ a.length ∨ Mx ≤ b.length)) := by show _ ∧ _ ∧ _; omega
          rw [hMx]
          have hMx3 : (Mx : Int) ≤ 120 := by omega
          clear hMx
          go_loopw [60] (fun iv wl => ∃ i : Nat, iv = .int .i64 (i : Int) ∧ i ≤ Mx ∧ Hid (MB wl s n (runE L (a.take i)) P) ∧ Hid (RB wl (runE L (a.take i)) U) ∧ Hid (MB wl s n (runE L (b.take i)) Q) ∧ Hid (RB wl (runE L (b.take i)) U2) ∧ Hid (MB wl s n L X) ∧ Hid (RB wl L Y) ∧ Hid (Below w.heap.size w wl)) (fun iv _ => Mx - (intOf iv).toNat)
          case atStart => exact ⟨0, rfl, Nat.zero_le _, HP, HU, HQ, HV, HM, HR, HB⟩
          case round =>
            clear HP HU HQ HV HM HR HB
            obtain ⟨i, rfl, hi, HP, HU, HQ, HV, HM, HR, HB⟩ := hrel
            by_cases hlt : i < Mx
            · as_aux_lemma =>
              have hlt' : (i : Int) < (Mx : Int) := by omega
              have HLT := Lib.hid hlt
              have i0 : (0 : Int) ≤ (i : Int) := by omega
              by_cases ha : i < a.length
              · have ha' : (i : Int) < (a.length : Int) := by omega
                have had : ada = some ⟨bba, ooa, none⟩ := HLa.out.1 (by omega)
                subst had
                have HOP := Lib.hid ((HLa.out.2 i ha).later HB.out)
                have HRI := Lib.hid (runE_rise HRL.out.1 (a.take i))
                have HLN : Hid ((runE L (a.take i)).length ≤ 40000) := by show _ ≤ _; have := run_lenL HRL.out.1 a i; have := HFa.out.2; have := HRL.out.2.1; omega
                have HSH := Lib.hid (run_shortL HRL.out.2.2 a HFa.out.1 i)
                have HKL := Lib.hid (HFa.out.1 _ (List.getElem_mem ha))
                have HEa := Lib.hid (run_takeL L a ha)
                obtain ⟨o, ho⟩ : ∃ o, o = a[i] := ⟨_, rfl⟩
                obtain ⟨D, hDD⟩ : ∃ D, D = runE L (a.take i) := ⟨_, rfl⟩
                rw [← ho] at HOP HKL HEa
                rw [← hDD] at HP HU HRI HLN HSH HEa
                clear ho hDD
                go_upto_region 16 with fail
                have hop := HOP.out
                obtain ⟨cm1, hX1, hm1⟩ := HP.out
                have HZ1 := Lib.hid hm1.size
                obtain ⟨cm2, hX2, hm2⟩ := HU.out
                have HZ2 := Lib.hid hm2.size
                have HKS : Hid (∀ V, Below wr.heap.size wr V → V.heap[P]? = some (.cells cm1 36 (0, 0)) ∧ V.heap[U]? = some (.cells cm2 41 (0, 0)) ∧ Op9In V bba (ooa + i * 3) o) := fun V hV => ⟨(hV.block _ (Array.getElem?_eq_some_iff.1 hX1).1).trans hX1, (hV.block _ (Array.getElem?_eq_some_iff.1 hX2).1).trans hX2, hop.later hV⟩
                have HDO1 := Lib.hid (fun W (hb : Below wr.heap.size wr W) => does9 W s hss n D cm1 o (hm1.later hb) HRI.out HLN.out HKL.out (HTB.out.later (HB.out.trans (hb.mono HB.out.size))).1)
                have HDO2 := Lib.hid (fun W (hb : Below wr.heap.size wr W) => should9 W D cm2 o (hm2.later hb) HRI.out HSH.out HLN.out HKL.out)
                clear hX1 hm1 hX2 hm2
                have HW : Hid (Below wr.heap.size wr wr.drew) := drawn_below wr
                refine wp_region_T (S := (fun V => V.heap[P]? = some (.cells cm1 36 (0, 0)) ∧ V.heap[U]? = some (.cells cm2 41 (0, 0)) ∧ Op9In V bba (ooa + i * 3) o)) [12, 13] (by kernel_rfl) (by exact HKS.out _ HW.out) (fun hHeld => ?_)
                refine wpAnyT_take (i := 0) (oi := ⟨some 67, _, _, _, _, _⟩) (v := _) rfl (by kernel_rfl) (by kernel_rfl) (by kernel_rfl) (by kernel_rfl) (fun _ _ _ h => h) (yieldsIf_load_row (by rfl) 36 _ rfl P rfl cm1 36 (0, 0) _ (fun w hw => hw.1) Tryd.underlying36 rfl (by rw [HZ1.out]; exact map_size)) (by assumption) ?_
                (try simp only [Act.put, List.setIfInBounds_toArray, List.set_cons_zero, List.set_cons_succ])
                refine wpAnyT_take (i := 1) (oi := ⟨some 68, _, _, _, _, _⟩) (v := ?vg4_1) rfl (by kernel_rfl) (by kernel_rfl) (by kernel_rfl) (by kernel_rfl) (fun _ _ _ h => h) (Or.inl ⟨by rfl, ?hg4_1⟩) (by assumption) ?rg4_1
                case hg4_1 => (intro w hSw; (try dsimp only at hSw); first | (go_simp; done) | (go_simp; with_reducible rfl))
                (try simp only [Act.put, List.setIfInBounds_toArray, List.set_cons_zero, List.set_cons_succ])
                refine wpAnyT_take (i := 2) (oi := ⟨some 69, _, _, _, _, _⟩) (v := ?vg4_2) rfl (by kernel_rfl) (by kernel_rfl) (by kernel_rfl) (by kernel_rfl) (fun _ _ _ h => h) (Or.inl ⟨by rfl, ?hg4_2⟩) (by assumption) ?rg4_2
                case hg4_2 => (intro w hSw; (try dsimp only at hSw); first | (go_simp; done) | (go_simp; with_reducible rfl))
                (try simp only [Act.put, List.setIfInBounds_toArray, List.set_cons_zero, List.set_cons_succ])
                refine wpAnyT_take (i := 3) (oi := ⟨some 70, _, _, _, _, _⟩) (v := ?vg4_3) rfl (by kernel_rfl) (by kernel_rfl) (by kernel_rfl) (by kernel_rfl) (fun _ _ _ h => h) (Or.inl ⟨by rfl, ?hg4_3⟩) (by assumption) ?rg4_3
                case hg4_3 => (intro w hSw; (try dsimp only at hSw); first | (go_simp; done) | (go_simp; with_reducible rfl))
                (try simp only [Act.put, List.setIfInBounds_toArray, List.set_cons_zero, List.set_cons_succ])
                refine wpAnyT_take (i := 4) (oi := ⟨some 71, _, _, _, _, _⟩) (v := _) rfl (by kernel_rfl) (by kernel_rfl) (by kernel_rfl) (by kernel_rfl) (fun _ _ _ h => h) (yieldsIf_arr (by rfl) 43 _ rfl bba (ooa + i * 3) rfl (op9C o) _ (fun w hw => hw.2.2) Tryd.underlying43 rfl (by exact op9_size)) (by assumption) ?_
                (try simp only [Act.put, List.setIfInBounds_toArray, List.set_cons_zero, List.set_cons_succ])
                refine wpAnyT_take (i := 6) (oi := ⟨some 73, _, _, _, _, _⟩) (v := _) rfl (by kernel_rfl) (by kernel_rfl) (by kernel_rfl) (by kernel_rfl) (fun _ _ _ h => h) (yieldsIf_load_row (by rfl) 41 _ rfl U rfl cm2 41 (0, 0) _ (fun w hw => hw.2.1) Tryd.underlying41 rfl (by rw [HZ2.out]; exact refm_size)) (by assumption) ?_
                (try simp only [Act.put, List.setIfInBounds_toArray, List.set_cons_zero, List.set_cons_succ])
                refine wpAnyT_take (i := 7) (oi := ⟨some 74, _, _, _, _, _⟩) (v := ?vg4_7) rfl (by kernel_rfl) (by kernel_rfl) (by kernel_rfl) (by kernel_rfl) (fun _ _ _ h => h) (Or.inl ⟨by rfl, ?hg4_7⟩) (by assumption) ?rg4_7
                case hg4_7 => (intro w hSw; (try dsimp only at hSw); first | (go_simp; done) | (go_simp; with_reducible rfl))
                (try simp only [Act.put, List.setIfInBounds_toArray, List.set_cons_zero, List.set_cons_succ])
                refine wpAnyT_take (i := 8) (oi := ⟨some 75, _, _, _, _, _⟩) (v := ?vg4_8) rfl (by kernel_rfl) (by kernel_rfl) (by kernel_rfl) (by kernel_rfl) (fun _ _ _ h => h) (Or.inl ⟨by rfl, ?hg4_8⟩) (by assumption) ?rg4_8
                case hg4_8 => (intro w hSw; (try dsimp only at hSw); first | (go_simp; done) | (go_simp; with_reducible rfl))
                (try simp only [Act.put, List.setIfInBounds_toArray, List.set_cons_zero, List.set_cons_succ])
                refine wpAnyT_take (i := 9) (oi := ⟨some 76, _, _, _, _, _⟩) (v := ?vg4_9) rfl (by kernel_rfl) (by kernel_rfl) (by kernel_rfl) (by kernel_rfl) (fun _ _ _ h => h) (Or.inl ⟨by rfl, ?hg4_9⟩) (by assumption) ?rg4_9
                case hg4_9 => (intro w hSw; (try dsimp only at hSw); first | (go_simp; done) | (go_simp; with_reducible rfl))
                (try simp only [Act.put, List.setIfInBounds_toArray, List.set_cons_zero, List.set_cons_succ])
                refine wpAnyT_take (i := 10) (oi := ⟨some 77, _, _, _, _, _⟩) (v := _) rfl (by kernel_rfl) (by kernel_rfl) (by kernel_rfl) (by kernel_rfl) (fun _ _ _ h => h) (yieldsIf_arr (by rfl) 43 _ rfl bba (ooa + i * 3) rfl (op9C o) _ (fun w hw => hw.2.2) Tryd.underlying43 rfl (by exact op9_size)) (by assumption) ?_
                (try simp only [Act.put, List.setIfInBounds_toArray, List.set_cons_zero, List.set_cons_succ])
                refine wpAnyT_one (i := 5) (o := ⟨some 72, _, _, _, _, _⟩) (by kernel_rfl) rfl (fun K hK => ?_)
                go_simp
                go_at_call 10
                (with_reducible refine (HDO1.out _ (by exact HW.out)).mono ?_)
                rintro e wA1 ⟨cn1, rfl, hq, hb⟩
                have HQ1 := Lib.hid hq
                replace HW := Lib.hid (HW.out.trans (hb.mono HW.out.size))
                clear hq hb
                dsimp only
                refine hK.out _ _ (by exact HKS.out _ HW.out) (fun hHeld => ?_)
                clear hK K
                (try simp only [Act.put, List.setIfInBounds_toArray, List.set_cons_zero, List.set_cons_succ])
                refine wpAnyT_one (i := 11) (o := ⟨some 78, _, _, _, _, _⟩) (by kernel_rfl) rfl (fun K hK => ?_)
                go_simp
                go_at_call 11
                (with_reducible refine (HDO2.out _ (by exact HW.out)).mono ?_)
                rintro e wA2 ⟨cn2, rfl, hq, hb⟩
                have HQ2 := Lib.hid hq
                replace HQ1 := Lib.hid (HQ1.out.later hb)
                replace HW := Lib.hid (HW.out.trans (hb.mono HW.out.size))
                clear hq hb
                dsimp only
                refine hK.out _ _ (by exact HKS.out _ HW.out) (fun hHeld => ?_)
                clear hK K
                (try simp only [Act.put, List.setIfInBounds_toArray, List.set_cons_zero, List.set_cons_succ])
                refine wpAnyT_last (i := 12) (o := ⟨none, _, _, _, _, _⟩) (by kernel_rfl) (by decide) rfl (fun K hK => ?_)
                have hr1 := (HKS.out _ HW.out).1
                have hr2 := (HKS.out _ HW.out).2.1
                rw [if_pos (by rfl)]
                refine st_agg_wp 36 _ _ rfl P cn1 rfl rfl 36 _ hr1 (by rw [HQ1.out.size]; exact map_size) (by rw [HZ1.out, HQ1.out.size]) HQ1.out.one ?_
                intro wS1 hs1 ks1
                have hr2 := ks1.other hr2 (by have h := HD.out; omega)
                replace HQ2 := Lib.hid (HQ2.out.but ks1 hr1 (by decide) (by decide))
                refine hK.out _ _ ?_
                clear hK K
                (try simp only [Act.put, List.setIfInBounds_toArray, List.set_cons_zero, List.set_cons_succ])
                refine wpAnyT_last (i := 13) (o := ⟨none, _, _, _, _, _⟩) (by kernel_rfl) (by decide) rfl (fun K hK => ?_)
                rw [if_pos (by rfl)]
                refine st_agg_wp 41 _ _ rfl U cn2 rfl rfl 41 _ hr2 (by rw [HQ2.out.size]; exact refm_size) (by rw [HZ2.out, HQ2.out.size]) HQ2.out.one ?_
                intro wS2 hs2 ks2
                refine hK.out _ _ ?_
                clear hK K
                (try simp only [Act.put, List.setIfInBounds_toArray, List.set_cons_zero, List.set_cons_succ])
                refine wpAnyT_done (by kernel_rfl) ?_ _
                replace HM := Lib.hid (HM.out.later HW.out)
                replace HR := Lib.hid (HR.out.later HW.out)
                replace HQ := Lib.hid (HQ.out.later HW.out)
                replace HV := Lib.hid (HV.out.later HW.out)
                replace HB := Lib.hid (HB.out.trans (HW.out.mono HB.out.size))
                replace HM := Lib.hid (HM.out.only ks1 hr1 (by have h := HD.out; omega) (by decide))
                replace HR := Lib.hid (HR.out.only ks1 hr1 (by have h := HD.out; omega) (by decide) (by decide))
                replace HQ := Lib.hid (HQ.out.only ks1 hr1 (by have h := HD.out; omega) (by decide))
                replace HV := Lib.hid (HV.out.only ks1 hr1 (by have h := HD.out; omega) (by decide) (by decide))
                replace HB := Lib.hid (HB.out.trans (ks1.below (by have h := HD.out; omega)))
                replace HM := Lib.hid (HM.out.only ks2 hr2 (by have h := HD.out; omega) (by decide))
                replace HR := Lib.hid (HR.out.only ks2 hr2 (by have h := HD.out; omega) (by decide) (by decide))
                replace HQ := Lib.hid (HQ.out.only ks2 hr2 (by have h := HD.out; omega) (by decide))
                replace HV := Lib.hid (HV.out.only ks2 hr2 (by have h := HD.out; omega) (by decide) (by decide))
                replace HB := Lib.hid (HB.out.trans (ks2.below (by have h := HD.out; omega)))
                replace HP := Lib.hid ((MB.wrote hs1 ks1 hr1 HQ1.out).only ks2 hr2 (by have h := HD.out; omega) (by decide))
                replace HU := Lib.hid (RB.wrote hs2 ks2 hr2 HQ2.out)
                clear HKS HDO1 HQ1 HZ1 hs1 ks1 hr1 HDO2 HQ2 HZ2 hs2 ks2 hr2 HW hHeld
                clear HOP HRI HLN HSH HKL
                by_cases hb : i < b.length
                · have hb' : (i : Int) < (b.length : Int) := by omega
                  have had : adb = some ⟨bbb, oob, none⟩ := HLb.out.1 (by omega)
                  subst had
                  have HOP := Lib.hid ((HLb.out.2 i hb).later HB.out)
                  have HRI := Lib.hid (runE_rise HRL.out.1 (b.take i))
                  have HLN : Hid ((runE L (b.take i)).length ≤ 40000) := by show _ ≤ _; have := run_lenL HRL.out.1 b i; have := HFb.out.2; have := HRL.out.2.1; omega
                  have HSH := Lib.hid (run_shortL HRL.out.2.2 b HFb.out.1 i)
                  have HKL := Lib.hid (HFb.out.1 _ (List.getElem_mem hb))
                  have HEb := Lib.hid (run_takeL L b hb)
                  obtain ⟨o, ho⟩ : ∃ o, o = b[i] := ⟨_, rfl⟩
                  obtain ⟨D, hDD⟩ : ∃ D, D = runE L (b.take i) := ⟨_, rfl⟩
                  rw [← ho] at HOP HKL HEb
                  rw [← hDD] at HQ HV HRI HLN HSH HEb
                  clear ho hDD
                  go_upto_region 18 with fail
                  have hop := HOP.out
                  obtain ⟨cm1, hX1, hm1⟩ := HQ.out
                  have HZ1 := Lib.hid hm1.size
                  obtain ⟨cm2, hX2, hm2⟩ := HV.out
                  have HZ2 := Lib.hid hm2.size
                  have HKS : Hid (∀ V, Below wS2.heap.size wS2 V → V.heap[Q]? = some (.cells cm1 36 (0, 0)) ∧ V.heap[U2]? = some (.cells cm2 41 (0, 0)) ∧ Op9In V bbb (oob + i * 3) o) := fun V hV => ⟨(hV.block _ (Array.getElem?_eq_some_iff.1 hX1).1).trans hX1, (hV.block _ (Array.getElem?_eq_some_iff.1 hX2).1).trans hX2, hop.later hV⟩
                  have HDO1 := Lib.hid (fun W (hb : Below wS2.heap.size wS2 W) => does9 W s hss n D cm1 o (hm1.later hb) HRI.out HLN.out HKL.out (HTB.out.later (HB.out.trans (hb.mono HB.out.size))).1)
                  have HDO2 := Lib.hid (fun W (hb : Below wS2.heap.size wS2 W) => should9 W D cm2 o (hm2.later hb) HRI.out HSH.out HLN.out HKL.out)
                  clear hX1 hm1 hX2 hm2
                  have HW : Hid (Below wS2.heap.size wS2 wS2.drew) := drawn_below wS2
                  refine wp_region_T (S := (fun V => V.heap[Q]? = some (.cells cm1 36 (0, 0)) ∧ V.heap[U2]? = some (.cells cm2 41 (0, 0)) ∧ Op9In V bbb (oob + i * 3) o)) [12, 13] (by kernel_rfl) (by exact HKS.out _ HW.out) (fun hHeld => ?_)
                  refine wpAnyT_take (i := 0) (oi := ⟨some 83, _, _, _, _, _⟩) (v := _) rfl (by kernel_rfl) (by kernel_rfl) (by kernel_rfl) (by kernel_rfl) (fun _ _ _ h => h) (yieldsIf_load_row (by rfl) 36 _ rfl Q rfl cm1 36 (0, 0) _ (fun w hw => hw.1) Tryd.underlying36 rfl (by rw [HZ1.out]; exact map_size)) (by assumption) ?_
                  (try simp only [Act.put, List.setIfInBounds_toArray, List.set_cons_zero, List.set_cons_succ])
                  refine wpAnyT_take (i := 1) (oi := ⟨some 84, _, _, _, _, _⟩) (v := ?vg5_1) rfl (by kernel_rfl) (by kernel_rfl) (by kernel_rfl) (by kernel_rfl) (fun _ _ _ h => h) (Or.inl ⟨by rfl, ?hg5_1⟩) (by assumption) ?rg5_1
                  case hg5_1 => (intro w hSw; (try dsimp only at hSw); first | (go_simp; done) | (go_simp; with_reducible rfl))
                  (try simp only [Act.put, List.setIfInBounds_toArray, List.set_cons_zero, List.set_cons_succ])
                  refine wpAnyT_take (i := 2) (oi := ⟨some 85, _, _, _, _, _⟩) (v := ?vg5_2) rfl (by kernel_rfl) (by kernel_rfl) (by kernel_rfl) (by kernel_rfl) (fun _ _ _ h => h) (Or.inl ⟨by rfl, ?hg5_2⟩) (by assumption) ?rg5_2
                  case hg5_2 => (intro w hSw; (try dsimp only at hSw); first | (go_simp; done) | (go_simp; with_reducible rfl))
                  (try simp only [Act.put, List.setIfInBounds_toArray, List.set_cons_zero, List.set_cons_succ])
                  refine wpAnyT_take (i := 3) (oi := ⟨some 86, _, _, _, _, _⟩) (v := ?vg5_3) rfl (by kernel_rfl) (by kernel_rfl) (by kernel_rfl) (by kernel_rfl) (fun _ _ _ h => h) (Or.inl ⟨by rfl, ?hg5_3⟩) (by assumption) ?rg5_3
                  case hg5_3 => (intro w hSw; (try dsimp only at hSw); first | (go_simp; done) | (go_simp; with_reducible rfl))
                  (try simp only [Act.put, List.setIfInBounds_toArray, List.set_cons_zero, List.set_cons_succ])
                  refine wpAnyT_take (i := 4) (oi := ⟨some 87, _, _, _, _, _⟩) (v := _) rfl (by kernel_rfl) (by kernel_rfl) (by kernel_rfl) (by kernel_rfl) (fun _ _ _ h => h) (yieldsIf_arr (by rfl) 43 _ rfl bbb (oob + i * 3) rfl (op9C o) _ (fun w hw => hw.2.2) Tryd.underlying43 rfl (by exact op9_size)) (by assumption) ?_
                  (try simp only [Act.put, List.setIfInBounds_toArray, List.set_cons_zero, List.set_cons_succ])
                  refine wpAnyT_take (i := 6) (oi := ⟨some 89, _, _, _, _, _⟩) (v := _) rfl (by kernel_rfl) (by kernel_rfl) (by kernel_rfl) (by kernel_rfl) (fun _ _ _ h => h) (yieldsIf_load_row (by rfl) 41 _ rfl U2 rfl cm2 41 (0, 0) _ (fun w hw => hw.2.1) Tryd.underlying41 rfl (by rw [HZ2.out]; exact refm_size)) (by assumption) ?_
                  (try simp only [Act.put, List.setIfInBounds_toArray, List.set_cons_zero, List.set_cons_succ])
                  refine wpAnyT_take (i := 7) (oi := ⟨some 90, _, _, _, _, _⟩) (v := ?vg5_7) rfl (by kernel_rfl) (by kernel_rfl) (by kernel_rfl) (by kernel_rfl) (fun _ _ _ h => h) (Or.inl ⟨by rfl, ?hg5_7⟩) (by assumption) ?rg5_7
                  case hg5_7 => (intro w hSw; (try dsimp only at hSw); first | (go_simp; done) | (go_simp; with_reducible rfl))
                  (try simp only [Act.put, List.setIfInBounds_toArray, List.set_cons_zero, List.set_cons_succ])
                  refine wpAnyT_take (i := 8) (oi := ⟨some 91, _, _, _, _, _⟩) (v := ?vg5_8) rfl (by kernel_rfl) (by kernel_rfl) (by kernel_rfl) (by kernel_rfl) (fun _ _ _ h => h) (Or.inl ⟨by rfl, ?hg5_8⟩) (by assumption) ?rg5_8
                  case hg5_8 => (intro w hSw; (try dsimp only at hSw); first | (go_simp; done) | (go_simp; with_reducible rfl))
                  (try simp only [Act.put, List.setIfInBounds_toArray, List.set_cons_zero, List.set_cons_succ])
                  refine wpAnyT_take (i := 9) (oi := ⟨some 92, _, _, _, _, _⟩) (v := ?vg5_9) rfl (by kernel_rfl) (by kernel_rfl) (by kernel_rfl) (by kernel_rfl) (fun _ _ _ h => h) (Or.inl ⟨by rfl, ?hg5_9⟩) (by assumption) ?rg5_9
                  case hg5_9 => (intro w hSw; (try dsimp only at hSw); first | (go_simp; done) | (go_simp; with_reducible rfl))
                  (try simp only [Act.put, List.setIfInBounds_toArray, List.set_cons_zero, List.set_cons_succ])
                  refine wpAnyT_take (i := 10) (oi := ⟨some 93, _, _, _, _, _⟩) (v := _) rfl (by kernel_rfl) (by kernel_rfl) (by kernel_rfl) (by kernel_rfl) (fun _ _ _ h => h) (yieldsIf_arr (by rfl) 43 _ rfl bbb (oob + i * 3) rfl (op9C o) _ (fun w hw => hw.2.2) Tryd.underlying43 rfl (by exact op9_size)) (by assumption) ?_
                  (try simp only [Act.put, List.setIfInBounds_toArray, List.set_cons_zero, List.set_cons_succ])
                  refine wpAnyT_one (i := 5) (o := ⟨some 88, _, _, _, _, _⟩) (by kernel_rfl) rfl (fun K hK => ?_)
                  go_simp
                  go_at_call 10
                  (with_reducible refine (HDO1.out _ (by exact HW.out)).mono ?_)
                  rintro e wA1 ⟨cn1, rfl, hq, hb⟩
                  have HQ1 := Lib.hid hq
                  replace HW := Lib.hid (HW.out.trans (hb.mono HW.out.size))
                  clear hq hb
                  dsimp only
                  refine hK.out _ _ (by exact HKS.out _ HW.out) (fun hHeld => ?_)
                  clear hK K
                  (try simp only [Act.put, List.setIfInBounds_toArray, List.set_cons_zero, List.set_cons_succ])
                  refine wpAnyT_one (i := 11) (o := ⟨some 94, _, _, _, _, _⟩) (by kernel_rfl) rfl (fun K hK => ?_)
                  go_simp
                  go_at_call 11
                  (with_reducible refine (HDO2.out _ (by exact HW.out)).mono ?_)
                  rintro e wA2 ⟨cn2, rfl, hq, hb⟩
                  have HQ2 := Lib.hid hq
                  replace HQ1 := Lib.hid (HQ1.out.later hb)
                  replace HW := Lib.hid (HW.out.trans (hb.mono HW.out.size))
                  clear hq hb
                  dsimp only
                  refine hK.out _ _ (by exact HKS.out _ HW.out) (fun hHeld => ?_)
                  clear hK K
                  (try simp only [Act.put, List.setIfInBounds_toArray, List.set_cons_zero, List.set_cons_succ])
                  refine wpAnyT_last (i := 12) (o := ⟨none, _, _, _, _, _⟩) (by kernel_rfl) (by decide) rfl (fun K hK => ?_)
                  have hr1 := (HKS.out _ HW.out).1
                  have hr2 := (HKS.out _ HW.out).2.1
                  rw [if_pos (by rfl)]
                  refine st_agg_wp 36 _ _ rfl Q cn1 rfl rfl 36 _ hr1 (by rw [HQ1.out.size]; exact map_size) (by rw [HZ1.out, HQ1.out.size]) HQ1.out.one ?_
                  intro wS1 hs1 ks1
                  have hr2 := ks1.other hr2 (by have h := HD.out; omega)
                  replace HQ2 := Lib.hid (HQ2.out.but ks1 hr1 (by decide) (by decide))
                  refine hK.out _ _ ?_
                  clear hK K
                  (try simp only [Act.put, List.setIfInBounds_toArray, List.set_cons_zero, List.set_cons_succ])
                  refine wpAnyT_last (i := 13) (o := ⟨none, _, _, _, _, _⟩) (by kernel_rfl) (by decide) rfl (fun K hK => ?_)
                  rw [if_pos (by rfl)]
                  refine st_agg_wp 41 _ _ rfl U2 cn2 rfl rfl 41 _ hr2 (by rw [HQ2.out.size]; exact refm_size) (by rw [HZ2.out, HQ2.out.size]) HQ2.out.one ?_
                  intro wS2 hs2 ks2
                  refine hK.out _ _ ?_
                  clear hK K
                  (try simp only [Act.put, List.setIfInBounds_toArray, List.set_cons_zero, List.set_cons_succ])
                  refine wpAnyT_done (by kernel_rfl) ?_ _
                  replace HM := Lib.hid (HM.out.later HW.out)
                  replace HR := Lib.hid (HR.out.later HW.out)
                  replace HP := Lib.hid (HP.out.later HW.out)
                  replace HU := Lib.hid (HU.out.later HW.out)
                  replace HB := Lib.hid (HB.out.trans (HW.out.mono HB.out.size))
                  replace HM := Lib.hid (HM.out.only ks1 hr1 (by have h := HD.out; omega) (by decide))
                  replace HR := Lib.hid (HR.out.only ks1 hr1 (by have h := HD.out; omega) (by decide) (by decide))
                  replace HP := Lib.hid (HP.out.only ks1 hr1 (by have h := HD.out; omega) (by decide))
                  replace HU := Lib.hid (HU.out.only ks1 hr1 (by have h := HD.out; omega) (by decide) (by decide))
                  replace HB := Lib.hid (HB.out.trans (ks1.below (by have h := HD.out; omega)))
                  replace HM := Lib.hid (HM.out.only ks2 hr2 (by have h := HD.out; omega) (by decide))
                  replace HR := Lib.hid (HR.out.only ks2 hr2 (by have h := HD.out; omega) (by decide) (by decide))
                  replace HP := Lib.hid (HP.out.only ks2 hr2 (by have h := HD.out; omega) (by decide))
                  replace HU := Lib.hid (HU.out.only ks2 hr2 (by have h := HD.out; omega) (by decide) (by decide))
                  replace HB := Lib.hid (HB.out.trans (ks2.below (by have h := HD.out; omega)))
                  replace HQ := Lib.hid ((MB.wrote hs1 ks1 hr1 HQ1.out).only ks2 hr2 (by have h := HD.out; omega) (by decide))
                  replace HV := Lib.hid (RB.wrote hs2 ks2 hr2 HQ2.out)
                  clear HKS HDO1 HQ1 HZ1 hs1 ks1 hr1 HDO2 HQ2 HZ2 hs2 ks2 hr2 HW hHeld
                  clear HOP HRI HLN HSH HKL
                  go_wp2_with fail
                  go_roundw
                  case rel => exact ⟨i + 1, by simp, by have := HLT.out; omega, by rw [HEa.out]; exact HP, by rw [HEa.out]; exact HU, by rw [HEb.out]; exact HQ, by rw [HEb.out]; exact HV, HM, HR, HB⟩
                  case measure => have := HLT.out; simp [intOf]; omega
                · have hb' : ¬ (i : Int) < (b.length : Int) := by omega
                  have HEb : Hid (runE L (b.take (i + 1)) = runE L (b.take i)) := by show _ = _; rw [List.take_of_length_le (by omega), List.take_of_length_le (by omega)]
                  go_wp2_with fail
                  go_roundw
                  case rel => exact ⟨i + 1, by simp, by have := HLT.out; omega, by rw [HEa.out]; exact HP, by rw [HEa.out]; exact HU, by rw [HEb.out]; exact HQ, by rw [HEb.out]; exact HV, HM, HR, HB⟩
                  case measure => have := HLT.out; simp [intOf]; omega
              · have ha' : ¬ (i : Int) < (a.length : Int) := by omega
                have HEa : Hid (runE L (a.take (i + 1)) = runE L (a.take i)) := by show _ = _; rw [List.take_of_length_le (by omega), List.take_of_length_le (by omega)]
                by_cases hb : i < b.length
                · have hb' : (i : Int) < (b.length : Int) := by omega
                  have had : adb = some ⟨bbb, oob, none⟩ := HLb.out.1 (by omega)
                  subst had
                  have HOP := Lib.hid ((HLb.out.2 i hb).later HB.out)
                  have HRI := Lib.hid (runE_rise HRL.out.1 (b.take i))
                  have HLN : Hid ((runE L (b.take i)).length ≤ 40000) := by show _ ≤ _; have := run_lenL HRL.out.1 b i; have := HFb.out.2; have := HRL.out.2.1; omega
                  have HSH := Lib.hid (run_shortL HRL.out.2.2 b HFb.out.1 i)
                  have HKL := Lib.hid (HFb.out.1 _ (List.getElem_mem hb))
                  have HEb := Lib.hid (run_takeL L b hb)
                  obtain ⟨o, ho⟩ : ∃ o, o = b[i] := ⟨_, rfl⟩
                  obtain ⟨D, hDD⟩ : ∃ D, D = runE L (b.take i) := ⟨_, rfl⟩
                  rw [← ho] at HOP HKL HEb
                  rw [← hDD] at HQ HV HRI HLN HSH HEb
                  clear ho hDD
                  go_upto_region 18 with fail
                  have hop := HOP.out
                  obtain ⟨cm1, hX1, hm1⟩ := HQ.out
                  have HZ1 := Lib.hid hm1.size
                  obtain ⟨cm2, hX2, hm2⟩ := HV.out
                  have HZ2 := Lib.hid hm2.size
                  have HKS : Hid (∀ V, Below wr.heap.size wr V → V.heap[Q]? = some (.cells cm1 36 (0, 0)) ∧ V.heap[U2]? = some (.cells cm2 41 (0, 0)) ∧ Op9In V bbb (oob + i * 3) o) := fun V hV => ⟨(hV.block _ (Array.getElem?_eq_some_iff.1 hX1).1).trans hX1, (hV.block _ (Array.getElem?_eq_some_iff.1 hX2).1).trans hX2, hop.later hV⟩
                  have HDO1 := Lib.hid (fun W (hb : Below wr.heap.size wr W) => does9 W s hss n D cm1 o (hm1.later hb) HRI.out HLN.out HKL.out (HTB.out.later (HB.out.trans (hb.mono HB.out.size))).1)
                  have HDO2 := Lib.hid (fun W (hb : Below wr.heap.size wr W) => should9 W D cm2 o (hm2.later hb) HRI.out HSH.out HLN.out HKL.out)
                  clear hX1 hm1 hX2 hm2
                  have HW : Hid (Below wr.heap.size wr wr.drew) := drawn_below wr
                  refine wp_region_T (S := (fun V => V.heap[Q]? = some (.cells cm1 36 (0, 0)) ∧ V.heap[U2]? = some (.cells cm2 41 (0, 0)) ∧ Op9In V bbb (oob + i * 3) o)) [12, 13] (by kernel_rfl) (by exact HKS.out _ HW.out) (fun hHeld => ?_)
                  refine wpAnyT_take (i := 0) (oi := ⟨some 83, _, _, _, _, _⟩) (v := _) rfl (by kernel_rfl) (by kernel_rfl) (by kernel_rfl) (by kernel_rfl) (fun _ _ _ h => h) (yieldsIf_load_row (by rfl) 36 _ rfl Q rfl cm1 36 (0, 0) _ (fun w hw => hw.1) Tryd.underlying36 rfl (by rw [HZ1.out]; exact map_size)) (by assumption) ?_
                  (try simp only [Act.put, List.setIfInBounds_toArray, List.set_cons_zero, List.set_cons_succ])
                  refine wpAnyT_take (i := 1) (oi := ⟨some 84, _, _, _, _, _⟩) (v := ?vg6_1) rfl (by kernel_rfl) (by kernel_rfl) (by kernel_rfl) (by kernel_rfl) (fun _ _ _ h => h) (Or.inl ⟨by rfl, ?hg6_1⟩) (by assumption) ?rg6_1
                  case hg6_1 => (intro w hSw; (try dsimp only at hSw); first | (go_simp; done) | (go_simp; with_reducible rfl))
                  (try simp only [Act.put, List.setIfInBounds_toArray, List.set_cons_zero, List.set_cons_succ])
                  refine wpAnyT_take (i := 2) (oi := ⟨some 85, _, _, _, _, _⟩) (v := ?vg6_2) rfl (by kernel_rfl) (by kernel_rfl) (by kernel_rfl) (by kernel_rfl) (fun _ _ _ h => h) (Or.inl ⟨by rfl, ?hg6_2⟩) (by assumption) ?rg6_2
                  case hg6_2 => (intro w hSw; (try dsimp only at hSw); first | (go_simp; done) | (go_simp; with_reducible rfl))
                  (try simp only [Act.put, List.setIfInBounds_toArray, List.set_cons_zero, List.set_cons_succ])
                  refine wpAnyT_take (i := 3) (oi := ⟨some 86, _, _, _, _, _⟩) (v := ?vg6_3) rfl (by kernel_rfl) (by kernel_rfl) (by kernel_rfl) (by kernel_rfl) (fun _ _ _ h => h) (Or.inl ⟨by rfl, ?hg6_3⟩) (by assumption) ?rg6_3
                  case hg6_3 => (intro w hSw; (try dsimp only at hSw); first | (go_simp; done) | (go_simp; with_reducible rfl))
                  (try simp only [Act.put, List.setIfInBounds_toArray, List.set_cons_zero, List.set_cons_succ])
                  refine wpAnyT_take (i := 4) (oi := ⟨some 87, _, _, _, _, _⟩) (v := _) rfl (by kernel_rfl) (by kernel_rfl) (by kernel_rfl) (by kernel_rfl) (fun _ _ _ h => h) (yieldsIf_arr (by rfl) 43 _ rfl bbb (oob + i * 3) rfl (op9C o) _ (fun w hw => hw.2.2) Tryd.underlying43 rfl (by exact op9_size)) (by assumption) ?_
                  (try simp only [Act.put, List.setIfInBounds_toArray, List.set_cons_zero, List.set_cons_succ])
                  refine wpAnyT_take (i := 6) (oi := ⟨some 89, _, _, _, _, _⟩) (v := _) rfl (by kernel_rfl) (by kernel_rfl) (by kernel_rfl) (by kernel_rfl) (fun _ _ _ h => h) (yieldsIf_load_row (by rfl) 41 _ rfl U2 rfl cm2 41 (0, 0) _ (fun w hw => hw.2.1) Tryd.underlying41 rfl (by rw [HZ2.out]; exact refm_size)) (by assumption) ?_
                  (try simp only [Act.put, List.setIfInBounds_toArray, List.set_cons_zero, List.set_cons_succ])
                  refine wpAnyT_take (i := 7) (oi := ⟨some 90, _, _, _, _, _⟩) (v := ?vg6_7) rfl (by kernel_rfl) (by kernel_rfl) (by kernel_rfl) (by kernel_rfl) (fun _ _ _ h => h) (Or.inl ⟨by rfl, ?hg6_7⟩) (by assumption) ?rg6_7
                  case hg6_7 => (intro w hSw; (try dsimp only at hSw); first | (go_simp; done) | (go_simp; with_reducible rfl))
                  (try simp only [Act.put, List.setIfInBounds_toArray, List.set_cons_zero, List.set_cons_succ])
                  refine wpAnyT_take (i := 8) (oi := ⟨some 91, _, _, _, _, _⟩) (v := ?vg6_8) rfl (by kernel_rfl) (by kernel_rfl) (by kernel_rfl) (by kernel_rfl) (fun _ _ _ h => h) (Or.inl ⟨by rfl, ?hg6_8⟩) (by assumption) ?rg6_8
                  case hg6_8 => (intro w hSw; (try dsimp only at hSw); first | (go_simp; done) | (go_simp; with_reducible rfl))
                  (try simp only [Act.put, List.setIfInBounds_toArray, List.set_cons_zero, List.set_cons_succ])
                  refine wpAnyT_take (i := 9) (oi := ⟨some 92, _, _, _, _, _⟩) (v := ?vg6_9) rfl (by kernel_rfl) (by kernel_rfl) (by kernel_rfl) (by kernel_rfl) (fun _ _ _ h => h) (Or.inl ⟨by rfl, ?hg6_9⟩) (by assumption) ?rg6_9
                  case hg6_9 => (intro w hSw; (try dsimp only at hSw); first | (go_simp; done) | (go_simp; with_reducible rfl))
                  (try simp only [Act.put, List.setIfInBounds_toArray, List.set_cons_zero, List.set_cons_succ])
                  refine wpAnyT_take (i := 10) (oi := ⟨some 93, _, _, _, _, _⟩) (v := _) rfl (by kernel_rfl) (by kernel_rfl) (by kernel_rfl) (by kernel_rfl) (fun _ _ _ h => h) (yieldsIf_arr (by rfl) 43 _ rfl bbb (oob + i * 3) rfl (op9C o) _ (fun w hw => hw.2.2) Tryd.underlying43 rfl (by exact op9_size)) (by assumption) ?_
                  (try simp only [Act.put, List.setIfInBounds_toArray, List.set_cons_zero, List.set_cons_succ])
                  refine wpAnyT_one (i := 5) (o := ⟨some 88, _, _, _, _, _⟩) (by kernel_rfl) rfl (fun K hK => ?_)
                  go_simp
                  go_at_call 10
                  (with_reducible refine (HDO1.out _ (by exact HW.out)).mono ?_)
                  rintro e wA1 ⟨cn1, rfl, hq, hb⟩
                  have HQ1 := Lib.hid hq
                  replace HW := Lib.hid (HW.out.trans (hb.mono HW.out.size))
                  clear hq hb
                  dsimp only
                  refine hK.out _ _ (by exact HKS.out _ HW.out) (fun hHeld => ?_)
                  clear hK K
                  (try simp only [Act.put, List.setIfInBounds_toArray, List.set_cons_zero, List.set_cons_succ])
                  refine wpAnyT_one (i := 11) (o := ⟨some 94, _, _, _, _, _⟩) (by kernel_rfl) rfl (fun K hK => ?_)
                  go_simp
                  go_at_call 11
                  (with_reducible refine (HDO2.out _ (by exact HW.out)).mono ?_)
                  rintro e wA2 ⟨cn2, rfl, hq, hb⟩
                  have HQ2 := Lib.hid hq
                  replace HQ1 := Lib.hid (HQ1.out.later hb)
                  replace HW := Lib.hid (HW.out.trans (hb.mono HW.out.size))
                  clear hq hb
                  dsimp only
                  refine hK.out _ _ (by exact HKS.out _ HW.out) (fun hHeld => ?_)
                  clear hK K
                  (try simp only [Act.put, List.setIfInBounds_toArray, List.set_cons_zero, List.set_cons_succ])
                  refine wpAnyT_last (i := 12) (o := ⟨none, _, _, _, _, _⟩) (by kernel_rfl) (by decide) rfl (fun K hK => ?_)
                  have hr1 := (HKS.out _ HW.out).1
                  have hr2 := (HKS.out _ HW.out).2.1
                  rw [if_pos (by rfl)]
                  refine st_agg_wp 36 _ _ rfl Q cn1 rfl rfl 36 _ hr1 (by rw [HQ1.out.size]; exact map_size) (by rw [HZ1.out, HQ1.out.size]) HQ1.out.one ?_
                  intro wS1 hs1 ks1
                  have hr2 := ks1.other hr2 (by have h := HD.out; omega)
                  replace HQ2 := Lib.hid (HQ2.out.but ks1 hr1 (by decide) (by decide))
                  refine hK.out _ _ ?_
                  clear hK K
                  (try simp only [Act.put, List.setIfInBounds_toArray, List.set_cons_zero, List.set_cons_succ])
                  refine wpAnyT_last (i := 13) (o := ⟨none, _, _, _, _, _⟩) (by kernel_rfl) (by decide) rfl (fun K hK => ?_)
                  rw [if_pos (by rfl)]
                  refine st_agg_wp 41 _ _ rfl U2 cn2 rfl rfl 41 _ hr2 (by rw [HQ2.out.size]; exact refm_size) (by rw [HZ2.out, HQ2.out.size]) HQ2.out.one ?_
                  intro wS2 hs2 ks2
                  refine hK.out _ _ ?_
                  clear hK K
                  (try simp only [Act.put, List.setIfInBounds_toArray, List.set_cons_zero, List.set_cons_succ])
                  refine wpAnyT_done (by kernel_rfl) ?_ _
                  replace HM := Lib.hid (HM.out.later HW.out)
                  replace HR := Lib.hid (HR.out.later HW.out)
                  replace HP := Lib.hid (HP.out.later HW.out)
                  replace HU := Lib.hid (HU.out.later HW.out)
                  replace HB := Lib.hid (HB.out.trans (HW.out.mono HB.out.size))
                  replace HM := Lib.hid (HM.out.only ks1 hr1 (by have h := HD.out; omega) (by decide))
                  replace HR := Lib.hid (HR.out.only ks1 hr1 (by have h := HD.out; omega) (by decide) (by decide))
                  replace HP := Lib.hid (HP.out.only ks1 hr1 (by have h := HD.out; omega) (by decide))
                  replace HU := Lib.hid (HU.out.only ks1 hr1 (by have h := HD.out; omega) (by decide) (by decide))
                  replace HB := Lib.hid (HB.out.trans (ks1.below (by have h := HD.out; omega)))
                  replace HM := Lib.hid (HM.out.only ks2 hr2 (by have h := HD.out; omega) (by decide))
                  replace HR := Lib.hid (HR.out.only ks2 hr2 (by have h := HD.out; omega) (by decide) (by decide))
                  replace HP := Lib.hid (HP.out.only ks2 hr2 (by have h := HD.out; omega) (by decide))
                  replace HU := Lib.hid (HU.out.only ks2 hr2 (by have h := HD.out; omega) (by decide) (by decide))
                  replace HB := Lib.hid (HB.out.trans (ks2.below (by have h := HD.out; omega)))
                  replace HQ := Lib.hid ((MB.wrote hs1 ks1 hr1 HQ1.out).only ks2 hr2 (by have h := HD.out; omega) (by decide))
                  replace HV := Lib.hid (RB.wrote hs2 ks2 hr2 HQ2.out)
                  clear HKS HDO1 HQ1 HZ1 hs1 ks1 hr1 HDO2 HQ2 HZ2 hs2 ks2 hr2 HW hHeld
                  clear HOP HRI HLN HSH HKL
                  go_wp2_with fail
                  go_roundw
                  case rel => exact ⟨i + 1, by simp, by have := HLT.out; omega, by rw [HEa.out]; exact HP, by rw [HEa.out]; exact HU, by rw [HEb.out]; exact HQ, by rw [HEb.out]; exact HV, HM, HR, HB⟩
                  case measure => have := HLT.out; simp [intOf]; omega
                · exact absurd hlt (by have := HMX.out; omega)
            · obtain rfl : i = Mx := by omega
              rw [List.take_of_length_le HMX.out.1] at HP HU
              rw [List.take_of_length_le HMX.out.2.1] at HQ HV
              have HRA : Hid (Rise (runE L a) ∧ (runE L a).length ≤ 40000 ∧ Short (runE L a)) := by
                have h := run_lenL HRL.out.1 a a.length
                have h2 := run_shortL HRL.out.2.2 a HFa.out.1 a.length
                rw [List.take_length] at h h2
                exact ⟨runE_rise HRL.out.1 a, by have := HFa.out.2; have := HRL.out.2.1; omega, h2⟩
              have HRBb : Hid (Rise (runE L b) ∧ (runE L b).length ≤ 40000 ∧ Short (runE L b)) := by
                have h := run_lenL HRL.out.1 b b.length
                have h2 := run_shortL HRL.out.2.2 b HFb.out.1 b.length
                rw [List.take_length] at h h2
                exact ⟨runE_rise HRL.out.1 b, by have := HFb.out.2; have := HRL.out.2.1; omega, h2⟩
              obtain ⟨c1, hx1, hm1⟩ := HP.out
              obtain ⟨c2, hx2, hm2⟩ := HU.out
              obtain ⟨c3, hx3, hm3⟩ := HQ.out
              obtain ⟨c4, hx4, hm4⟩ := HV.out
              obtain ⟨c5, hx5, hm5⟩ := HM.out
              obtain ⟨c6, hx6, hm6⟩ := HR.out
              have HX1 := Lib.hid hx1
              have HL1 := Lib.hid hm1
              have HS1 := Lib.hid hm1.size
              have HX2 := Lib.hid hx2
              have HL2 := Lib.hid hm2
              have HS2 := Lib.hid hm2.size
              have HX3 := Lib.hid hx3
              have HL3 := Lib.hid hm3
              have HS3 := Lib.hid hm3.size
              have HX4 := Lib.hid hx4
              have HL4 := Lib.hid hm4
              have HS4 := Lib.hid hm4.size
              have HX5 := Lib.hid hx5
              have HL5 := Lib.hid hm5
              have HS5 := Lib.hid hm5.size
              have HX6 := Lib.hid hx6
              have HL6 := Lib.hid hm6
              have HS6 := Lib.hid hm6.size
              clear hx1 hm1 hx2 hm2 hx3 hm3 hx4 hm4 hx5 hm5 hx6 hm6 HP HU HQ HV HM HR
              go_wp2_with (first
                | (refine ld_if (by rfl) 36 _ rfl P rfl 36 _ _ _ HX1.out Tryd.underlying36 rfl (by rw [HS1.out]; exact map_size) ?_)
                | (refine ld_if (by rfl) 41 _ rfl U rfl 41 _ _ _ HX2.out Tryd.underlying41 rfl (by rw [HS2.out]; exact refm_size) ?_)
                | (refine ld_if (by rfl) 36 _ rfl Q rfl 36 _ _ _ HX3.out Tryd.underlying36 rfl (by rw [HS3.out]; exact map_size) ?_)
                | (refine ld_if (by rfl) 41 _ rfl U2 rfl 41 _ _ _ HX4.out Tryd.underlying41 rfl (by rw [HS4.out]; exact refm_size) ?_)
                | (refine ld_if (by rfl) 36 _ rfl X rfl 36 _ _ _ HX5.out Tryd.underlying36 rfl (by rw [HS5.out]; exact map_size) ?_)
                | (refine ld_if (by rfl) 41 _ rfl Y rfl 41 _ _ _ HX6.out Tryd.underlying41 rfl (by rw [HS6.out]; exact refm_size) ?_)
                | (go_at_call 12; (with_reducible refine (same9 _ s hss n _ _ _ HL1.out HL2.out HRA.out.1 HRA.out.2.2 (HRA.out.2.1) (HTB.out.later HB.out).six).mono ?_); rintro e w1 ⟨rfl, hb⟩; replace HX1 := Lib.hid ((hb.block _ (Array.getElem?_eq_some_iff.1 HX1.out).1).trans HX1.out); replace HX2 := Lib.hid ((hb.block _ (Array.getElem?_eq_some_iff.1 HX2.out).1).trans HX2.out); replace HX3 := Lib.hid ((hb.block _ (Array.getElem?_eq_some_iff.1 HX3.out).1).trans HX3.out); replace HX4 := Lib.hid ((hb.block _ (Array.getElem?_eq_some_iff.1 HX4.out).1).trans HX4.out); replace HX5 := Lib.hid ((hb.block _ (Array.getElem?_eq_some_iff.1 HX5.out).1).trans HX5.out); replace HX6 := Lib.hid ((hb.block _ (Array.getElem?_eq_some_iff.1 HX6.out).1).trans HX6.out); replace HL1 := Lib.hid (HL1.out.later hb); replace HL2 := Lib.hid (HL2.out.later hb); replace HL3 := Lib.hid (HL3.out.later hb); replace HL4 := Lib.hid (HL4.out.later hb); replace HL5 := Lib.hid (HL5.out.later hb); replace HL6 := Lib.hid (HL6.out.later hb); replace HB := Lib.hid (HB.out.trans (hb.mono HB.out.size)); clear hb)
                | (go_at_call 12; (with_reducible refine (same9 _ s hss n _ _ _ HL3.out HL4.out HRBb.out.1 HRBb.out.2.2 (HRBb.out.2.1) (HTB.out.later HB.out).six).mono ?_); rintro e w1 ⟨rfl, hb⟩; replace HX1 := Lib.hid ((hb.block _ (Array.getElem?_eq_some_iff.1 HX1.out).1).trans HX1.out); replace HX2 := Lib.hid ((hb.block _ (Array.getElem?_eq_some_iff.1 HX2.out).1).trans HX2.out); replace HX3 := Lib.hid ((hb.block _ (Array.getElem?_eq_some_iff.1 HX3.out).1).trans HX3.out); replace HX4 := Lib.hid ((hb.block _ (Array.getElem?_eq_some_iff.1 HX4.out).1).trans HX4.out); replace HX5 := Lib.hid ((hb.block _ (Array.getElem?_eq_some_iff.1 HX5.out).1).trans HX5.out); replace HX6 := Lib.hid ((hb.block _ (Array.getElem?_eq_some_iff.1 HX6.out).1).trans HX6.out); replace HL1 := Lib.hid (HL1.out.later hb); replace HL2 := Lib.hid (HL2.out.later hb); replace HL3 := Lib.hid (HL3.out.later hb); replace HL4 := Lib.hid (HL4.out.later hb); replace HL5 := Lib.hid (HL5.out.later hb); replace HL6 := Lib.hid (HL6.out.later hb); replace HB := Lib.hid (HB.out.trans (hb.mono HB.out.size)); clear hb)
                | (go_at_call 12; (with_reducible refine (same9 _ s hss n _ _ _ HL5.out HL6.out HRL.out.1 HRL.out.2.2 (by have := HRL.out.2.1; omega) (HTB.out.later HB.out).six).mono ?_); rintro e w1 ⟨rfl, hb⟩; replace HX1 := Lib.hid ((hb.block _ (Array.getElem?_eq_some_iff.1 HX1.out).1).trans HX1.out); replace HX2 := Lib.hid ((hb.block _ (Array.getElem?_eq_some_iff.1 HX2.out).1).trans HX2.out); replace HX3 := Lib.hid ((hb.block _ (Array.getElem?_eq_some_iff.1 HX3.out).1).trans HX3.out); replace HX4 := Lib.hid ((hb.block _ (Array.getElem?_eq_some_iff.1 HX4.out).1).trans HX4.out); replace HX5 := Lib.hid ((hb.block _ (Array.getElem?_eq_some_iff.1 HX5.out).1).trans HX5.out); replace HX6 := Lib.hid ((hb.block _ (Array.getElem?_eq_some_iff.1 HX6.out).1).trans HX6.out); replace HL1 := Lib.hid (HL1.out.later hb); replace HL2 := Lib.hid (HL2.out.later hb); replace HL3 := Lib.hid (HL3.out.later hb); replace HL4 := Lib.hid (HL4.out.later hb); replace HL5 := Lib.hid (HL5.out.later hb); replace HL6 := Lib.hid (HL6.out.later hb); replace HB := Lib.hid (HB.out.trans (hb.mono HB.out.size)); clear hb))
              go_ret
              exact ⟨rfl, HB.out⟩
theorem hamtBranches_walk (s : Nat) (n : Int) (va : Value) (l : List Op9) (vb : Value) (a : List Op9) (vc : Value) (b : List Op9) (hss : s < 18446744073709551616) (w : World) (hl : Ops9 w va l) (ha : Ops9 w vb a) (hb : Ops9 w vc b) (hT : Tabs w) : Calls Tryd.prog 3 #[.agg #[.int .u64 (s : Int), .int .i64 n], va, vb, vc] w fun e w' => e = .returned (.bool true) ∧ Below w.heap.size w w' := hamtBranches_of s n va l vb a vc b w hss hl ha hb hT
end Go.Proofs.YtlngjabjeodkpaaDoor
