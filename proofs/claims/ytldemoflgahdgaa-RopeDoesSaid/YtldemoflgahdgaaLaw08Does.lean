/- Layer 8's law RopeDoes, over package rope as it landed. (written by tools/gen08/does8.py) -/
import Derived.Test.YtldemoflgahdgaaLaw08All
namespace Go.Proofs.Ytldemoflgahdgaa
open Go.RowKit
set_option maxRecDepth 1000000
set_option linter.unusedSimpArgs false

set_option maxHeartbeats 4000000 in
theorem ropeDoes_of (v : Value) (l : List Op8) (ask : Int) (w : World) (hl : Ops8 w v l) (hin : ∀ o ∈ l, InR o.2.1 ∧ InR o.2.2.1) : Calls Try.prog 3 #[v, .int .i64 ask] w fun e w' => e = .returned (.bool true) ∧ Below w.heap.size w w' := by
  have HB := Lib.hid (Below.refl w.heap.size w)
  have HFEW := Lib.hid (fun W (h : Below w.heap.size w W) => few8 v l W (hl.later h))
  have HALL := Lib.hid (fun W (h : Below w.heap.size w W) (hf : few8B l = true) => all8 v l W (hl.later h) hin hf)
  obtain ⟨ad, cap, bb, oo, rfl, _⟩ := hl
  by_cases hf : few8B l = true
  case neg =>
    rw [show few8B l = false by simpa using hf] at HFEW
    clear hf HALL hin
    go_enter Try.func3, Try.ntmps3
    go_wp2_with (first
      | (go_at_call 8; (with_reducible refine (live8 _).mono ?_); rintro e w1 ⟨rfl, hb⟩; replace HB := Lib.hid (HB.out.trans (hb.mono HB.out.size)); clear hb)
      | (go_at_call 9; (with_reducible refine (HFEW.out _ HB.out).mono ?_); rintro e w1 ⟨rfl, hb⟩; replace HB := Lib.hid (HB.out.trans (hb.mono HB.out.size)); clear hb))
    go_ret
    exact ⟨rfl, HB.out⟩
  have HF := Lib.hid hf
  rw [hf] at HFEW
  clear hf hin
  go_enter Try.func3, Try.ntmps3
  go_upto_region 6 with (first
    | (go_at_call 8; (with_reducible refine (live8 _).mono ?_); rintro e w1 ⟨rfl, hb⟩; replace HB := Lib.hid (HB.out.trans (hb.mono HB.out.size)); clear hb)
    | (go_at_call 9; (with_reducible refine (HFEW.out _ HB.out).mono ?_); rintro e w1 ⟨rfl, hb⟩; replace HB := Lib.hid (HB.out.trans (hb.mono HB.out.size)); clear hb)
    | (go_at_call 10; (with_reducible refine (HALL.out _ HB.out HF.out).mono ?_); rintro e w2 ⟨vs, ls, rfl, ts, hr, hs, ha, hsh, hb⟩; have HR4 := Lib.hid hr; have HS4 := Lib.hid hs; have HA4 := Lib.hid ha; have HSH := Lib.hid hsh; replace HB := Lib.hid (HB.out.trans (hb.mono HB.out.size)); clear hr hs ha hsh hb))
  have HNr : Hid (ts.map (·.1) ≠ []) := fun h => by have h1 := congrArg List.length h; have := HSH.out.1; rw [List.length_map, List.length_nil] at h1; omega
  have HNs : Hid (ts.map (fun t => #[t.2.1]) ≠ []) := fun h => by have h1 := congrArg List.length h; have := HSH.out.1; rw [List.length_map, List.length_nil] at h1; omega
  obtain ⟨gr, cpr, _, _, hvr, _, _, _⟩ := HR4.out.at_ HNr.out
  rw [List.length_map] at hvr
  subst hvr
  obtain ⟨gs, cps, _, _, hvs, _, _, _⟩ := HS4.out.at_ HNs.out
  rw [List.length_map] at hvs
  subst hvs
  have hts41 : (ts.length : Int) ≤ 41 := by have := HSH.out.2.1; omega
  go_wp2_with fail
  go_loopw [31] (fun iv wl => ∃ i : Nat, i ≤ ts.length ∧ iv = .int .i64 (i : Int) ∧ Below w2.heap.size w2 wl) (fun iv _ => ts.length - (intOf iv).toNat)
  case atStart => exact ⟨0, Nat.zero_le _, rfl, Below.refl _ _⟩
  case round =>
    obtain ⟨i, hi, rfl, hb⟩ := hrel
    have HW := Lib.hid hb
    by_cases hlt : i < ts.length
    · have hlt' : (i : Int) < (ts.length : Int) := by omega
      have i0 : (0 : Int) ≤ (i : Int) := by omega
      have hti : ts[i]? = some ts[i] := List.getElem?_eq_getElem hlt
      have HAI := Lib.hid (HA4.out ts[i] (List.getElem_mem hlt))
      have HLI := Lib.hid (HSH.out.2.2 ts[i] (List.getElem_mem hlt))
      have HRI := Lib.hid (HR4.out.read (i := i) (c := ts[i].1) rfl (by rw [List.getElem?_map, hti]; rfl))
      have HSI := Lib.hid (HS4.out.read (i := i) (c := #[ts[i].2.1]) rfl (by rw [List.getElem?_map, hti]; rfl))
      obtain ⟨⟨ci, vi, li⟩, hx⟩ : ∃ x, x = ts[i] := ⟨_, rfl⟩
      rw [← hx] at HAI HRI HSI HLI
      simp only at HAI HRI HSI HLI
      have HSZi := Lib.hid (RL.size HAI.out.1)
      obtain ⟨ai, cpi, rfl, _⟩ := HAI.out.2.shape
      have hcell : w2.cell? ⟨gs, i, none⟩ = some (.slice ai li.length cpi) := by
        have h := HSI.out 0 (.slice ai li.length cpi) rfl
        simpa using h
      have HCI := Lib.hid hcell
      clear hti hx hcell
      have HKR : Hid (∀ V, Below w2.heap.size w2 V → V.rangeAt gr (i * 4) ci.toList ∧ V.cell? ⟨gs, i, none⟩ = some (.slice ai li.length cpi)) := fun V h => ⟨rangeAt_later HRI.out h, (h.cell (p := ⟨gs, i, none⟩) (World.block_lt_of_cell? _ _ HCI.out)).trans HCI.out⟩
      have HG := Lib.hid (fun V (h : Below w2.heap.size w2 V) => rp_Get V (RL.later HAI.out.1 h) ask (by have := HLI.out; omega))
      have HG2 := Lib.hid (fun V (h : Below w2.heap.size w2 V) => ref_Get7 _ li ask V (HAI.out.2.later h))
      obtain ⟨⟨y, q⟩, hyq⟩ : ∃ p, p = getF (fun j => li.getD j 0) li.length ask := ⟨_, rfl⟩
      rw [← hyq] at HG HG2
      simp only at HG HG2
      clear hb hyq
      go_upto_region 11 with (first
        | (refine ld_arr rfl _ rfl gr (i * 4) rfl ci HSZi.out (HKR.out _ HW.out).1 ?_)
        | (go_at_call 11; (with_reducible refine (HG.out _ HW.out).mono ?_); rintro e w5 ⟨rfl, hb⟩; replace HW := Lib.hid (HW.out.trans (hb.mono HW.out.size)); have hc5 := (HKR.out _ HW.out).2; clear hb)
        | (go_at_call 12; (with_reducible refine (HG2.out _ HW.out).mono ?_); rintro e w10 ⟨rfl, hw10⟩; obtain rfl := hw10.symm))
      have hb := drawn_below w5
      replace HW := Lib.hid (HW.out.trans (hb.mono HW.out.size))
      clear hb hc5
      refine wp_region_T (S := fun V => V.rangeAt gr (i * 4) ci.toList ∧ V.cell? ⟨gs, i, none⟩ = some (.slice ai li.length cpi)) [] (by kernel_rfl) (by exact HKR.out _ HW.out) (fun hHeld => ?_)
      refine wpAnyT_take (i := 0) (oi := ⟨some 52, _, _, _, _, _⟩) (v := ?vg2_0) rfl (by kernel_rfl) (by kernel_rfl) (by kernel_rfl) (by kernel_rfl) (fun _ _ _ h => h) (Or.inl ⟨by rfl, ?hg2_0⟩) (by assumption) ?rg2_0
      case hg2_0 => (intro w hSw; (try dsimp only at hSw); first | (go_simp; done) | (go_simp; with_reducible rfl))
      (try simp only [Act.put, List.setIfInBounds_toArray, List.set_cons_zero, List.set_cons_succ])
      refine wpAnyT_take (i := 1) (oi := ⟨some 53, _, _, _, _, _⟩) (v := ?vg2_1) rfl (by kernel_rfl) (by kernel_rfl) (by kernel_rfl) (by kernel_rfl) (fun _ _ _ h => h) (Or.inl ⟨by rfl, ?hg2_1⟩) (by assumption) ?rg2_1
      case hg2_1 => (intro w hSw; (try dsimp only at hSw); first | (go_simp; done) | (go_simp; with_reducible rfl))
      (try simp only [Act.put, List.setIfInBounds_toArray, List.set_cons_zero, List.set_cons_succ])
      refine wpAnyT_take (i := 2) (oi := ⟨some 54, _, _, _, _, _⟩) (v := ?vg2_2) rfl (by kernel_rfl) (by kernel_rfl) (by kernel_rfl) (by kernel_rfl) (fun _ _ _ h => h) (Or.inl ⟨by rfl, ?hg2_2⟩) (by assumption) ?rg2_2
      case hg2_2 => (intro w hSw; (try dsimp only at hSw); first | (go_simp; done) | (go_simp; with_reducible rfl))
      (try simp only [Act.put, List.setIfInBounds_toArray, List.set_cons_zero, List.set_cons_succ])
      refine wpAnyT_take (i := 3) (oi := ⟨some 55, _, _, _, _, _⟩) (v := ?vg2_3) rfl (by kernel_rfl) (by kernel_rfl) (by kernel_rfl) (by kernel_rfl) (fun _ _ _ h => h) (Or.inl ⟨by rfl, ?hg2_3⟩) (by assumption) ?rg2_3
      case hg2_3 => (intro w hSw; (try dsimp only at hSw); first | (go_simp; done) | (go_simp; with_reducible rfl))
      (try simp only [Act.put, List.setIfInBounds_toArray, List.set_cons_zero, List.set_cons_succ])
      refine wpAnyT_take (i := 4) (oi := ⟨some 56, _, _, _, _, _⟩) (v := ?vg2_4) rfl (by kernel_rfl) (by kernel_rfl) (by kernel_rfl) (by kernel_rfl) (fun _ _ _ h => h) (Or.inl ⟨by rfl, ?hg2_4⟩) (by assumption) ?rg2_4
      case hg2_4 => (intro w hSw; (try dsimp only at hSw); first | (go_simp; done) | (go_simp; with_reducible rfl))
      (try simp only [Act.put, List.setIfInBounds_toArray, List.set_cons_zero, List.set_cons_succ])
      refine wpAnyT_take (i := 5) (oi := ⟨some 57, _, _, _, _, _⟩) (v := ?vg2_5) rfl (by kernel_rfl) (by kernel_rfl) (by kernel_rfl) (by kernel_rfl) (fun _ _ _ h => h) (Or.inl ⟨by rfl, ?hg2_5⟩) (by assumption) ?rg2_5
      case hg2_5 => (intro w hSw; (try dsimp only at hSw); first | (go_simp; done) | (go_simp; with_reducible rfl))
      (try simp only [Act.put, List.setIfInBounds_toArray, List.set_cons_zero, List.set_cons_succ])
      refine wpAnyT_take (i := 6) (oi := ⟨some 58, _, _, _, _, _⟩) (v := ?vg2_6) rfl (by kernel_rfl) (by kernel_rfl) (by kernel_rfl) (by kernel_rfl) (fun _ _ _ h => h) (Or.inl ⟨by rfl, ?hg2_6⟩) (by assumption) ?rg2_6
      case hg2_6 => (intro w hSw; (try dsimp only at hSw); first | (go_simp; done) | (go_simp; with_reducible rfl))
      (try simp only [Act.put, List.setIfInBounds_toArray, List.set_cons_zero, List.set_cons_succ])
      refine wpAnyT_take (i := 7) (oi := ⟨some 59, _, _, _, _, _⟩) (v := ?vg2_7) rfl (by kernel_rfl) (by kernel_rfl) (by kernel_rfl) (by kernel_rfl) (fun _ _ _ h => h) (Or.inl ⟨by rfl, ?hg2_7⟩) (by assumption) ?rg2_7
      case hg2_7 => (intro w hSw; (try dsimp only at hSw); first | (go_simp; done) | (go_simp; with_reducible rfl))
      (try simp only [Act.put, List.setIfInBounds_toArray, List.set_cons_zero, List.set_cons_succ])
      refine wpAnyT_take (i := 8) (oi := ⟨some 60, _, _, _, _, _⟩) (v := ?vg2_8) rfl (by kernel_rfl) (by kernel_rfl) (by kernel_rfl) (by kernel_rfl) (fun _ _ _ h => h) (Or.inl ⟨by rfl, ?hg2_8⟩) (by assumption) ?rg2_8
      case hg2_8 => (intro w hSw; (try dsimp only at hSw); first | (go_simp; done) | (go_simp; with_reducible rfl))
      (try simp only [Act.put, List.setIfInBounds_toArray, List.set_cons_zero, List.set_cons_succ])
      refine wpAnyT_take (i := 9) (oi := ⟨some 61, _, _, _, _, _⟩) (v := ?vg2_9) rfl (by kernel_rfl) (by kernel_rfl) (by kernel_rfl) (by kernel_rfl) (fun _ _ _ h => h) (Or.inl ⟨by rfl, ?hg2_9⟩) (by assumption) ?rg2_9
      case hg2_9 => (intro w hSw; (try dsimp only at hSw); first | (go_simp; done) | (go_simp; with_reducible rfl))
      (try simp only [Act.put, List.setIfInBounds_toArray, List.set_cons_zero, List.set_cons_succ])
      refine wpAnyT_take (i := 10) (oi := ⟨some 62, _, _, _, _, _⟩) (v := ?vg2_10) rfl (by kernel_rfl) (by kernel_rfl) (by kernel_rfl) (by kernel_rfl) (fun _ _ _ h => h) (Or.inl ⟨by rfl, ?hg2_10⟩) (by assumption) ?rg2_10
      case hg2_10 => (intro w hSw; (try dsimp only at hSw); first | (go_simp; done) | (go_simp; with_reducible rfl))
      (try simp only [Act.put, List.setIfInBounds_toArray, List.set_cons_zero, List.set_cons_succ])
      refine wpAnyT_take (i := 11) (oi := ⟨some 63, _, _, _, _, _⟩) (v := ?vg2_11) rfl (by kernel_rfl) (by kernel_rfl) (by kernel_rfl) (by kernel_rfl) (fun _ _ _ h => h) (Or.inl ⟨by rfl, ?hg2_11⟩) (by assumption) ?rg2_11
      case hg2_11 => (intro w hSw; (try dsimp only at hSw); first | (go_simp; done) | (go_simp; with_reducible rfl))
      (try simp only [Act.put, List.setIfInBounds_toArray, List.set_cons_zero, List.set_cons_succ])
      refine wpAnyT_take (i := 12) (oi := ⟨some 64, _, _, _, _, _⟩) (v := _) rfl (by kernel_rfl) (by kernel_rfl) (by kernel_rfl) (by kernel_rfl) (fun _ _ _ h => h) (yieldsIf_arr (by rfl) 35 _ rfl gr (i * 4) rfl ci _ (fun w hw => hw.1) Try.underlying35 rfl (by rw [HSZi.out]; exact rope_size)) (by assumption) ?_
      (try simp only [Act.put, List.setIfInBounds_toArray, List.set_cons_zero, List.set_cons_succ])
      refine wpAnyT_take (i := 13) (oi := ⟨some 65, _, _, _, _, _⟩) (v := ?vg2_13) rfl (by kernel_rfl) (by kernel_rfl) (by kernel_rfl) (by kernel_rfl) (fun _ _ _ h => h) (Or.inl ⟨by rfl, ?hg2_13⟩) (by assumption) ?rg2_13
      case hg2_13 => (intro w hSw; (try dsimp only at hSw); first | (go_simp; done) | (go_simp; with_reducible rfl))
      (try simp only [Act.put, List.setIfInBounds_toArray, List.set_cons_zero, List.set_cons_succ])
      refine wpAnyT_take (i := 14) (oi := ⟨some 66, _, _, _, _, _⟩) (v := ?vg2_14) rfl (by kernel_rfl) (by kernel_rfl) (by kernel_rfl) (by kernel_rfl) (fun _ _ _ h => h) (Or.inl ⟨by rfl, ?hg2_14⟩) (by assumption) ?rg2_14
      case hg2_14 => (intro w hSw; (try dsimp only at hSw); first | (go_simp; done) | (go_simp; with_reducible rfl))
      (try simp only [Act.put, List.setIfInBounds_toArray, List.set_cons_zero, List.set_cons_succ])
      refine wpAnyT_take (i := 15) (oi := ⟨some 67, _, _, _, _, _⟩) (v := ?vg2_15) rfl (by kernel_rfl) (by kernel_rfl) (by kernel_rfl) (by kernel_rfl) (fun _ _ _ h => h) (Or.inl ⟨by rfl, ?hg2_15⟩) (by assumption) ?rg2_15
      case hg2_15 => (intro w hSw; (try dsimp only at hSw); first | (go_simp; done) | (go_simp; with_reducible rfl))
      (try simp only [Act.put, List.setIfInBounds_toArray, List.set_cons_zero, List.set_cons_succ])
      refine wpAnyT_take (i := 16) (oi := ⟨some 68, _, _, _, _, _⟩) (v := ?vg2_16) rfl (by kernel_rfl) (by kernel_rfl) (by kernel_rfl) (by kernel_rfl) (fun _ _ _ h => h) (Or.inl ⟨by rfl, ?hg2_16⟩) (by assumption) ?rg2_16
      case hg2_16 => (intro w hSw; (try dsimp only at hSw); first | (go_simp; done) | (go_simp; with_reducible rfl))
      (try simp only [Act.put, List.setIfInBounds_toArray, List.set_cons_zero, List.set_cons_succ])
      refine wpAnyT_one (i := 17) (o := ⟨some 69, _, _, _, _, _⟩) (by kernel_rfl) rfl (fun K hK => ?_)
      go_simp
      go_at_call 13
      refine (same8 ci _ li _ (RL.later HAI.out.1 HW.out) (HAI.out.2.later HW.out) (by have := HLI.out; omega)).mono ?_
      rintro e w6 ⟨rfl, hb⟩
      replace HW := Lib.hid (HW.out.trans (hb.mono HW.out.size))
      clear hb
      dsimp only
      refine hK.out _ _ (by exact HKR.out _ HW.out) (fun hHeld => ?_)
      clear hK K
      (try simp only [Act.put, List.setIfInBounds_toArray, List.set_cons_zero, List.set_cons_succ])
      refine wpAnyT_take (i := 18) (oi := ⟨some 70, _, _, _, _, _⟩) (v := ?vg2_18) rfl (by kernel_rfl) (by kernel_rfl) (by kernel_rfl) (by kernel_rfl) (fun _ _ _ h => h) (Or.inl ⟨by rfl, ?hg2_18⟩) (by assumption) ?rg2_18
      case hg2_18 => (intro w hSw; (try dsimp only at hSw); first | (go_simp; done) | (go_simp; with_reducible rfl))
      (try simp only [Act.put, List.setIfInBounds_toArray, List.set_cons_zero, List.set_cons_succ])
      refine wpAnyT_take (i := 19) (oi := ⟨some 71, _, _, _, _, _⟩) (v := ?vg2_19) rfl (by kernel_rfl) (by kernel_rfl) (by kernel_rfl) (by kernel_rfl) (fun _ _ _ h => h) (Or.inl ⟨by rfl, ?hg2_19⟩) (by assumption) ?rg2_19
      case hg2_19 => (intro w hSw; (try dsimp only at hSw); first | (go_simp; done) | (go_simp; with_reducible rfl))
      (try simp only [Act.put, List.setIfInBounds_toArray, List.set_cons_zero, List.set_cons_succ])
      refine wpAnyT_done (by kernel_rfl) ?_ _
      go_wp2_with fail
      go_roundw
      case rel => exact ⟨i + 1, by omega, by simp, HW.out⟩
      case measure => simp [intOf]; omega
    · have hlt' : ¬ (i : Int) < (ts.length : Int) := by omega
      go_wp2_with fail
      go_ret
      exact ⟨rfl, HB.out.trans (HW.out.mono HB.out.size)⟩
theorem ropeDoes_walk (v : Value) (l : List Op8) (ask : Int) (_ : (Lit.int .i64 ask).wf = true) (w : World) (h : Ops8 w v l ∧ ∀ o ∈ l, InR o.2.1 ∧ InR o.2.2.1) : Calls Try.prog 3 #[v, .int .i64 ask] w fun e w' => e = .returned (.bool true) ∧ Below w.heap.size w w' := ropeDoes_of v l ask w h.1 h.2
end Go.Proofs.Ytldemoflgahdgaa
