/- Layer 8's law RopeParts, over package rope as it landed. (written by tools/gen08/parts8.py) -/
import Derived.Test.YtldemoflgahdgaaLaw08All
namespace Go.Proofs.Ytldemoflgahdgaa
open Go.RowKit
set_option maxRecDepth 1000000
set_option linter.unusedSimpArgs false

set_option maxHeartbeats 8000000 in
theorem ropeParts_of (v : Value) (l : List Op8) (at_ to : Int) (w : World) (hl : Ops8 w v l) (hin : ∀ o ∈ l, InR o.2.1 ∧ InR o.2.2.1) : Calls Try.prog 6 #[v, .int .i64 at_, .int .i64 to] w fun e w' => e = .returned (.bool true) ∧ Below w.heap.size w w' := by
  have HB := Lib.hid (Below.refl w.heap.size w)
  have HFEW := Lib.hid (fun W (h : Below w.heap.size w W) => few8 v l W (hl.later h))
  have HALL := Lib.hid (fun W (h : Below w.heap.size w W) (hf : few8B l = true) => all8 v l W (hl.later h) hin hf)
  obtain ⟨ad, cap, bb, oo, rfl, _⟩ := hl
  by_cases hf : few8B l = true
  case neg =>
    rw [show few8B l = false by simpa using hf] at HFEW
    clear hf HALL hin
    go_enter Try.func6, Try.ntmps6
    go_wp2_with (first
      | (go_at_call 8; (with_reducible refine (live8 _).mono ?_); rintro e w1 ⟨rfl, hb⟩; replace HB := Lib.hid (HB.out.trans (hb.mono HB.out.size)); clear hb)
      | (go_at_call 9; (with_reducible refine (HFEW.out _ HB.out).mono ?_); rintro e w1 ⟨rfl, hb⟩; replace HB := Lib.hid (HB.out.trans (hb.mono HB.out.size)); clear hb))
    go_ret
    exact ⟨rfl, HB.out⟩
  have HF := Lib.hid hf
  rw [hf] at HFEW
  clear hf hin
  go_enter Try.func6, Try.ntmps6
  go_upto_region 6 with (first
    | (go_at_call 8; (with_reducible refine (live8 _).mono ?_); rintro e w1 ⟨rfl, hb⟩; replace HB := Lib.hid (HB.out.trans (hb.mono HB.out.size)); clear hb)
    | (go_at_call 9; (with_reducible refine (HFEW.out _ HB.out).mono ?_); rintro e w1 ⟨rfl, hb⟩; replace HB := Lib.hid (HB.out.trans (hb.mono HB.out.size)); clear hb)
    | (go_at_call 10; (with_reducible refine (HALL.out _ HB.out HF.out).mono ?_); rintro e w2 ⟨vs, ls, rfl, ts, hr, hs, ha, hsh, hb⟩; have HR4 := Lib.hid hr; have HS4 := Lib.hid hs; have HA4 := Lib.hid ha; have HSH := Lib.hid hsh; replace HB := Lib.hid (HB.out.trans (hb.mono HB.out.size)); clear hr hs ha hsh hb))
  have HNr : Hid (ts.map (·.1) ≠ []) := fun h => by have h1 := congrArg List.length h; have := HSH.out.1; rw [List.length_map, List.length_nil] at h1; omega
  have HNs : Hid (ts.map (fun t => #[t.2.1]) ≠ []) := fun h => by have h1 := congrArg List.length h; have := HSH.out.1; rw [List.length_map, List.length_nil] at h1; omega
  obtain ⟨gr, cpr, _, _, hvr, _, _, _⟩ := HR4.out.at_ HNr.out
  rw [List.length_map] at hvr
  subst hvr
  obtain ⟨gs, cps, _, _, hvs, _, _, _⟩ := HS4.out.at_ HNs.out
  rw [List.length_map] at hvs
  subst hvs
  have hts41 : (ts.length : Int) ≤ 41 := by have := HSH.out.2.1; omega
  obtain ⟨i, hi⟩ : ∃ i, i + 1 = ts.length := ⟨ts.length - 1, by have := HSH.out.1; omega⟩
  have hlt : i < ts.length := by omega
  have hk1 : (ts.length : Int) - 1 = (i : Int) := by omega
  have hlt' : (i : Int) < (ts.length : Int) := by omega
  have i0 : (0 : Int) ≤ (i : Int) := by omega
  have hti : ts[i]? = some ts[i] := List.getElem?_eq_getElem hlt
  have HAI := Lib.hid (HA4.out ts[i] (List.getElem_mem hlt))
  have HLI := Lib.hid (HSH.out.2.2 ts[i] (List.getElem_mem hlt))
  have HRI := Lib.hid (HR4.out.read (i := i) (c := ts[i].1) rfl (by rw [List.getElem?_map, hti]; rfl))
  have HSI := Lib.hid (HS4.out.read (i := i) (c := #[ts[i].2.1]) rfl (by rw [List.getElem?_map, hti]; rfl))
  obtain ⟨⟨ci, vi, li⟩, hx⟩ : ∃ x, x = ts[i] := ⟨_, rfl⟩
  rw [← hx] at HAI HRI HSI HLI
  simp only at HAI HRI HSI HLI
  have HSZi := Lib.hid (RL.size HAI.out.1)
  obtain ⟨ai, cpi, rfl, _⟩ := HAI.out.2.shape
  have hcell : w2.cell? ⟨gs, i, none⟩ = some (.slice ai li.length cpi) := by
    have h := HSI.out 0 (.slice ai li.length cpi) rfl
    simpa using h
  have HCI := Lib.hid hcell
  clear hti hx hcell
  have HONEi := Lib.hid (RL.one HAI.out.1)
  obtain ⟨N, hN⟩ : ∃ N, N = li.length := ⟨_, rfl⟩
  have HN := Lib.hid hN
  have hN3 : (N : Int) ≤ 3040 := by have := HLI.out; omega
  have HN3 := Lib.hid hN3
  obtain ⟨A, hA⟩ : ∃ A : Nat, min (max at_ 0) (N : Int) = (A : Int) := ⟨(min (max at_ 0) (N : Int)).toNat, by omega⟩
  have hAN : A ≤ N := by omega
  obtain ⟨B, hB⟩ : ∃ B : Nat, min (max to (A : Int)) (N : Int) = (B : Int) := ⟨(min (max to (A : Int)) (N : Int)).toNat, by omega⟩
  have HAB := Lib.hid (show A ≤ B ∧ B ≤ N by omega)
  obtain ⟨X, hX⟩ : ∃ X, X = w2.heap.size := ⟨_, rfl⟩
  have HXX := Lib.hid hX
  clear hi hlt hAN hN hX
  go_upto_region 10 with (first
    | (refine ld_arr rfl _ rfl gr (i * 4) rfl ci HSZi.out HRI.out ?_)
    | (refine st_agg rfl 35 _ _ rfl w2.heap.size ci rfl rfl 35 #[.int .i64 0, .int .i64 0, .slice none 0 0, .slice none 0 0] (heap_alloc_last w2 _) (by rw [HSZi.out]; exact rope_size) (by rw [HSZi.out]; rfl) HONEi.out ?_; intro w4 h4 k4; have hb24 := (Below.newly' w2 (.cells #[.int .i64 0, .int .i64 0, .slice none 0 0, .slice none 0 0] 35)).trans (k4.below (Nat.le_refl _)); have HX := Lib.hid h4; have HB4 := Lib.hid (HB.out.trans (hb24.mono HB.out.size)); have HV4 := Lib.hid (RL.later HAI.out.1 hb24); have HLN := Lib.hid (len_l w4 HV4.out HN.out.symm); clear h4 k4 hb24)
    | (refine ld_if rfl 35 _ rfl w2.heap.size rfl 35 _ _ _ HX.out Try.underlying35 rfl (by rw [HSZi.out]; exact rope_size) ?_)
    | (go_at_call 21; (with_reducible refine HLN.out.mono ?_); rintro e w5 ⟨rfl, hb⟩; replace HX := Lib.hid ((hb.block _ (Array.getElem?_eq_some_iff.1 HX.out).1).trans HX.out); have HB5 := Lib.hid (HB4.out.trans (hb.mono HB4.out.size)); have HV5 := Lib.hid (RL.later HV4.out hb); clear hb))
  rw [← HXX.out] at HX ⊢
  have hb := drawn_below w5
  replace HX := Lib.hid ((hb.block _ (Array.getElem?_eq_some_iff.1 HX.out).1).trans HX.out)
  replace HB5 := Lib.hid (HB5.out.trans (hb.mono HB5.out.size))
  replace HV5 := Lib.hid (RL.later HV5.out hb)
  clear hb HB HB4 HV4 HLN HA4 HR4 HS4 HAI HRI HSI HCI
  refine wp_region_T (S := fun V => V.heap[X]? = some (.cells ci 35 (0, 0))) [14, 15, 16] (by kernel_rfl) (by exact HX.out) (fun hHeld => ?_)
  refine wpAnyT_take (i := 0) (oi := ⟨some 52, _, _, _, _, _⟩) (v := _) rfl (by kernel_rfl) (by kernel_rfl) (by kernel_rfl) (by kernel_rfl) (fun _ _ _ h => h) (yieldsIf_load_row (by rfl) 35 _ rfl X rfl ci 35 (0, 0) _ (fun w hw => hw) Try.underlying35 rfl (by rw [HSZi.out]; exact rope_size)) (by assumption) ?_
  (try simp only [Act.put, List.setIfInBounds_toArray, List.set_cons_zero, List.set_cons_succ])
  refine wpAnyT_take (i := 1) (oi := ⟨some 53, _, _, _, _, _⟩) (v := ?vg2_1) rfl (by kernel_rfl) (by kernel_rfl) (by kernel_rfl) (by kernel_rfl) (fun _ _ _ h => h) (Or.inl ⟨by rfl, ?hg2_1⟩) (by assumption) ?rg2_1
  case hg2_1 => (intro w hSw; (try dsimp only at hSw); first | (go_simp; done) | (go_simp; with_reducible rfl))
  (try simp only [Act.put, List.setIfInBounds_toArray, List.set_cons_zero, List.set_cons_succ])
  refine wpAnyT_take (i := 3) (oi := ⟨some 55, _, _, _, _, _⟩) (v := _) rfl (by kernel_rfl) (by kernel_rfl) (by kernel_rfl) (by kernel_rfl) (fun _ _ _ h => h) (yieldsIf_load_row (by rfl) 35 _ rfl X rfl ci 35 (0, 0) _ (fun w hw => hw) Try.underlying35 rfl (by rw [HSZi.out]; exact rope_size)) (by assumption) ?_
  (try simp only [Act.put, List.setIfInBounds_toArray, List.set_cons_zero, List.set_cons_succ])
  refine wpAnyT_take (i := 4) (oi := ⟨some 56, _, _, _, _, _⟩) (v := ?vg2_4) rfl (by kernel_rfl) (by kernel_rfl) (by kernel_rfl) (by kernel_rfl) (fun _ _ _ h => h) (Or.inl ⟨by rfl, ?hg2_4⟩) (by assumption) ?rg2_4
  case hg2_4 => (intro w hSw; (try dsimp only at hSw); first | (go_simp; done) | (go_simp; with_reducible rfl))
  (try simp only [Act.put, List.setIfInBounds_toArray, List.set_cons_zero, List.set_cons_succ])
  refine wpAnyT_take (i := 5) (oi := ⟨some 57, _, _, _, _, _⟩) (v := ?vg2_5) rfl (by kernel_rfl) (by kernel_rfl) (by kernel_rfl) (by kernel_rfl) (fun _ _ _ h => h) (Or.inl ⟨by rfl, ?hg2_5⟩) (by assumption) ?rg2_5
  case hg2_5 => (intro w hSw; (try dsimp only at hSw); first | (go_simp; done) | (go_simp; with_reducible rfl))
  (try simp only [Act.put, List.setIfInBounds_toArray, List.set_cons_zero, List.set_cons_succ])
  refine wpAnyT_take (i := 7) (oi := ⟨some 59, _, _, _, _, _⟩) (v := _) rfl (by kernel_rfl) (by kernel_rfl) (by kernel_rfl) (by kernel_rfl) (fun _ _ _ h => h) (yieldsIf_load_row (by rfl) 35 _ rfl X rfl ci 35 (0, 0) _ (fun w hw => hw) Try.underlying35 rfl (by rw [HSZi.out]; exact rope_size)) (by assumption) ?_
  (try simp only [Act.put, List.setIfInBounds_toArray, List.set_cons_zero, List.set_cons_succ])
  refine wpAnyT_take (i := 8) (oi := ⟨some 60, _, _, _, _, _⟩) (v := ?vg2_8) rfl (by kernel_rfl) (by kernel_rfl) (by kernel_rfl) (by kernel_rfl) (fun _ _ _ h => h) (Or.inl ⟨by rfl, ?hg2_8⟩) (by assumption) ?rg2_8
  case hg2_8 => (intro w hSw; (try dsimp only at hSw); first | (go_simp; done) | (go_simp; with_reducible rfl))
  (try simp only [Act.put, List.setIfInBounds_toArray, List.set_cons_zero, List.set_cons_succ])
  refine wpAnyT_take (i := 9) (oi := ⟨some 61, _, _, _, _, _⟩) (v := ?vg2_9) rfl (by kernel_rfl) (by kernel_rfl) (by kernel_rfl) (by kernel_rfl) (fun _ _ _ h => h) (Or.inl ⟨by rfl, ?hg2_9⟩) (by assumption) ?rg2_9
  case hg2_9 => (intro w hSw; (try dsimp only at hSw); first | (go_simp; done) | (go_simp; with_reducible rfl))
  (try simp only [Act.put, List.setIfInBounds_toArray, List.set_cons_zero, List.set_cons_succ])
  refine wpAnyT_groupA (n := 3) [2, 6, 10, 11, 12, 13] (fun a0 m b V => ∃ val : Nat → Value, b = (((((((((((a0.put (some 14) (val 11))).put (some 15) (val 12))).put (some 16) (val 13))).put (some 54) (val 2))).put (some 58) (val 6))).put (some 62) (val 10)) ∧ Gr GotR 35 #[.int .i64 0, .int .i64 0, .slice none 0 0, .slice none 0 0] [11, 12, 13] [(2, pieceL li 0 A), (6, pieceL li A B), (10, pieceL li B N)] w5.drew V m val) rfl (by kernel_rfl) ⟨fun _ => undef, rfl, Gr.start _⟩ (by assumption) ?step10 ?done10
  case step10 =>
    as_aux_lemma =>
    clear hHeld
    rintro m i b V hi - hw ⟨val, rfl, hG⟩ hS
    (try simp only [Act.put, List.setIfInBounds_toArray, List.set_cons_zero, List.set_cons_succ])
    have HG := Lib.hid hG
    have HS := Lib.hid hS
    have HWT := Lib.hid hw
    clear hG hS hw
    rcases (by simp only [List.mem_cons, List.not_mem_nil, or_false] at hi; omega : i = 11 ∨ i = 12 ∨ i = 13 ∨ i = 2 ∨ i = 6 ∨ i = 10) with rfl | rfl | rfl | rfl | rfl | rfl
    · refine group_one (o := ⟨some 14, _, _, _, _, _⟩) rfl (fun K hK => ?_)
      go_simp
      refine hK.out _ _ (by exact (hx_later HS.out (Below.newly' V _))) ⟨_, rfl, Gr.alloc (fun A B v x h hb => h.later hb) HG.out (fun g hg e => by simp only [List.mem_cons, List.not_mem_nil, or_false] at hg; rcases hg with rfl | rfl | rfl <;> (simp at e))⟩
    · refine group_one (o := ⟨some 15, _, _, _, _, _⟩) rfl (fun K hK => ?_)
      go_simp
      refine hK.out _ _ (by exact (hx_later HS.out (Below.newly' V _))) ⟨_, rfl, Gr.alloc (fun A B v x h hb => h.later hb) HG.out (fun g hg e => by simp only [List.mem_cons, List.not_mem_nil, or_false] at hg; rcases hg with rfl | rfl | rfl <;> (simp at e))⟩
    · refine group_one (o := ⟨some 16, _, _, _, _, _⟩) rfl (fun K hK => ?_)
      go_simp
      refine hK.out _ _ (by exact (hx_later HS.out (Below.newly' V _))) ⟨_, rfl, Gr.alloc (fun A B v x h hb => h.later hb) HG.out (fun g hg e => by simp only [List.mem_cons, List.not_mem_nil, or_false] at hg; rcases hg with rfl | rfl | rfl <;> (simp at e))⟩
    · refine group_one (o := ⟨some 54, _, _, _, _, _⟩) rfl (fun K hK => ?_)
      go_simp
      go_at_call 22
      refine (sl_0n V (RL.later HV5.out HG.out.bel) A (by have := HAB.out; have := HN.out; omega) (by have := HN.out; have := HN3.out; omega)).mono ?_
      rintro e V2 ⟨c, rfl, hr, hb⟩
      dsimp only
      refine hK.out _ _ (by exact hx_later HS.out hb) ⟨_, rfl, Gr.call (fun A B v x h hb => h.later hb) HG.out hb (by decide) (fun g hg e => ?_)⟩
      simp only [List.mem_cons, List.not_mem_nil, or_false] at hg
      rcases hg with rfl | rfl | rfl <;> first | (exfalso; simp at e; done) | exact ⟨_, rfl, hr⟩
    · refine group_one (o := ⟨some 58, _, _, _, _, _⟩) rfl (fun K hK => ?_)
      go_simp
      go_at_call 22
      refine (sl_nn V (RL.later HV5.out HG.out.bel) A B HAB.out.1 (by have := HAB.out; have := HN.out; omega) (by have := HN.out; have := HN3.out; omega)).mono ?_
      rintro e V2 ⟨c, rfl, hr, hb⟩
      dsimp only
      refine hK.out _ _ (by exact hx_later HS.out hb) ⟨_, rfl, Gr.call (fun A B v x h hb => h.later hb) HG.out hb (by decide) (fun g hg e => ?_)⟩
      simp only [List.mem_cons, List.not_mem_nil, or_false] at hg
      rcases hg with rfl | rfl | rfl <;> first | (exfalso; simp at e; done) | exact ⟨_, rfl, hr⟩
    · refine group_one (o := ⟨some 62, _, _, _, _, _⟩) rfl (fun K hK => ?_)
      go_simp
      go_at_call 22
      refine (sl_nn V (RL.later HV5.out HG.out.bel) B N HAB.out.2 (by have := HN.out; omega) (by have := HN.out; have := HN3.out; omega)).mono ?_
      rintro e V2 ⟨c, rfl, hr, hb⟩
      dsimp only
      refine hK.out _ _ (by exact hx_later HS.out hb) ⟨_, rfl, Gr.call (fun A B v x h hb => h.later hb) HG.out hb (by decide) (fun g hg e => ?_)⟩
      simp only [List.mem_cons, List.not_mem_nil, or_false] at hg
      rcases hg with rfl | rfl | rfl <;> first | (exfalso; simp at e; done) | exact ⟨_, rfl, hr⟩
  case done10 =>
    as_aux_lemma =>
    clear hHeld
    rintro m b V hm ⟨val, rfl, hG⟩ -
    obtain ⟨x1, e1, g1, z1⟩ := hG.made 11 (by decide) (hm 11 rfl)
    obtain ⟨x2, e2, g2, z2⟩ := hG.made 12 (by decide) (hm 12 rfl)
    obtain ⟨x3, e3, g3, z3⟩ := hG.made 13 (by decide) (hm 13 rfl)
    obtain ⟨c1, f1, r1⟩ := hG.got (2, pieceL li 0 A) (by simp) (hm 2 rfl)
    obtain ⟨c2, f2, r2⟩ := hG.got (6, pieceL li A B) (by simp) (hm 6 rfl)
    obtain ⟨c3, f3, r3⟩ := hG.got (10, pieceL li B N) (by simp) (hm 10 rfl)
    have n12 : x1 ≠ x2 := fun e => hG.apart 11 (by decide) 12 (by decide) (hm 11 rfl) (hm 12 rfl) (by decide) (by rw [e1, e2, e])
    have n13 : x1 ≠ x3 := fun e => hG.apart 11 (by decide) 13 (by decide) (hm 11 rfl) (hm 13 rfl) (by decide) (by rw [e1, e3, e])
    have n23 : x2 ≠ x3 := fun e => hG.apart 12 (by decide) 13 (by decide) (hm 12 rfl) (hm 13 rfl) (by decide) (by rw [e2, e3, e])
    have hbel := hG.bel
    rw [e1, e2, e3, f1, f2, f3]
    dsimp only at r1 r2 r3
    have HNE := Lib.hid (And.intro n12 (And.intro n13 n23))
    have HGE := Lib.hid (And.intro g1 (And.intro g2 g3))
    have HZ1 := Lib.hid z1
    have HZ2 := Lib.hid z2
    have HZ3 := Lib.hid z3
    have HR1 := Lib.hid r1
    have HR2 := Lib.hid r2
    have HR3 := Lib.hid r3
    have HBL := Lib.hid hbel
    clear hG hm e1 e2 e3 f1 f2 f3 n12 n13 n23 g1 g2 g3 z1 z2 z3 r1 r2 r3 hbel
    (try simp only [Act.put, List.setIfInBounds_toArray, List.set_cons_zero, List.set_cons_succ])
    refine wpAnyT_last (i := 14) (o := ⟨none, _, _, _, _, _⟩) (by kernel_rfl) (by decide) rfl (fun K hK => ?_)
    refine st_agg_wp 35 _ _ rfl x1 c1 rfl rfl 35 #[.int .i64 0, .int .i64 0, .slice none 0 0, .slice none 0 0] (HZ1.out) (by rw [RL.size HR1.out]; exact rope_size) (by rw [RL.size HR1.out]; rfl) (RL.one HR1.out) ?_
    intro wa hwa kwa
    refine hK.out _ _ ?_
    clear hK K
    (try simp only [Act.put, List.setIfInBounds_toArray, List.set_cons_zero, List.set_cons_succ])
    refine wpAnyT_last (i := 15) (o := ⟨none, _, _, _, _, _⟩) (by kernel_rfl) (by decide) rfl (fun K hK => ?_)
    refine st_agg_wp 35 _ _ rfl x2 c2 rfl rfl 35 #[.int .i64 0, .int .i64 0, .slice none 0 0, .slice none 0 0] (kwa.other HZ2.out (fun e => HNE.out.1 e.symm)) (by rw [RL.size HR2.out]; exact rope_size) (by rw [RL.size HR2.out]; rfl) (RL.one HR2.out) ?_
    intro wb hwb kwb
    refine hK.out _ _ ?_
    clear hK K
    (try simp only [Act.put, List.setIfInBounds_toArray, List.set_cons_zero, List.set_cons_succ])
    refine wpAnyT_last (i := 16) (o := ⟨none, _, _, _, _, _⟩) (by kernel_rfl) (by decide) rfl (fun K hK => ?_)
    refine st_agg_wp 35 _ _ rfl x3 c3 rfl rfl 35 #[.int .i64 0, .int .i64 0, .slice none 0 0, .slice none 0 0] (kwb.other (kwa.other HZ3.out (fun e => HNE.out.2.1 e.symm)) (fun e => HNE.out.2.2 e.symm)) (by rw [RL.size HR3.out]; exact rope_size) (by rw [RL.size HR3.out]; rfl) (RL.one HR3.out) ?_
    intro wc hwc kwc
    refine hK.out _ _ ?_
    clear hK K
    (try simp only [Act.put, List.setIfInBounds_toArray, List.set_cons_zero, List.set_cons_succ])
    refine wpAnyT_done (by kernel_rfl) ?_ _
    have hza := HZ1.out
    have hzb := kwa.other HZ2.out (fun e => HNE.out.1 e.symm)
    have hzc := kwb.other (kwa.other HZ3.out (fun e => HNE.out.2.1 e.symm)) (fun e => HNE.out.2.2 e.symm)
    have rl : ∀ (c : Array Value) (l : List Int), RL V c l → RL wc c l := fun c l h => RL.but (RL.but (RL.but h kwa hza (by decide) (by decide)) kwb hzb (by decide) (by decide)) kwc hzc (by decide) (by decide)
    have HY1 : Hid (wc.heap[x1]? = some (.cells c1 35 (0, 0))) := kwc.other (kwb.other hwa HNE.out.1) HNE.out.2.1
    have HY2 : Hid (wc.heap[x2]? = some (.cells c2 35 (0, 0))) := kwc.other hwb HNE.out.2.2
    have HY3 : Hid (wc.heap[x3]? = some (.cells c3 35 (0, 0))) := hwc
    have hxl := (Array.getElem?_eq_some_iff.1 HX.out).1
    have h1 := HGE.out
    have HXC : Hid (wc.heap[X]? = some (.cells ci 35 (0, 0))) := kwc.other (kwb.other (kwa.other ((HBL.out.block _ hxl).trans HX.out) (by omega)) (by omega)) (by omega)
    replace HR1 := Lib.hid (rl _ _ HR1.out)
    replace HR2 := Lib.hid (rl _ _ HR2.out)
    replace HR3 := Lib.hid (rl _ _ HR3.out)
    have HRX := Lib.hid (rl _ _ (RL.later HV5.out HBL.out))
    have hs5 := HB5.out.size
    have HBC : Hid (Below w.heap.size w wc) := (((HB5.out.trans (HBL.out.mono hs5)).trans (kwa.below (by omega))).trans (kwb.below (by omega))).trans (kwc.below (by omega))
    have HS1 := Lib.hid (RL.size HR1.out)
    have HS2 := Lib.hid (RL.size HR2.out)
    have HS3 := Lib.hid (RL.size HR3.out)
    have HN1 : Hid ((pieceL li 0 A).length = A) := by show _ = _; rw [piece_len (by have := HAB.out; have := HN.out; omega)]; omega
    obtain ⟨D1, hD1⟩ : ∃ D : Nat, B - A = D := ⟨_, rfl⟩
    obtain ⟨D2, hD2⟩ : ∃ D : Nat, N - B = D := ⟨_, rfl⟩
    have HN2 : Hid ((pieceL li A B).length = D1) := by show _ = _; rw [piece_len (by have := HAB.out; have := HN.out; omega), hD1]
    have HN4 : Hid ((pieceL li B N).length = D2) := by show _ = _; rw [piece_len (by have := HN.out; omega), hD2]
    have HCAT : Hid ((pieceL li 0 A ++ pieceL li A B) ++ pieceL li B N = li) := by show _ = _; rw [HN.out]; exact parts_join HAB.out.1
    have hs1 : IntKind.i64.wrap ((B : Int) - (A : Int)) = (D1 : Int) := by rw [IntKind.wrap_i64]; have := HAB.out; omega
    have hs2 : IntKind.i64.wrap ((N : Int) - (B : Int)) = (D2 : Int) := by rw [IntKind.wrap_i64]; have := HAB.out; omega
    have HDD := Lib.hid (show A + D1 + D2 = N by have := HAB.out; omega)
    obtain ⟨l1, hl1⟩ : ∃ l1, l1 = pieceL li 0 A := ⟨_, rfl⟩
    obtain ⟨l2, hl2⟩ : ∃ l2, l2 = pieceL li A B := ⟨_, rfl⟩
    obtain ⟨l3, hl3⟩ : ∃ l3, l3 = pieceL li B N := ⟨_, rfl⟩
    rw [← hl1] at HR1 HN1 HCAT
    rw [← hl2] at HR2 HN2 HCAT
    rw [← hl3] at HR3 HN4 HCAT
    clear rl hza hzb hzc hwa hwb hwc kwa kwb kwc hxl h1 hs5 HX HB5 HV5 HBL HZ1 HZ2 HZ3 hl1 hl2 hl3 hD1 hD2
    go_upto_region 11 with fail
    have hb := drawn_below wc
    replace HY1 := Lib.hid ((hb.block _ (Array.getElem?_eq_some_iff.1 HY1.out).1).trans HY1.out)
    replace HY2 := Lib.hid ((hb.block _ (Array.getElem?_eq_some_iff.1 HY2.out).1).trans HY2.out)
    replace HY3 := Lib.hid ((hb.block _ (Array.getElem?_eq_some_iff.1 HY3.out).1).trans HY3.out)
    replace HXC := Lib.hid ((hb.block _ (Array.getElem?_eq_some_iff.1 HXC.out).1).trans HXC.out)
    replace HR1 := Lib.hid (RL.later HR1.out hb)
    replace HR2 := Lib.hid (RL.later HR2.out hb)
    replace HR3 := Lib.hid (RL.later HR3.out hb)
    replace HRX := Lib.hid (RL.later HRX.out hb)
    replace HBC := Lib.hid (HBC.out.trans (hb.mono HBC.out.size))
    clear hb
    refine wp_region_T (S := fun V => V.heap[x1]? = some (.cells c1 35 (0, 0)) ∧ V.heap[x2]? = some (.cells c2 35 (0, 0)) ∧ V.heap[x3]? = some (.cells c3 35 (0, 0))) [12, 13] (by kernel_rfl) (by exact ⟨HY1.out, HY2.out, HY3.out⟩) (fun hHeld => ?_)
    refine wpAnyT_take (i := 0) (oi := ⟨some 63, _, _, _, _, _⟩) (v := _) rfl (by kernel_rfl) (by kernel_rfl) (by kernel_rfl) (by kernel_rfl) (fun _ _ _ h => h) (yieldsIf_load_row (by rfl) 35 _ rfl x1 rfl c1 35 (0, 0) _ (fun w hw => hw.1) Try.underlying35 rfl (by rw [HS1.out]; exact rope_size)) (by assumption) ?_
    (try simp only [Act.put, List.setIfInBounds_toArray, List.set_cons_zero, List.set_cons_succ])
    refine wpAnyT_take (i := 1) (oi := ⟨some 64, _, _, _, _, _⟩) (v := _) rfl (by kernel_rfl) (by kernel_rfl) (by kernel_rfl) (by kernel_rfl) (fun _ _ _ h => h) (yieldsIf_load_row (by rfl) 35 _ rfl x2 rfl c2 35 (0, 0) _ (fun w hw => hw.2.1) Try.underlying35 rfl (by rw [HS2.out]; exact rope_size)) (by assumption) ?_
    (try simp only [Act.put, List.setIfInBounds_toArray, List.set_cons_zero, List.set_cons_succ])
    refine wpAnyT_take (i := 3) (oi := ⟨some 66, _, _, _, _, _⟩) (v := _) rfl (by kernel_rfl) (by kernel_rfl) (by kernel_rfl) (by kernel_rfl) (fun _ _ _ h => h) (yieldsIf_load_row (by rfl) 35 _ rfl x3 rfl c3 35 (0, 0) _ (fun w hw => hw.2.2) Try.underlying35 rfl (by rw [HS3.out]; exact rope_size)) (by assumption) ?_
    (try simp only [Act.put, List.setIfInBounds_toArray, List.set_cons_zero, List.set_cons_succ])
    refine wpAnyT_take (i := 5) (oi := ⟨some 68, _, _, _, _, _⟩) (v := _) rfl (by kernel_rfl) (by kernel_rfl) (by kernel_rfl) (by kernel_rfl) (fun _ _ _ h => h) (yieldsIf_load_row (by rfl) 35 _ rfl x1 rfl c1 35 (0, 0) _ (fun w hw => hw.1) Try.underlying35 rfl (by rw [HS1.out]; exact rope_size)) (by assumption) ?_
    (try simp only [Act.put, List.setIfInBounds_toArray, List.set_cons_zero, List.set_cons_succ])
    refine wpAnyT_take (i := 6) (oi := ⟨some 69, _, _, _, _, _⟩) (v := _) rfl (by kernel_rfl) (by kernel_rfl) (by kernel_rfl) (by kernel_rfl) (fun _ _ _ h => h) (yieldsIf_load_row (by rfl) 35 _ rfl x2 rfl c2 35 (0, 0) _ (fun w hw => hw.2.1) Try.underlying35 rfl (by rw [HS2.out]; exact rope_size)) (by assumption) ?_
    (try simp only [Act.put, List.setIfInBounds_toArray, List.set_cons_zero, List.set_cons_succ])
    refine wpAnyT_take (i := 7) (oi := ⟨some 70, _, _, _, _, _⟩) (v := _) rfl (by kernel_rfl) (by kernel_rfl) (by kernel_rfl) (by kernel_rfl) (fun _ _ _ h => h) (yieldsIf_load_row (by rfl) 35 _ rfl x3 rfl c3 35 (0, 0) _ (fun w hw => hw.2.2) Try.underlying35 rfl (by rw [HS3.out]; exact rope_size)) (by assumption) ?_
    (try simp only [Act.put, List.setIfInBounds_toArray, List.set_cons_zero, List.set_cons_succ])
    refine wpAnyT_groupA (n := 2) [2, 4, 8, 9, 10, 11] (fun a0 m b V => ∃ val : Nat → Value, b = (((((((((((a0.put (some 17) (val 10))).put (some 18) (val 11))).put (some 65) (val 2))).put (some 67) (val 4))).put (some 71) (val 8))).put (some 72) (val 9)) ∧ Gr GotR 35 #[.int .i64 0, .int .i64 0, .slice none 0 0, .slice none 0 0] [10, 11] [(2, l1 ++ l2), (4, li), (8, l2 ++ l3), (9, li)] wc.drew V m val) rfl (by kernel_rfl) ⟨fun _ => undef, rfl, Gr.start _⟩ (by assumption) ?step11 ?done11
    case step11 =>
      as_aux_lemma =>
      clear hHeld
      rintro m i b V hi - hw ⟨val, rfl, hG⟩ hS
      (try simp only [Act.put, List.setIfInBounds_toArray, List.set_cons_zero, List.set_cons_succ])
      have HG := Lib.hid hG
      have HS := Lib.hid hS
      have HWT := Lib.hid hw
      clear hG hS hw
      rcases (by simp only [List.mem_cons, List.not_mem_nil, or_false] at hi; omega : i = 10 ∨ i = 11 ∨ i = 2 ∨ i = 4 ∨ i = 8 ∨ i = 9) with rfl | rfl | rfl | rfl | rfl | rfl
      · refine group_one (o := ⟨some 17, _, _, _, _, _⟩) rfl (fun K hK => ?_)
        go_simp
        refine hK.out _ _ (by exact (h3_later HS.out (Below.newly' V _))) ⟨_, rfl, Gr.alloc (fun A B v x h hb => h.later hb) HG.out (fun g hg e => by simp only [List.mem_cons, List.not_mem_nil, or_false] at hg; rcases hg with rfl | rfl | rfl | rfl <;> (simp at e))⟩
      · refine group_one (o := ⟨some 18, _, _, _, _, _⟩) rfl (fun K hK => ?_)
        go_simp
        refine hK.out _ _ (by exact (h3_later HS.out (Below.newly' V _))) ⟨_, rfl, Gr.alloc (fun A B v x h hb => h.later hb) HG.out (fun g hg e => by simp only [List.mem_cons, List.not_mem_nil, or_false] at hg; rcases hg with rfl | rfl | rfl | rfl <;> (simp at e))⟩
      · refine group_one (o := ⟨some 65, _, _, _, _, _⟩) rfl (fun K hK => ?_)
        go_simp
        go_at_call 23
        refine (cc_l V (RL.later HR1.out HG.out.bel) (RL.later HR2.out HG.out.bel) (by have h1 := HN1.out; have h2 := HN2.out; have h3 := HN4.out; have h4 := HDD.out; have h5 := HN3.out; (try simp only [List.length_append]); omega) rfl).mono ?_
        rintro e V2 ⟨c, rfl, hr, hb⟩
        dsimp only
        refine hK.out _ _ (by exact h3_later HS.out hb) ⟨_, rfl, Gr.call (fun A B v x h hb => h.later hb) HG.out hb (by decide) (fun g hg e => ?_)⟩
        simp only [List.mem_cons, List.not_mem_nil, or_false] at hg
        rcases hg with rfl | rfl | rfl | rfl <;> first | (exfalso; simp at e; done) | exact ⟨_, rfl, hr⟩
      · refine group_one (o := ⟨some 67, _, _, _, _, _⟩) rfl (fun K hK => ?_)
        obtain ⟨ca, fa, ra⟩ := HG.out.got (2, l1 ++ l2) (by simp) (HWT.out 2 rfl (by kernel_rfl))
        dsimp only at fa ra
        have HRA := Lib.hid ra
        clear ra
        rw [fa]
        go_simp
        go_at_call 23
        refine (cc_l (lc := li) V HRA.out (RL.later HR3.out HG.out.bel) (by have h1 := HN1.out; have h2 := HN2.out; have h3 := HN4.out; have h4 := HDD.out; have h5 := HN3.out; (try simp only [List.length_append]); omega) HCAT.out).mono ?_
        rintro e V2 ⟨c, rfl, hr, hb⟩
        dsimp only
        refine hK.out _ _ (by exact h3_later HS.out hb) ⟨_, (by rw [← fa]; rfl), Gr.call (fun A B v x h hb => h.later hb) HG.out hb (by decide) (fun g hg e => ?_)⟩
        simp only [List.mem_cons, List.not_mem_nil, or_false] at hg
        rcases hg with rfl | rfl | rfl | rfl <;> first | (exfalso; simp at e; done) | exact ⟨_, rfl, hr⟩
      · refine group_one (o := ⟨some 71, _, _, _, _, _⟩) rfl (fun K hK => ?_)
        go_simp
        go_at_call 23
        refine (cc_l V (RL.later HR2.out HG.out.bel) (RL.later HR3.out HG.out.bel) (by have h1 := HN1.out; have h2 := HN2.out; have h3 := HN4.out; have h4 := HDD.out; have h5 := HN3.out; (try simp only [List.length_append]); omega) rfl).mono ?_
        rintro e V2 ⟨c, rfl, hr, hb⟩
        dsimp only
        refine hK.out _ _ (by exact h3_later HS.out hb) ⟨_, rfl, Gr.call (fun A B v x h hb => h.later hb) HG.out hb (by decide) (fun g hg e => ?_)⟩
        simp only [List.mem_cons, List.not_mem_nil, or_false] at hg
        rcases hg with rfl | rfl | rfl | rfl <;> first | (exfalso; simp at e; done) | exact ⟨_, rfl, hr⟩
      · refine group_one (o := ⟨some 72, _, _, _, _, _⟩) rfl (fun K hK => ?_)
        obtain ⟨ca, fa, ra⟩ := HG.out.got (8, l2 ++ l3) (by simp) (HWT.out 8 rfl (by kernel_rfl))
        dsimp only at fa ra
        have HRA := Lib.hid ra
        clear ra
        rw [fa]
        go_simp
        go_at_call 23
        refine (cc_l (lc := li) V (RL.later HR1.out HG.out.bel) HRA.out (by have h1 := HN1.out; have h2 := HN2.out; have h3 := HN4.out; have h4 := HDD.out; have h5 := HN3.out; (try simp only [List.length_append]); omega) (by rw [← List.append_assoc]; exact HCAT.out)).mono ?_
        rintro e V2 ⟨c, rfl, hr, hb⟩
        dsimp only
        refine hK.out _ _ (by exact h3_later HS.out hb) ⟨_, (by rw [← fa]; rfl), Gr.call (fun A B v x h hb => h.later hb) HG.out hb (by decide) (fun g hg e => ?_)⟩
        simp only [List.mem_cons, List.not_mem_nil, or_false] at hg
        rcases hg with rfl | rfl | rfl | rfl <;> first | (exfalso; simp at e; done) | exact ⟨_, rfl, hr⟩
    case done11 =>
      as_aux_lemma =>
      clear hHeld
      rintro m b V hm ⟨val, rfl, hG⟩ -
      obtain ⟨y1, e1, g1, z1⟩ := hG.made 10 (by decide) (hm 10 rfl)
      obtain ⟨y2, e2, g2, z2⟩ := hG.made 11 (by decide) (hm 11 rfl)
      obtain ⟨d1, f1, r1⟩ := hG.got (4, li) (by simp) (hm 4 rfl)
      obtain ⟨d2, f2, r2⟩ := hG.got (9, li) (by simp) (hm 9 rfl)
      have n12 : y1 ≠ y2 := fun e => hG.apart 10 (by decide) 11 (by decide) (hm 10 rfl) (hm 11 rfl) (by decide) (by rw [e1, e2, e])
      have hbel := hG.bel
      dsimp only at f1 f2 r1 r2
      rw [e1, e2, f1, f2]
      have HNE2 := Lib.hid n12
      have HGE2 := Lib.hid (And.intro g1 g2)
      have HZ1 := Lib.hid z1
      have HZ2 := Lib.hid z2
      have HQ1 := Lib.hid r1
      have HQ2 := Lib.hid r2
      have HBL := Lib.hid hbel
      clear hG hm e1 e2 f1 f2 n12 g1 g2 z1 z2 r1 r2 hbel
      (try simp only [Act.put, List.setIfInBounds_toArray, List.set_cons_zero, List.set_cons_succ])
      refine wpAnyT_last (i := 12) (o := ⟨none, _, _, _, _, _⟩) (by kernel_rfl) (by decide) rfl (fun K hK => ?_)
      refine st_agg_wp 35 _ _ rfl y1 d1 rfl rfl 35 #[.int .i64 0, .int .i64 0, .slice none 0 0, .slice none 0 0] (HZ1.out) (by rw [RL.size HQ1.out]; exact rope_size) (by rw [RL.size HQ1.out]; rfl) (RL.one HQ1.out) ?_
      intro wd hwd kwd
      refine hK.out _ _ ?_
      clear hK K
      (try simp only [Act.put, List.setIfInBounds_toArray, List.set_cons_zero, List.set_cons_succ])
      refine wpAnyT_last (i := 13) (o := ⟨none, _, _, _, _, _⟩) (by kernel_rfl) (by decide) rfl (fun K hK => ?_)
      refine st_agg_wp 35 _ _ rfl y2 d2 rfl rfl 35 #[.int .i64 0, .int .i64 0, .slice none 0 0, .slice none 0 0] (kwd.other HZ2.out (fun e => HNE2.out e.symm)) (by rw [RL.size HQ2.out]; exact rope_size) (by rw [RL.size HQ2.out]; rfl) (RL.one HQ2.out) ?_
      intro we hwe kwe
      refine hK.out _ _ ?_
      clear hK K
      (try simp only [Act.put, List.setIfInBounds_toArray, List.set_cons_zero, List.set_cons_succ])
      refine wpAnyT_done (by kernel_rfl) ?_ _
      have hza := HZ1.out
      have hzb := kwd.other HZ2.out (fun e => HNE2.out e.symm)
      have rl : ∀ (c : Array Value) (l : List Int), RL V c l → RL we c l := fun c l h => RL.but (RL.but h kwd hza (by decide) (by decide)) kwe hzb (by decide) (by decide)
      have hge := HGE2.out
      have bk : ∀ (k : Nat) (o : Obj), wc.drew.heap[k]? = some o → we.heap[k]? = some o := fun k o h => by
        have hlt := (Array.getElem?_eq_some_iff.1 h).1
        exact kwe.other (kwd.other ((HBL.out.block _ hlt).trans h) (by omega)) (by omega)
      have HE1 : Hid (we.heap[y1]? = some (.cells d1 35 (0, 0))) := kwe.other hwd HNE2.out
      have HE2 : Hid (we.heap[y2]? = some (.cells d2 35 (0, 0))) := hwe
      replace HY1 := Lib.hid (bk _ _ HY1.out)
      replace HY2 := Lib.hid (bk _ _ HY2.out)
      replace HY3 := Lib.hid (bk _ _ HY3.out)
      replace HXC := Lib.hid (bk _ _ HXC.out)
      replace HR1 := Lib.hid (rl _ _ (RL.later HR1.out HBL.out))
      replace HR2 := Lib.hid (rl _ _ (RL.later HR2.out HBL.out))
      replace HR3 := Lib.hid (rl _ _ (RL.later HR3.out HBL.out))
      replace HRX := Lib.hid (rl _ _ (RL.later HRX.out HBL.out))
      replace HQ1 := Lib.hid (rl _ _ HQ1.out)
      replace HQ2 := Lib.hid (rl _ _ HQ2.out)
      have hs5 := HBC.out.size
      replace HBC : Hid (Below w.heap.size w we) := ((HBC.out.trans (HBL.out.mono hs5)).trans (kwd.below (by omega))).trans (kwe.below (by omega))
      have HSQ1 := Lib.hid (RL.size HQ1.out)
      have HSQ2 := Lib.hid (RL.size HQ2.out)
      clear rl bk hza hzb hwd hwe kwd kwe hge hs5 HBL HZ1 HZ2 HCAT
      go_upto_region 12 with fail
      have hb := drawn_below we
      replace HY1 := Lib.hid ((hb.block _ (Array.getElem?_eq_some_iff.1 HY1.out).1).trans HY1.out)
      replace HY2 := Lib.hid ((hb.block _ (Array.getElem?_eq_some_iff.1 HY2.out).1).trans HY2.out)
      replace HY3 := Lib.hid ((hb.block _ (Array.getElem?_eq_some_iff.1 HY3.out).1).trans HY3.out)
      replace HXC := Lib.hid ((hb.block _ (Array.getElem?_eq_some_iff.1 HXC.out).1).trans HXC.out)
      replace HE1 := Lib.hid ((hb.block _ (Array.getElem?_eq_some_iff.1 HE1.out).1).trans HE1.out)
      replace HE2 := Lib.hid ((hb.block _ (Array.getElem?_eq_some_iff.1 HE2.out).1).trans HE2.out)
      replace HR1 := Lib.hid (RL.later HR1.out hb)
      replace HR2 := Lib.hid (RL.later HR2.out hb)
      replace HR3 := Lib.hid (RL.later HR3.out hb)
      replace HRX := Lib.hid (RL.later HRX.out hb)
      replace HQ1 := Lib.hid (RL.later HQ1.out hb)
      replace HQ2 := Lib.hid (RL.later HQ2.out hb)
      replace HBC := Lib.hid (HBC.out.trans (hb.mono HBC.out.size))
      clear hb
      obtain ⟨w0, hw0⟩ : ∃ w0, w0 = we.drew := ⟨_, rfl⟩
      rw [← hw0] at HY1 HY2 HY3 HXC HE1 HE2 HR1 HR2 HR3 HRX HQ1 HQ2 HBC
      have HW := Lib.hid (Below.refl w0.heap.size w0)
      have HKR : Hid (∀ V, Below w0.heap.size w0 V → V.heap[x1]? = some (.cells c1 35 (0, 0)) ∧ V.heap[x2]? = some (.cells c2 35 (0, 0)) ∧ V.heap[x3]? = some (.cells c3 35 (0, 0)) ∧ V.heap[X]? = some (.cells ci 35 (0, 0)) ∧ V.heap[y1]? = some (.cells d1 35 (0, 0)) ∧ V.heap[y2]? = some (.cells d2 35 (0, 0))) := fun V h =>
        have k : ∀ (k : Nat) (o : Obj), w0.heap[k]? = some o → V.heap[k]? = some o := fun k o e => (h.block _ (Array.getElem?_eq_some_iff.1 e).1).trans e
        ⟨k _ _ HY1.out, k _ _ HY2.out, k _ _ HY3.out, k _ _ HXC.out, k _ _ HE1.out, k _ _ HE2.out⟩
      have HLI2 := Lib.hid HN.out.symm
      clear HY1 HY2 HY3 HXC HE1 HE2
      as_aux_lemma =>
      refine wp_region_T (S := fun V => V.heap[x1]? = some (.cells c1 35 (0, 0)) ∧ V.heap[x2]? = some (.cells c2 35 (0, 0)) ∧ V.heap[x3]? = some (.cells c3 35 (0, 0)) ∧ V.heap[X]? = some (.cells ci 35 (0, 0)) ∧ V.heap[y1]? = some (.cells d1 35 (0, 0)) ∧ V.heap[y2]? = some (.cells d2 35 (0, 0))) [] (by kernel_rfl) (by rw [← hw0]; exact HKR.out _ (Below.refl _ _)) (fun hHeld => ?_)
      rw [← hw0] at hHeld ⊢
      clear hw0
      refine wpAnyT_take (i := 0) (oi := ⟨some 73, _, _, _, _, _⟩) (v := _) rfl (by kernel_rfl) (by kernel_rfl) (by kernel_rfl) (by kernel_rfl) (fun _ _ _ h => h) (yieldsIf_load_row (by rfl) 35 _ rfl x1 rfl c1 35 (0, 0) _ (fun w hw => hw.1) Try.underlying35 rfl (by rw [HS1.out]; exact rope_size)) (by assumption) ?_
      (try simp only [Act.put, List.setIfInBounds_toArray, List.set_cons_zero, List.set_cons_succ])
      refine wpAnyT_take (i := 2) (oi := ⟨some 75, _, _, _, _, _⟩) (v := ?vg4_2) rfl (by kernel_rfl) (by kernel_rfl) (by kernel_rfl) (by kernel_rfl) (fun _ _ _ h => h) (Or.inl ⟨by rfl, ?hg4_2⟩) (by assumption) ?rg4_2
      case hg4_2 => (intro w hSw; (try dsimp only at hSw); first | (go_simp; done) | (go_simp; with_reducible rfl))
      (try simp only [Act.put, List.setIfInBounds_toArray, List.set_cons_zero, List.set_cons_succ])
      refine wpAnyT_one (i := 1) (o := ⟨some 74, _, _, _, _, _⟩) (by kernel_rfl) rfl (fun K hK => ?_)
      go_simp
      go_at_call 21
      refine (len_l _ (RL.later HR1.out HW.out) HN1.out).mono ?_
      rintro e w6 ⟨rfl, hb⟩
      replace HW := Lib.hid (HW.out.trans (hb.mono HW.out.size))
      clear hb
      dsimp only
      refine hK.out _ _ (by exact HKR.out _ HW.out) (fun hHeld => ?_)
      clear hK K
      (try simp only [Act.put, List.setIfInBounds_toArray, List.set_cons_zero, List.set_cons_succ])
      refine wpAnyT_take (i := 3) (oi := ⟨some 76, _, _, _, _, _⟩) (v := ?vg4_3) rfl (by kernel_rfl) (by kernel_rfl) (by kernel_rfl) (by kernel_rfl) (fun _ _ _ h => h) (Or.inl ⟨by rfl, ?hg4_3⟩) (by assumption) ?rg4_3
      case hg4_3 => (intro w hSw; (try dsimp only at hSw); first | (go_simp; done) | (go_simp; with_reducible rfl))
      (try simp only [Act.put, List.setIfInBounds_toArray, List.set_cons_zero, List.set_cons_succ])
      refine wpAnyT_take (i := 4) (oi := ⟨some 77, _, _, _, _, _⟩) (v := ?vg4_4) rfl (by kernel_rfl) (by kernel_rfl) (by kernel_rfl) (by kernel_rfl) (fun _ _ _ h => h) (Or.inl ⟨by rfl, ?hg4_4⟩) (by assumption) ?rg4_4
      case hg4_4 => (intro w hSw; (try dsimp only at hSw); first | (go_simp; done) | (go_simp; with_reducible rfl))
      (try simp only [Act.put, List.setIfInBounds_toArray, List.set_cons_zero, List.set_cons_succ])
      refine wpAnyT_take (i := 5) (oi := ⟨some 78, _, _, _, _, _⟩) (v := _) rfl (by kernel_rfl) (by kernel_rfl) (by kernel_rfl) (by kernel_rfl) (fun _ _ _ h => h) (yieldsIf_load_row (by rfl) 35 _ rfl x2 rfl c2 35 (0, 0) _ (fun w hw => hw.2.1) Try.underlying35 rfl (by rw [HS2.out]; exact rope_size)) (by assumption) ?_
      (try simp only [Act.put, List.setIfInBounds_toArray, List.set_cons_zero, List.set_cons_succ])
      refine wpAnyT_take (i := 7) (oi := ⟨some 80, _, _, _, _, _⟩) (v := ?vg4_7) rfl (by kernel_rfl) (by kernel_rfl) (by kernel_rfl) (by kernel_rfl) (fun _ _ _ h => h) (Or.inl ⟨by rfl, ?hg4_7⟩) (by assumption) ?rg4_7
      case hg4_7 => (intro w hSw; (try dsimp only at hSw); first | (go_simp; done) | (go_simp; with_reducible rfl))
      (try simp only [Act.put, List.setIfInBounds_toArray, List.set_cons_zero, List.set_cons_succ])
      refine wpAnyT_take (i := 8) (oi := ⟨some 81, _, _, _, _, _⟩) (v := ?vg4_8) rfl (by kernel_rfl) (by kernel_rfl) (by kernel_rfl) (by kernel_rfl) (fun _ _ _ h => h) (Or.inl ⟨by rfl, ?hg4_8⟩) (by assumption) ?rg4_8
      case hg4_8 => (intro w hSw; (try dsimp only at hSw); first | (go_simp; done) | (go_simp; with_reducible rfl))
      (try simp only [Act.put, List.setIfInBounds_toArray, List.set_cons_zero, List.set_cons_succ])
      refine wpAnyT_take (i := 9) (oi := ⟨some 82, _, _, _, _, _⟩) (v := ?vg4_9) rfl (by kernel_rfl) (by kernel_rfl) (by kernel_rfl) (by kernel_rfl) (fun _ _ _ h => h) (Or.inl ⟨by rfl, ?hg4_9⟩) (by assumption) ?rg4_9
      case hg4_9 => (intro w hSw; (try dsimp only at hSw); first | (go_simp; done) | (go_simp; with_reducible rfl))
      (try simp only [Act.put, List.setIfInBounds_toArray, List.set_cons_zero, List.set_cons_succ])
      refine wpAnyT_one (i := 6) (o := ⟨some 79, _, _, _, _, _⟩) (by kernel_rfl) rfl (fun K hK => ?_)
      go_simp
      go_at_call 21
      refine (len_l _ (RL.later HR2.out HW.out) HN2.out).mono ?_
      rintro e w6 ⟨rfl, hb⟩
      replace HW := Lib.hid (HW.out.trans (hb.mono HW.out.size))
      clear hb
      dsimp only
      refine hK.out _ _ (by exact HKR.out _ HW.out) (fun hHeld => ?_)
      clear hK K
      (try simp only [Act.put, List.setIfInBounds_toArray, List.set_cons_zero, List.set_cons_succ])
      refine wpAnyT_take (i := 10) (oi := ⟨some 83, _, _, _, _, _⟩) (v := ?vg4_10) rfl (by kernel_rfl) (by kernel_rfl) (by kernel_rfl) (by kernel_rfl) (fun _ _ _ h => h) (Or.inl ⟨by rfl, ?hg4_10⟩) (by assumption) ?rg4_10
      case hg4_10 => (intro w hSw; (try dsimp only at hSw); first | (go_simp; done) | (go_simp; with_reducible rfl))
      (try simp only [Act.put, List.setIfInBounds_toArray, List.set_cons_zero, List.set_cons_succ])
      refine wpAnyT_take (i := 11) (oi := ⟨some 84, _, _, _, _, _⟩) (v := ?vg4_11) rfl (by kernel_rfl) (by kernel_rfl) (by kernel_rfl) (by kernel_rfl) (fun _ _ _ h => h) (Or.inl ⟨by rfl, ?hg4_11⟩) (by assumption) ?rg4_11
      case hg4_11 => (intro w hSw; (try dsimp only at hSw); first | (go_simp; done) | (go_simp; with_reducible rfl))
      (try simp only [Act.put, List.setIfInBounds_toArray, List.set_cons_zero, List.set_cons_succ])
      refine wpAnyT_take (i := 12) (oi := ⟨some 85, _, _, _, _, _⟩) (v := ?vg4_12) rfl (by kernel_rfl) (by kernel_rfl) (by kernel_rfl) (by kernel_rfl) (fun _ _ _ h => h) (Or.inl ⟨by rfl, ?hg4_12⟩) (by assumption) ?rg4_12
      case hg4_12 => (intro w hSw; (try dsimp only at hSw); first | (go_simp; done) | (go_simp; with_reducible rfl))
      (try simp only [Act.put, List.setIfInBounds_toArray, List.set_cons_zero, List.set_cons_succ])
      refine wpAnyT_take (i := 13) (oi := ⟨some 86, _, _, _, _, _⟩) (v := _) rfl (by kernel_rfl) (by kernel_rfl) (by kernel_rfl) (by kernel_rfl) (fun _ _ _ h => h) (yieldsIf_load_row (by rfl) 35 _ rfl x3 rfl c3 35 (0, 0) _ (fun w hw => hw.2.2.1) Try.underlying35 rfl (by rw [HS3.out]; exact rope_size)) (by assumption) ?_
      (try simp only [Act.put, List.setIfInBounds_toArray, List.set_cons_zero, List.set_cons_succ])
      refine wpAnyT_take (i := 15) (oi := ⟨some 88, _, _, _, _, _⟩) (v := ?vg4_15) rfl (by kernel_rfl) (by kernel_rfl) (by kernel_rfl) (by kernel_rfl) (fun _ _ _ h => h) (Or.inl ⟨by rfl, ?hg4_15⟩) (by assumption) ?rg4_15
      case hg4_15 => (intro w hSw; (try dsimp only at hSw); first | (go_simp; done) | (go_simp; with_reducible rfl))
      (try simp only [Act.put, List.setIfInBounds_toArray, List.set_cons_zero, List.set_cons_succ])
      refine wpAnyT_take (i := 16) (oi := ⟨some 89, _, _, _, _, _⟩) (v := ?vg4_16) rfl (by kernel_rfl) (by kernel_rfl) (by kernel_rfl) (by kernel_rfl) (fun _ _ _ h => h) (Or.inl ⟨by rfl, ?hg4_16⟩) (by assumption) ?rg4_16
      case hg4_16 => (intro w hSw; (try dsimp only at hSw); first | (go_simp; done) | (go_simp; with_reducible rfl))
      (try simp only [Act.put, List.setIfInBounds_toArray, List.set_cons_zero, List.set_cons_succ])
      refine wpAnyT_take (i := 17) (oi := ⟨some 90, _, _, _, _, _⟩) (v := ?vg4_17) rfl (by kernel_rfl) (by kernel_rfl) (by kernel_rfl) (by kernel_rfl) (fun _ _ _ h => h) (Or.inl ⟨by rfl, ?hg4_17⟩) (by assumption) ?rg4_17
      case hg4_17 => (intro w hSw; (try dsimp only at hSw); first | (go_simp; done) | (go_simp; with_reducible rfl))
      (try simp only [Act.put, List.setIfInBounds_toArray, List.set_cons_zero, List.set_cons_succ])
      refine wpAnyT_one (i := 14) (o := ⟨some 87, _, _, _, _, _⟩) (by kernel_rfl) rfl (fun K hK => ?_)
      go_simp
      go_at_call 21
      refine (len_l _ (RL.later HR3.out HW.out) HN4.out).mono ?_
      rintro e w6 ⟨rfl, hb⟩
      replace HW := Lib.hid (HW.out.trans (hb.mono HW.out.size))
      clear hb
      dsimp only
      refine hK.out _ _ (by exact HKR.out _ HW.out) (fun hHeld => ?_)
      clear hK K
      (try simp only [Act.put, List.setIfInBounds_toArray, List.set_cons_zero, List.set_cons_succ])
      refine wpAnyT_take (i := 18) (oi := ⟨some 91, _, _, _, _, _⟩) (v := ?vg4_18) rfl (by kernel_rfl) (by kernel_rfl) (by kernel_rfl) (by kernel_rfl) (fun _ _ _ h => h) (Or.inl ⟨by rfl, ?hg4_18⟩) (by assumption) ?rg4_18
      case hg4_18 => (intro w hSw; (try dsimp only at hSw); first | (go_simp; done) | (go_simp; with_reducible rfl))
      (try simp only [Act.put, List.setIfInBounds_toArray, List.set_cons_zero, List.set_cons_succ])
      refine wpAnyT_take (i := 19) (oi := ⟨some 92, _, _, _, _, _⟩) (v := ?vg4_19) rfl (by kernel_rfl) (by kernel_rfl) (by kernel_rfl) (by kernel_rfl) (fun _ _ _ h => h) (Or.inl ⟨by rfl, ?hg4_19⟩) (by assumption) ?rg4_19
      case hg4_19 => (intro w hSw; (try dsimp only at hSw); first | (go_simp; done) | (go_simp; with_reducible rfl))
      (try simp only [Act.put, List.setIfInBounds_toArray, List.set_cons_zero, List.set_cons_succ])
      refine wpAnyT_take (i := 20) (oi := ⟨some 93, _, _, _, _, _⟩) (v := ?vg4_20) rfl (by kernel_rfl) (by kernel_rfl) (by kernel_rfl) (by kernel_rfl) (fun _ _ _ h => h) (Or.inl ⟨by rfl, ?hg4_20⟩) (by assumption) ?rg4_20
      case hg4_20 => (intro w hSw; (try dsimp only at hSw); first | (go_simp; done) | (go_simp; with_reducible rfl))
      (try simp only [Act.put, List.setIfInBounds_toArray, List.set_cons_zero, List.set_cons_succ])
      refine wpAnyT_take (i := 21) (oi := ⟨some 94, _, _, _, _, _⟩) (v := _) rfl (by kernel_rfl) (by kernel_rfl) (by kernel_rfl) (by kernel_rfl) (fun _ _ _ h => h) (yieldsIf_load_row (by rfl) 35 _ rfl y1 rfl d1 35 (0, 0) _ (fun w hw => hw.2.2.2.2.1) Try.underlying35 rfl (by rw [HSQ1.out]; exact rope_size)) (by assumption) ?_
      (try simp only [Act.put, List.setIfInBounds_toArray, List.set_cons_zero, List.set_cons_succ])
      refine wpAnyT_take (i := 23) (oi := ⟨some 96, _, _, _, _, _⟩) (v := _) rfl (by kernel_rfl) (by kernel_rfl) (by kernel_rfl) (by kernel_rfl) (fun _ _ _ h => h) (yieldsIf_load_row (by rfl) 35 _ rfl X rfl ci 35 (0, 0) _ (fun w hw => hw.2.2.2.1) Try.underlying35 rfl (by rw [HSZi.out]; exact rope_size)) (by assumption) ?_
      (try simp only [Act.put, List.setIfInBounds_toArray, List.set_cons_zero, List.set_cons_succ])
      refine wpAnyT_one (i := 22) (o := ⟨some 95, _, _, _, _, _⟩) (by kernel_rfl) rfl (fun K hK => ?_)
      go_simp
      go_at_call 19
      refine (rp_List _ _ _ (RL.later HQ1.out HW.out) (by have := HLI2.out; have := HN3.out; omega)).mono ?_
      rintro e w6 ⟨va, rfl, hi6, hb⟩
      replace HW := Lib.hid (HW.out.trans (hb.mono HW.out.size))
      have Hva := Lib.hid hi6.any
      skip
      clear hb hi6
      dsimp only
      refine hK.out _ _ (by exact HKR.out _ HW.out) (fun hHeld => ?_)
      clear hK K
      (try simp only [Act.put, List.setIfInBounds_toArray, List.set_cons_zero, List.set_cons_succ])
      refine wpAnyT_one (i := 24) (o := ⟨some 97, _, _, _, _, _⟩) (by kernel_rfl) rfl (fun K hK => ?_)
      go_simp
      go_at_call 19
      refine (rp_List _ _ _ (RL.later HRX.out HW.out) (by have := HLI2.out; have := HN3.out; omega)).mono ?_
      rintro e w6 ⟨vb, rfl, hi6, hb⟩
      replace HW := Lib.hid (HW.out.trans (hb.mono HW.out.size))
      have Hvb := Lib.hid hi6.any
      replace Hva := Lib.hid (Hva.out.later hb)
      clear hb hi6
      dsimp only
      refine hK.out _ _ (by exact HKR.out _ HW.out) (fun hHeld => ?_)
      clear hK K
      (try simp only [Act.put, List.setIfInBounds_toArray, List.set_cons_zero, List.set_cons_succ])
      refine wpAnyT_one (i := 25) (o := ⟨some 98, _, _, _, _, _⟩) (by kernel_rfl) rfl (fun K hK => ?_)
      go_simp
      go_at_call 20
      refine (ref_Same _ _ li _ Hva.out Hvb.out (by have := HLI2.out; have := HN3.out; omega)).mono ?_
      rintro e w6 ⟨rfl, hb⟩
      replace HW := Lib.hid (HW.out.trans (hb.mono HW.out.size))
      clear hb Hva Hvb
      dsimp only
      refine hK.out _ _ (by exact HKR.out _ HW.out) (fun hHeld => ?_)
      clear hK K
      (try simp only [Act.put, List.setIfInBounds_toArray, List.set_cons_zero, List.set_cons_succ])
      refine wpAnyT_take (i := 26) (oi := ⟨some 99, _, _, _, _, _⟩) (v := ?vg4_26) rfl (by kernel_rfl) (by kernel_rfl) (by kernel_rfl) (by kernel_rfl) (fun _ _ _ h => h) (Or.inl ⟨by rfl, ?hg4_26⟩) (by assumption) ?rg4_26
      case hg4_26 => (intro w hSw; (try dsimp only at hSw); first | (go_simp; done) | (go_simp; with_reducible rfl))
      (try simp only [Act.put, List.setIfInBounds_toArray, List.set_cons_zero, List.set_cons_succ])
      refine wpAnyT_take (i := 27) (oi := ⟨some 100, _, _, _, _, _⟩) (v := ?vg4_27) rfl (by kernel_rfl) (by kernel_rfl) (by kernel_rfl) (by kernel_rfl) (fun _ _ _ h => h) (Or.inl ⟨by rfl, ?hg4_27⟩) (by assumption) ?rg4_27
      case hg4_27 => (intro w hSw; (try dsimp only at hSw); first | (go_simp; done) | (go_simp; with_reducible rfl))
      (try simp only [Act.put, List.setIfInBounds_toArray, List.set_cons_zero, List.set_cons_succ])
      refine wpAnyT_take (i := 28) (oi := ⟨some 101, _, _, _, _, _⟩) (v := _) rfl (by kernel_rfl) (by kernel_rfl) (by kernel_rfl) (by kernel_rfl) (fun _ _ _ h => h) (yieldsIf_load_row (by rfl) 35 _ rfl y2 rfl d2 35 (0, 0) _ (fun w hw => hw.2.2.2.2.2) Try.underlying35 rfl (by rw [HSQ2.out]; exact rope_size)) (by assumption) ?_
      (try simp only [Act.put, List.setIfInBounds_toArray, List.set_cons_zero, List.set_cons_succ])
      refine wpAnyT_take (i := 30) (oi := ⟨some 103, _, _, _, _, _⟩) (v := _) rfl (by kernel_rfl) (by kernel_rfl) (by kernel_rfl) (by kernel_rfl) (fun _ _ _ h => h) (yieldsIf_load_row (by rfl) 35 _ rfl X rfl ci 35 (0, 0) _ (fun w hw => hw.2.2.2.1) Try.underlying35 rfl (by rw [HSZi.out]; exact rope_size)) (by assumption) ?_
      (try simp only [Act.put, List.setIfInBounds_toArray, List.set_cons_zero, List.set_cons_succ])
      refine wpAnyT_one (i := 29) (o := ⟨some 102, _, _, _, _, _⟩) (by kernel_rfl) rfl (fun K hK => ?_)
      go_simp
      go_at_call 19
      refine (rp_List _ _ _ (RL.later HQ2.out HW.out) (by have := HLI2.out; have := HN3.out; omega)).mono ?_
      rintro e w6 ⟨vc, rfl, hi6, hb⟩
      replace HW := Lib.hid (HW.out.trans (hb.mono HW.out.size))
      have Hvc := Lib.hid hi6.any
      skip
      clear hb hi6
      dsimp only
      refine hK.out _ _ (by exact HKR.out _ HW.out) (fun hHeld => ?_)
      clear hK K
      (try simp only [Act.put, List.setIfInBounds_toArray, List.set_cons_zero, List.set_cons_succ])
      refine wpAnyT_one (i := 31) (o := ⟨some 104, _, _, _, _, _⟩) (by kernel_rfl) rfl (fun K hK => ?_)
      go_simp
      go_at_call 19
      refine (rp_List _ _ _ (RL.later HRX.out HW.out) (by have := HLI2.out; have := HN3.out; omega)).mono ?_
      rintro e w6 ⟨vd, rfl, hi6, hb⟩
      replace HW := Lib.hid (HW.out.trans (hb.mono HW.out.size))
      have Hvd := Lib.hid hi6.any
      replace Hvc := Lib.hid (Hvc.out.later hb)
      clear hb hi6
      dsimp only
      refine hK.out _ _ (by exact HKR.out _ HW.out) (fun hHeld => ?_)
      clear hK K
      (try simp only [Act.put, List.setIfInBounds_toArray, List.set_cons_zero, List.set_cons_succ])
      refine wpAnyT_one (i := 32) (o := ⟨some 105, _, _, _, _, _⟩) (by kernel_rfl) rfl (fun K hK => ?_)
      go_simp
      go_at_call 20
      refine (ref_Same _ _ li _ Hvc.out Hvd.out (by have := HLI2.out; have := HN3.out; omega)).mono ?_
      rintro e w6 ⟨rfl, hb⟩
      replace HW := Lib.hid (HW.out.trans (hb.mono HW.out.size))
      clear hb Hvc Hvd
      dsimp only
      refine hK.out _ _ (by exact HKR.out _ HW.out) (fun hHeld => ?_)
      clear hK K
      (try simp only [Act.put, List.setIfInBounds_toArray, List.set_cons_zero, List.set_cons_succ])
      refine wpAnyT_take (i := 33) (oi := ⟨some 106, _, _, _, _, _⟩) (v := ?vg4_33) rfl (by kernel_rfl) (by kernel_rfl) (by kernel_rfl) (by kernel_rfl) (fun _ _ _ h => h) (Or.inl ⟨by rfl, ?hg4_33⟩) (by assumption) ?rg4_33
      case hg4_33 => (intro w hSw; (try dsimp only at hSw); first | (go_simp; done) | (go_simp; with_reducible rfl))
      (try simp only [Act.put, List.setIfInBounds_toArray, List.set_cons_zero, List.set_cons_succ])
      refine wpAnyT_take (i := 34) (oi := ⟨some 107, _, _, _, _, _⟩) (v := ?vg4_34) rfl (by kernel_rfl) (by kernel_rfl) (by kernel_rfl) (by kernel_rfl) (fun _ _ _ h => h) (Or.inl ⟨by rfl, ?hg4_34⟩) (by assumption) ?rg4_34
      case hg4_34 => (intro w hSw; (try dsimp only at hSw); first | (go_simp; done) | (go_simp; with_reducible rfl))
      (try simp only [Act.put, List.setIfInBounds_toArray, List.set_cons_zero, List.set_cons_succ])
      refine wpAnyT_take (i := 35) (oi := ⟨some 108, _, _, _, _, _⟩) (v := ?vg4_35) rfl (by kernel_rfl) (by kernel_rfl) (by kernel_rfl) (by kernel_rfl) (fun _ _ _ h => h) (Or.inl ⟨by rfl, ?hg4_35⟩) (by assumption) ?rg4_35
      case hg4_35 => (intro w hSw; (try dsimp only at hSw); first | (go_simp; done) | (go_simp; with_reducible rfl))
      (try simp only [Act.put, List.setIfInBounds_toArray, List.set_cons_zero, List.set_cons_succ])
      refine wpAnyT_take (i := 36) (oi := ⟨some 109, _, _, _, _, _⟩) (v := _) rfl (by kernel_rfl) (by kernel_rfl) (by kernel_rfl) (by kernel_rfl) (fun _ _ _ h => h) (yieldsIf_load_row (by rfl) 35 _ rfl y1 rfl d1 35 (0, 0) _ (fun w hw => hw.2.2.2.2.1) Try.underlying35 rfl (by rw [HSQ1.out]; exact rope_size)) (by assumption) ?_
      (try simp only [Act.put, List.setIfInBounds_toArray, List.set_cons_zero, List.set_cons_succ])
      refine wpAnyT_one (i := 37) (o := ⟨some 110, _, _, _, _, _⟩) (by kernel_rfl) rfl (fun K hK => ?_)
      go_simp
      go_at_call 15
      refine (rp_Depth _ (RL.later HQ1.out HW.out)).mono ?_
      rintro e w6 ⟨_, rfl, da, rfl, hd, hb⟩
      replace HW := Lib.hid (HW.out.trans (hb.mono HW.out.size))
      have Hda := Lib.hid hd
      clear hb hd
      dsimp only
      refine hK.out _ _ (by exact HKR.out _ HW.out) (fun hHeld => ?_)
      clear hK K
      (try simp only [Act.put, List.setIfInBounds_toArray, List.set_cons_zero, List.set_cons_succ])
      refine wpAnyT_one (i := 38) (o := ⟨some 111, _, _, _, _, _⟩) (by kernel_rfl) rfl (fun K hK => ?_)
      go_simp
      go_at_call 14
      refine (ref_Flat N da _ (by rw [HN.out]; exact Hda.out) (by have := HN3.out; omega)).mono ?_
      rintro e w6 ⟨rfl, rfl⟩
      dsimp only
      refine hK.out _ _ (by exact HKR.out _ HW.out) (fun hHeld => ?_)
      clear hK K
      (try simp only [Act.put, List.setIfInBounds_toArray, List.set_cons_zero, List.set_cons_succ])
      refine wpAnyT_take (i := 39) (oi := ⟨some 112, _, _, _, _, _⟩) (v := ?vg4_39) rfl (by kernel_rfl) (by kernel_rfl) (by kernel_rfl) (by kernel_rfl) (fun _ _ _ h => h) (Or.inl ⟨by rfl, ?hg4_39⟩) (by assumption) ?rg4_39
      case hg4_39 => (intro w hSw; (try dsimp only at hSw); first | (go_simp; done) | (go_simp; with_reducible rfl))
      (try simp only [Act.put, List.setIfInBounds_toArray, List.set_cons_zero, List.set_cons_succ])
      refine wpAnyT_take (i := 40) (oi := ⟨some 113, _, _, _, _, _⟩) (v := ?vg4_40) rfl (by kernel_rfl) (by kernel_rfl) (by kernel_rfl) (by kernel_rfl) (fun _ _ _ h => h) (Or.inl ⟨by rfl, ?hg4_40⟩) (by assumption) ?rg4_40
      case hg4_40 => (intro w hSw; (try dsimp only at hSw); first | (go_simp; done) | (go_simp; with_reducible rfl))
      (try simp only [Act.put, List.setIfInBounds_toArray, List.set_cons_zero, List.set_cons_succ])
      refine wpAnyT_take (i := 41) (oi := ⟨some 114, _, _, _, _, _⟩) (v := ?vg4_41) rfl (by kernel_rfl) (by kernel_rfl) (by kernel_rfl) (by kernel_rfl) (fun _ _ _ h => h) (Or.inl ⟨by rfl, ?hg4_41⟩) (by assumption) ?rg4_41
      case hg4_41 => (intro w hSw; (try dsimp only at hSw); first | (go_simp; done) | (go_simp; with_reducible rfl))
      (try simp only [Act.put, List.setIfInBounds_toArray, List.set_cons_zero, List.set_cons_succ])
      refine wpAnyT_take (i := 42) (oi := ⟨some 115, _, _, _, _, _⟩) (v := _) rfl (by kernel_rfl) (by kernel_rfl) (by kernel_rfl) (by kernel_rfl) (fun _ _ _ h => h) (yieldsIf_load_row (by rfl) 35 _ rfl y2 rfl d2 35 (0, 0) _ (fun w hw => hw.2.2.2.2.2) Try.underlying35 rfl (by rw [HSQ2.out]; exact rope_size)) (by assumption) ?_
      (try simp only [Act.put, List.setIfInBounds_toArray, List.set_cons_zero, List.set_cons_succ])
      refine wpAnyT_one (i := 43) (o := ⟨some 116, _, _, _, _, _⟩) (by kernel_rfl) rfl (fun K hK => ?_)
      go_simp
      go_at_call 15
      refine (rp_Depth _ (RL.later HQ2.out HW.out)).mono ?_
      rintro e w6 ⟨_, rfl, db, rfl, hd, hb⟩
      replace HW := Lib.hid (HW.out.trans (hb.mono HW.out.size))
      have Hdb := Lib.hid hd
      clear hb hd
      dsimp only
      refine hK.out _ _ (by exact HKR.out _ HW.out) (fun hHeld => ?_)
      clear hK K
      (try simp only [Act.put, List.setIfInBounds_toArray, List.set_cons_zero, List.set_cons_succ])
      refine wpAnyT_one (i := 44) (o := ⟨some 117, _, _, _, _, _⟩) (by kernel_rfl) rfl (fun K hK => ?_)
      go_simp
      go_at_call 14
      refine (ref_Flat N db _ (by rw [HN.out]; exact Hdb.out) (by have := HN3.out; omega)).mono ?_
      rintro e w6 ⟨rfl, rfl⟩
      dsimp only
      refine hK.out _ _ (by exact HKR.out _ HW.out) (fun hHeld => ?_)
      clear hK K
      (try simp only [Act.put, List.setIfInBounds_toArray, List.set_cons_zero, List.set_cons_succ])
      refine wpAnyT_take (i := 45) (oi := ⟨some 118, _, _, _, _, _⟩) (v := ?vg4_45) rfl (by kernel_rfl) (by kernel_rfl) (by kernel_rfl) (by kernel_rfl) (fun _ _ _ h => h) (Or.inl ⟨by rfl, ?hg4_45⟩) (by assumption) ?rg4_45
      case hg4_45 => (intro w hSw; (try dsimp only at hSw); first | (go_simp; done) | (go_simp; with_reducible rfl))
      (try simp only [Act.put, List.setIfInBounds_toArray, List.set_cons_zero, List.set_cons_succ])
      refine wpAnyT_take (i := 46) (oi := ⟨some 6, _, _, _, _, _⟩) (v := ?vg4_46) rfl (by kernel_rfl) (by kernel_rfl) (by kernel_rfl) (by kernel_rfl) (fun _ _ _ h => h) (Or.inl ⟨by rfl, ?hg4_46⟩) (by assumption) ?rg4_46
      case hg4_46 => (intro w hSw; (try dsimp only at hSw); first | (go_simp; done) | (go_simp; with_reducible rfl))
      (try simp only [Act.put, List.setIfInBounds_toArray, List.set_cons_zero, List.set_cons_succ])
      refine wpAnyT_done (by kernel_rfl) ?_ _
      go_wp2_with fail
      go_ret
      exact ⟨rfl, HBC.out.trans (HW.out.mono HBC.out.size)⟩
theorem ropeParts_walk (v : Value) (l : List Op8) (a b : Int) (_ : (Lit.int .i64 a).wf = true) (_ : (Lit.int .i64 b).wf = true) (w : World) (h : Ops8 w v l ∧ ∀ o ∈ l, InR o.2.1 ∧ InR o.2.2.1) : Calls Try.prog 6 #[v, .int .i64 a, .int .i64 b] w fun e w' => e = .returned (.bool true) ∧ Below w.heap.size w w' := ropeParts_of v l a b w h.1 h.2
end Go.Proofs.Ytldemoflgahdgaa
