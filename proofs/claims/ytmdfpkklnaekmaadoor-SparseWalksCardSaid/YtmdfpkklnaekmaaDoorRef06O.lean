/- Layer 6: the document's own Of. -/
import Derived.Test.YtmdfpkklnaekmaaDoorRef06S
import Derived.Test.YtmdfpkklnaekmaaDoorInts
import Derived.Test.YtmdfpkklnaekmaaDoorRegionT
namespace Go.Proofs.YtmdfpkklnaekmaaDoor
open Go.RowKit
set_option maxRecDepth 1000000
set_option linter.unusedSimpArgs false

/-- The cells of the zero row. -/
abbrev zeroC : Array Value := #[.bool false, .bool false, .bool false, .bool false, .bool false, .bool false, .bool false, .bool false, .bool false, .bool false, .bool false, .bool false, .bool false, .bool false, .bool false, .bool false, .bool false, .bool false, .bool false, .bool false, .bool false, .bool false, .bool false, .bool false, .bool false, .bool false, .bool false, .bool false, .bool false, .bool false, .bool false, .bool false, .int .i64 0, .int .i64 0, .int .i64 0, .int .i64 0, .int .i64 0, .int .i64 0, .int .i64 0, .int .i64 0, .int .i64 0, .int .i64 0, .int .i64 0, .int .i64 0, .int .i64 0, .int .i64 0, .int .i64 0, .int .i64 0, .int .i64 0, .int .i64 0, .int .i64 0, .int .i64 0, .int .i64 0, .int .i64 0, .int .i64 0, .int .i64 0, .int .i64 0, .int .i64 0, .int .i64 0, .int .i64 0, .int .i64 0, .int .i64 0, .int .i64 0, .int .i64 0]
theorem zero_rc : RC noR zeroC := by
  refine ⟨rfl, fun i hi => ?_, fun i hi => ?_⟩
  · rcases (show i = 0 ∨ i = 1 ∨ i = 2 ∨ i = 3 ∨ i = 4 ∨ i = 5 ∨ i = 6 ∨ i = 7 ∨ i = 8 ∨ i = 9 ∨ i = 10 ∨ i = 11 ∨ i = 12 ∨ i = 13 ∨ i = 14 ∨ i = 15 ∨ i = 16 ∨ i = 17 ∨ i = 18 ∨ i = 19 ∨ i = 20 ∨ i = 21 ∨ i = 22 ∨ i = 23 ∨ i = 24 ∨ i = 25 ∨ i = 26 ∨ i = 27 ∨ i = 28 ∨ i = 29 ∨ i = 30 ∨ i = 31 by omega) with rfl | rfl | rfl | rfl | rfl | rfl | rfl | rfl | rfl | rfl | rfl | rfl | rfl | rfl | rfl | rfl | rfl | rfl | rfl | rfl | rfl | rfl | rfl | rfl | rfl | rfl | rfl | rfl | rfl | rfl | rfl | rfl <;> rfl
  · rcases (show i = 0 ∨ i = 1 ∨ i = 2 ∨ i = 3 ∨ i = 4 ∨ i = 5 ∨ i = 6 ∨ i = 7 ∨ i = 8 ∨ i = 9 ∨ i = 10 ∨ i = 11 ∨ i = 12 ∨ i = 13 ∨ i = 14 ∨ i = 15 ∨ i = 16 ∨ i = 17 ∨ i = 18 ∨ i = 19 ∨ i = 20 ∨ i = 21 ∨ i = 22 ∨ i = 23 ∨ i = 24 ∨ i = 25 ∨ i = 26 ∨ i = 27 ∨ i = 28 ∨ i = 29 ∨ i = 30 ∨ i = 31 by omega) with rfl | rfl | rfl | rfl | rfl | rfl | rfl | rfl | rfl | rfl | rfl | rfl | rfl | rfl | rfl | rfl | rfl | rfl | rfl | rfl | rfl | rfl | rfl | rfl | rfl | rfl | rfl | rfl | rfl | rfl | rfl | rfl <;> rfl

/-- A struct's variable and one more as the results. -/
theorem results_cell_row1 {P : Program} {fn : Func} {p u : Tmp} {ty : TypeId} (h : fn.results = #[.cell p ty, .tmp u]) (tmps : Array Value) (w : World) (g : Nat) (t : TypeId) (cs : Array Value) (fr : Nat × Nat) (d : TypeDesc)
    (hp : tmps.getD p undef = .pointer (some ⟨g, 0, none⟩)) (hg : w.heap[g]? = some (.cells cs t fr))
    (hu : P.underlying ty = some d) (hd : (match d with | .struct _ | .array _ _ => true | _ => false) = true) (hi : (P.info? ty).map (·.size) = some cs.size) :
    (results fn tmps).run P w = .ok (.tuple #[.agg cs, tmps.getD u undef]) w := by
  have hp' : tmps[p]?.getD undef = .pointer (some ⟨g, 0, none⟩) := by simpa using hp
  simp [results, h, hp', asAddr, run_loadVar_row w g t ty cs fr d hg hu hd hi]
set_option maxHeartbeats 4000000 in
theorem ref_Of6 (b : Nat) (v : Value) (zs : List Int) (w : World) (hv : IntsAt w v zs) : Calls Tryd.prog 22 #[.int .u32 (b : Int), v] w fun e w' => ∃ c', e = .returned (.tuple #[.agg c', .bool (decide (rkN b 32 = zs.length))]) ∧ RC (if rkN b 32 = zs.length then ofR b zs 32 else noR) c' ∧ Below w.heap.size w w' := by
  obtain ⟨a, cap, bb, oo, rfl, h1, h2, h3, h4⟩ := hv
  have HC := Lib.hid h2
  have HA := Lib.hid h1
  clear h1 h2 h3
  go_enter Tryd.func22, Tryd.ntmps22
  go_wp2_with fail
  obtain ⟨W0, hW0⟩ : ∃ W0, W0 = (w.alloc (.cells zeroC 31)).alloc (.cells zeroC 31) := ⟨_, rfl⟩
  rw [← hW0]
  obtain ⟨hx, hy, hbl⟩ := two_laid hW0.symm
  have HX := Lib.hid hx
  have HY := Lib.hid hy
  have HB := Lib.hid hbl
  clear hx hy hbl hW0
  go_loopw [7, 9] (fun k i wl => ∃ (n : Nat) (c z : Array Value), n ≤ 32 ∧ i = .int .i64 n ∧ k = .int .i64 (rkN b n : Nat) ∧ wl.heap[w.heap.size + 1]? = some (.cells c 31 (0, 0)) ∧ RC (ofR b zs n) c ∧ wl.heap[w.heap.size]? = some (.cells z 31 (0, 0)) ∧ z.size = 64 ∧ Below w.heap.size w wl) (fun _ i _ => 32 - (intOf i).toNat)
  case atStart => exact ⟨0, _, _, by omega, rfl, rfl, HY.out, by rw [of_zero]; exact zero_rc, HX.out, rfl, HB.out⟩
  case round =>
    obtain ⟨n, c, z, hn, rfl, rfl, hy, hc, hx, hz, hbl⟩ := hrel
    have HY1 := Lib.hid hy
    have HX1 := Lib.hid hx
    have HC1 := Lib.hid hc
    have HZ1 := Lib.hid hz
    have HB1 := Lib.hid hbl
    clear hy hx hc hz hbl HX HY HB
    have hle := rk_le b n
    by_cases hlt : n < 32
    · have i0 : (0 : Int) ≤ (n : Int) := by omega
      have i1 : (n : Int) < 32 := by omega
      have HBW := Lib.hid (bit_walk b n)
      by_cases hbit : bitN b n = true
      · have hbw := HBW.out.trans hbit
        have HR : Hid (rkN b (n + 1) = rkN b n + 1) := by show _ = _; simp [rkN, hbit]
        by_cases hl : rkN b n < zs.length
        · have hl' : (rkN b n : Int) < (zs.length : Int) := by omega
          have HS := Lib.hid (of_set hlt hbit hl)
          have ha : a = some ⟨bb, oo, none⟩ := HA.out (by omega)
          have hcx := HC.out (rkN b n) hl
          rw [List.getD_eq_getElem?_getD, List.getElem?_eq_getElem hl] at hcx
          have HCX : Hid (wr.cell? ⟨bb, oo + rkN b n, none⟩ = some (.int .i64 zs[rkN b n])) := (HB1.out.cell (World.block_lt_of_cell? w _ hcx)).trans hcx
          subst ha
          clear hcx hbit
          go_wp2_with fail
          refine wp_region_T (S := fun W => W.heap[w.heap.size + 1]? = some (.cells c 31 (0, 0)) ∧ W.cell? ⟨bb, oo + rkN b n, none⟩ = some (.int .i64 zs[rkN b n]) ∧ W.heap[w.heap.size]? = some (.cells z 31 (0, 0))) [7] (by kernel_rfl) (by first | exact ⟨HY1.out, HCX.out, HX1.out⟩ | exact ⟨HY2.out, HCX2.out, HX2.out⟩) (fun hHeld => ?_)
          refine wpAnyT_take (i := 0) (oi := ⟨some 22, _, _, _, _, _⟩) (v := _) rfl (by kernel_rfl) (by kernel_rfl) (by kernel_rfl) (by kernel_rfl) (fun _ _ _ h => h) (yieldsIf_load_row (by rfl) 31 _ rfl (w.heap.size + 1) rfl c 31 (0, 0) _ (fun w hw => hw.1) Tryd.underlying31 rfl (by rw [HC1.out.size]; exact row_info)) (by assumption) ?_
          (try simp only [Act.put, List.setIfInBounds_toArray, List.set_cons_zero, List.set_cons_succ])
          refine wpAnyT_take (i := 1) (oi := ⟨some 23, _, _, _, _, _⟩) (v := ?vg1_1) rfl (by kernel_rfl) (by kernel_rfl) (by kernel_rfl) (by kernel_rfl) (fun _ _ _ h => h) (Or.inl ⟨by rfl, ?hg1_1⟩) (by assumption) ?rg1_1
          case hg1_1 => (intro w hSw; (try dsimp only at hSw); first | (go_simp; done) | (go_simp; with_reducible rfl))
          (try simp only [Act.put, List.setIfInBounds_toArray, List.set_cons_zero, List.set_cons_succ])
          refine wpAnyT_take (i := 2) (oi := ⟨some 24, _, _, _, _, _⟩) (v := ?vg1_2) rfl (by kernel_rfl) (by kernel_rfl) (by kernel_rfl) (by kernel_rfl) (fun _ _ _ h => h) (Or.inl ⟨by rfl, ?hg1_2⟩) (by assumption) ?rg1_2
          case hg1_2 => (intro w hSw; (try dsimp only at hSw); first | (go_simp; done) | (go_simp; with_reducible rfl))
          (try simp only [Act.put, List.setIfInBounds_toArray, List.set_cons_zero, List.set_cons_succ])
          refine wpAnyT_take (i := 3) (oi := ⟨some 25, _, _, _, _, _⟩) (v := ?vg1_3) rfl (by kernel_rfl) (by kernel_rfl) (by kernel_rfl) (by kernel_rfl) (fun _ _ _ h => h) (Or.inl ⟨by rfl, ?hg1_3⟩) (by assumption) ?rg1_3
          case hg1_3 => (intro w hSw; (try dsimp only at hSw); first | (go_simp; done) | (go_simp; with_reducible rfl))
          (try simp only [Act.put, List.setIfInBounds_toArray, List.set_cons_zero, List.set_cons_succ])
          refine wpAnyT_take (i := 4) (oi := ⟨some 26, _, _, _, _, _⟩) (v := ?vg1_4) rfl (by kernel_rfl) (by kernel_rfl) (by kernel_rfl) (by kernel_rfl) (fun _ _ _ h => h) (Or.inl ⟨by rfl, ?hg1_4⟩) (by assumption) ?rg1_4
          case hg1_4 => (intro w hSw; (try dsimp only at hSw); first | (go_simp; done) | (go_simp; with_reducible rfl))
          (try simp only [Act.put, List.setIfInBounds_toArray, List.set_cons_zero, List.set_cons_succ])
          refine wpAnyT_take (i := 5) (oi := ⟨some 27, _, _, _, _, _⟩) (v := ?vg1_5) rfl (by kernel_rfl) (by kernel_rfl) (by kernel_rfl) (by kernel_rfl) (fun _ _ _ h => h) (Or.inl ⟨by rfl, ?hg1_5⟩) (by assumption) ?rg1_5
          case hg1_5 => (intro w hSw; (try dsimp only at hSw); first | (go_simp; done) | (go_simp; with_reducible rfl))
          (try simp only [Act.put, List.setIfInBounds_toArray, List.set_cons_zero, List.set_cons_succ])
          refine wpAnyT_one (i := 6) (o := ⟨some 28, _, _, _, _, _⟩) (by kernel_rfl) rfl (fun K hK => ?_)
          go_simp
          go_at_call 29
          refine (ref_Set6 _ c HC1.out _ _ _).mono ?_
          rintro e w2 ⟨c2, rfl, hc2, hb2⟩
          have HC2 := Lib.hid hc2
          have HB2 := Lib.hid ((Below.drewMany HB1.out 1).trans (hb2.mono (show w.heap.size ≤ wr.heap.size from HB1.out.size)))
          have HY2 := Lib.hid ((hb2.block _ (Array.getElem?_eq_some_iff.1 HY1.out).1).trans HY1.out)
          have HX2 := Lib.hid ((hb2.block _ (Array.getElem?_eq_some_iff.1 HX1.out).1).trans HX1.out)
          have HCX2 := Lib.hid ((hb2.cell (World.block_lt_of_cell? wr _ HCX.out)).trans HCX.out)
          clear hc2 hb2
          (try go_wp2_with fail)
          refine hK.out _ _ (by first | exact ⟨HY1.out, HCX.out, HX1.out⟩ | exact ⟨HY2.out, HCX2.out, HX2.out⟩) (fun hHeld => ?_)
          clear hK K
          (try simp only [Act.put, List.setIfInBounds_toArray, List.set_cons_zero, List.set_cons_succ])
          refine wpAnyT_last (i := 7) (o := ⟨none, _, _, _, _, _⟩) (by kernel_rfl) (by decide) rfl (fun K hK => ?_)
          rw [if_pos (by rfl)]
          refine st_agg_wp 31 _ _ rfl (w.heap.size + 1) c2 rfl rfl 31 c HY2.out (by rw [HC2.out.size]; exact row_info) (by rw [HC1.out.size, HC2.out.size]) HC2.out.one ?_
          intro w3 h3 k3
          have HY3 := Lib.hid h3
          have HX3 := Lib.hid (k3.other HX2.out (by omega))
          have HB3 := Lib.hid (HB2.out.trans (k3.below (by omega)))
          clear h3 k3
          refine hK.out _ _ ?_
          clear hK K
          (try simp only [Act.put, List.setIfInBounds_toArray, List.set_cons_zero, List.set_cons_succ])
          refine wpAnyT_done (by kernel_rfl) ?_ _
          go_wp2_with fail
          go_roundw
          case rel => exact ⟨n + 1, c2, z, by omega, by go_num, by rw [HR.out]; go_num, HY3.out, by rw [HS.out]; exact HC2.out, HX3.out, HZ1.out, HB3.out⟩
          case measure => simp [intOf]; omega
        · have hl' : ¬ (rkN b n : Int) < (zs.length : Int) := by omega
          have HS := Lib.hid (of_short (b := b) (i := n) hl)
          clear hl
          go_wp2_with fail
          go_roundw
          case rel => exact ⟨n + 1, c, z, by omega, by go_num, by rw [HR.out]; go_num, HY1.out, by rw [HS.out]; exact HC1.out, HX1.out, HZ1.out, HB1.out⟩
          case measure => simp [intOf]; omega
      · have hbw := HBW.out.trans (by simpa using hbit : bitN b n = false)
        have HR : Hid (rkN b (n + 1) = rkN b n) := by show _ = _; simp [rkN, hbit]
        have HS := Lib.hid (of_no (l := zs) hbit)
        clear hbit
        go_wp2_with fail
        go_roundw
        case rel => exact ⟨n + 1, c, z, by omega, by go_num, by rw [HR.out], HY1.out, by rw [HS.out]; exact HC1.out, HX1.out, HZ1.out, HB1.out⟩
        case measure => simp [intOf]; omega
    · obtain rfl : n = 32 := by omega
      by_cases he : rkN b 32 = zs.length
      · have HE := Lib.hid he
        have he' : ((rkN b 32 : Int) != (zs.length : Int)) = false := by simp [he]
        clear he
        go_wp2_with (first
          | (refine wpList_load_row rfl 31 _ rfl (w.heap.size + 1) rfl 31 _ _ _ HY1.out Tryd.underlying31 rfl (by rw [HC1.out.size]; exact row_info) ?_)
          | (refine st_agg rfl 31 _ _ rfl w.heap.size c rfl rfl 31 z HX1.out (by rw [HC1.out.size]; exact row_info) (by rw [HZ1.out, HC1.out.size]) HC1.out.one ?_; intro w4 h4 k4; have HX4 := Lib.hid h4; have HB4 := Lib.hid (HB1.out.trans (k4.below (Nat.le_refl _))); clear h4 k4))
        refine bodyPost_ret (results_cell_row1 rfl _ _ w.heap.size 31 _ (0, 0) _ rfl HX4.out Tryd.underlying31 rfl (by rw [HC1.out.size]; exact row_info)) rfl ⟨c, by first | rfl | (rw [decide_eq_true HE.out]; rfl), by first | exact HC1.out | (rw [if_pos HE.out]; exact HC1.out), HB4.out⟩
      · have HE := Lib.hid he
        have he' : ((rkN b 32 : Int) != (zs.length : Int)) = true := by simp; omega
        clear he
        go_wp2_with (first
          | (refine st_agg rfl 31 _ _ rfl w.heap.size zeroC rfl rfl 31 z HX1.out row_info HZ1.out zero_rc.one ?_; intro w4 h4 k4; have HX4 := Lib.hid h4; have HB4 := Lib.hid (HB1.out.trans (k4.below (Nat.le_refl _))); clear h4 k4))
        refine bodyPost_ret (results_cell_row1 rfl _ _ w.heap.size 31 _ (0, 0) _ rfl HX4.out Tryd.underlying31 rfl row_info) rfl ⟨zeroC, by first | rfl | (rw [decide_eq_false HE.out]; rfl), by first | exact zero_rc | (rw [if_neg HE.out]; exact zero_rc), HB4.out⟩
end Go.Proofs.YtmdfpkklnaekmaaDoor
