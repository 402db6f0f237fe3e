/- The document's maps by their order: At, Rank, Next, Prev; Get. (written by tools/gen10/rd1.py) -/
import Derived.Test.YtnnlfgfgfegjkaaDoorDc1
import Derived.Test.YtnnlfgfgfegjkaaDoorRef09B
namespace Go.Proofs.YtnnlfgfgfegjkaaDoor
open Go.RowKit
set_option maxRecDepth 1000000
set_option linter.unusedSimpArgs false

theorem below_now {B : Nat} {w w1 w2 : World} (h : Below B w w1) (hB : B ≤ w.heap.size) (h2 : Below w1.heap.size w1 w2) : Below B w w2 := h.trans (h2.mono (Nat.le_trans hB h.size))
set_option maxHeartbeats 2000000 in
theorem ref_Get9 (w : World) (c : Array Value) (L : List Ent) (k : ByteArray) (h : RefM w c L) (hL : Rise L) (hS : Short L) (hn : L.length ≤ 100000) :
    Calls Tryd.prog 65 #[.agg c, .string k] w fun e w' => e = .returned (.tuple #[.int .i64 ((getE L k).getD 0), .bool (getE L k).isSome]) ∧ Below w.heap.size w w' := by
  have HAT := Lib.hid (fun W (hW : Below w.heap.size w W) => ref_At9 W c L k (h.later hW) hL hS hn)
  obtain ⟨kv, xv, rfl, hk, hx⟩ := h
  have HX := Lib.hid hx
  obtain ⟨a1, c1, rfl, _⟩ := hk.shape
  obtain ⟨a2, c2, rfl, _⟩ := hx.shape
  rw [keysE_len, valsE_len] at *
  obtain ⟨w1, hw1⟩ : ∃ w1, w.alloc (.cells #[.slice a1 L.length c1, .slice a2 L.length c2] 40) = w1 := ⟨_, rfl⟩
  obtain ⟨hb1, hx1, hs1⟩ := new_below hw1
  have HX1 := Lib.hid hx1
  have HB1 := Lib.hid hb1
  have HAP := Lib.hid (at_place hL k).2
  obtain ⟨M, hM⟩ : ∃ M, M = (belE L k).length := ⟨_, rfl⟩
  rw [← hM] at HAT HAP
  obtain ⟨q, hq⟩ : ∃ q, q = getE L k := ⟨_, rfl⟩
  rw [← hq] at HAT HAP ⊢
  have hn6 : (L.length : Int) ≤ 100000 := by omega
  clear hk hx hL hS hx1 hb1 hs1 hM hq hn
  cases q with
  | none =>
    clear HAP HX hn6
    simp only [Option.isSome_none, Option.getD_none] at HAT ⊢
    go_enter Tryd.func65, Tryd.ntmps65
    go_wp2_with (first
      | (refine ld_if (by rfl) 40 _ rfl w.heap.size rfl 40 _ _ _ HX1.out Tryd.underlying40 rfl refm_size ?_)
      | (go_at_call 71; (with_reducible refine (HAT.out _ HB1.out).mono ?_); rintro e w2 ⟨rfl, hb⟩; have HB2 := Lib.hid (below_now HB1.out (Nat.le_refl _) hb); clear hb))
    go_ret2
    exact ⟨rfl, HB2.out⟩
  | some x =>
    obtain ⟨e, he, _, hex⟩ := HAP.out rfl
    have hMl : M < L.length := (List.getElem?_eq_some_iff.1 he).1
    have hMl' : (M : Int) < (L.length : Int) := by omega
    have M0 : (0 : Int) ≤ (M : Int) := by omega
    have HEL : Hid (∀ V, Below w.heap.size w V → ∃ g2, a2 = some ⟨g2, 0, none⟩ ∧ V.cell? ⟨g2, M, none⟩ = some (.int .i64 x)) := fun V hV => by
      obtain ⟨g', d', e', h'⟩ := (HX.out.later hV).cell (j := M) (by rw [valsE_len]; exact hMl)
      simp only [Value.slice.injEq] at e'
      refine ⟨g', e'.1, ?_⟩
      rw [h']
      have e1 : (valsE L)[M]'(by rw [valsE_len]; exact hMl) = L[M].2 := by unfold valsE; rw [List.getElem_map]
      have e2 : L[M] = e := (List.getElem?_eq_some_iff.1 he).2
      rw [e1, e2, Option.some.inj hex]
    obtain ⟨g2, rfl, _⟩ := HEL.out w (Below.refl _ _)
    clear HAP HX hn6 he hex
    simp only [Option.isSome_some, Option.getD_some] at HAT ⊢
    go_enter Tryd.func65, Tryd.ntmps65
    go_wp2_with (first
      | (refine ld_if (by rfl) 40 _ rfl w.heap.size rfl 40 _ _ _ HX1.out Tryd.underlying40 rfl refm_size ?_)
      | (go_at_call 71; (with_reducible refine (HAT.out _ HB1.out).mono ?_); rintro e w2 ⟨rfl, hb⟩; have HB2 := Lib.hid (below_now HB1.out (Nat.le_refl _) hb); have cx1 : w2.cell? ⟨w.heap.size, 1, none⟩ = some (.slice (some ⟨g2, 0, none⟩) L.length c2) := (cell_in ((hb.block _ (Array.getElem?_eq_some_iff.1 HX1.out).1).trans HX1.out) rfl); obtain ⟨g3, e3, cel⟩ := HEL.out _ HB2.out; simp only [Option.some.injEq, Addr.mk.injEq, and_true] at e3; subst e3; clear hb))
    go_ret2
    exact ⟨rfl, HB2.out⟩
set_option maxHeartbeats 4000000 in
theorem rf_At (w : World) (c : Array Value) (L : List Ent) (i : Int) (h : RefM w c L) (hn : L.length ≤ 100000) :
    Calls Tryd.prog 19 #[.agg c, .int .i64 i] w fun r w' => r = .returned (ansE (placeE L i)) ∧ Below w.heap.size w w' := by
  obtain ⟨kv, xv, rfl, hk, hx⟩ := h
  have HLS := Lib.hid hk
  have HLI := Lib.hid hx
  obtain ⟨a1, c1, rfl, _⟩ := hk.shape
  obtain ⟨a2, c2, rfl, _⟩ := hx.shape
  rw [keysE_len, valsE_len] at *
  obtain ⟨N, hN⟩ : ∃ N, N = L.length := ⟨_, rfl⟩
  rw [← hN] at HLS HLI ⊢
  by_cases h0 : i < 0
  · rw [place_neg L h0]
    unfold ansE
    clear HLS HLI hk hx hn hN
    go_enter Tryd.func19, Tryd.ntmps19
    go_wp2_with fail
    go_ret3
    exact ⟨rfl, Below.newly' _ _⟩
  · by_cases h1 : (N : Int) ≤ i
    · rw [place_out L (by omega)]
      unfold ansE
      clear HLS HLI hk hx hn hN
      obtain ⟨w1, hw1⟩ : ∃ w1, w.alloc (.cells #[.slice a1 N c1, .slice a2 N c2] 40) = w1 := ⟨_, rfl⟩
      obtain ⟨hb1, hx1, hs1⟩ := new_below hw1
      have HX1 := Lib.hid hx1
      have HB1 := Lib.hid hb1
      have HS1 := Lib.hid hs1
      have cx0 : w1.cell? ⟨w.heap.size, 0, none⟩ = some (.slice a1 N c1) := cell_in hx1 rfl
      clear hx1 hb1 hs1
      go_enter Tryd.func19, Tryd.ntmps19
      go_wp2_with fail
      go_ret3
      exact ⟨rfl, HB1.out⟩
    · obtain ⟨j, rfl⟩ : ∃ j : Nat, i = (j : Int) := ⟨i.toNat, by omega⟩
      have hj : j < L.length := by omega
      rw [ans_in hj]
      obtain ⟨g1, d1, e1, hc1⟩ := HLS.out.cell (j := j) (by rw [keysE_len]; exact hj)
      obtain ⟨g2, d2, e2, hc2⟩ := HLI.out.cell (j := j) (by rw [valsE_len]; exact hj)
      simp only [Value.slice.injEq] at e1 e2
      obtain ⟨rfl, hd1, rfl⟩ := e1
      obtain ⟨rfl, hd2, rfl⟩ := e2
      have hkj : (keysE L)[j]'(by rw [keysE_len]; exact hj) = L[j].1 := by unfold keysE; rw [List.getElem_map]
      have hxj : (valsE L)[j]'(by rw [valsE_len]; exact hj) = L[j].2 := by unfold valsE; rw [List.getElem_map]
      rw [hkj] at hc1
      rw [hxj] at hc2
      obtain ⟨⟨ky, xy⟩, hky⟩ : ∃ e, e = L[j] := ⟨_, rfl⟩
      rw [← hky] at hc1 hc2 ⊢
      simp only at hc1 hc2
      have hjN : (j : Int) < (N : Int) := by omega
      have hN4 : (N : Int) ≤ 100000 := by omega
      have i0 : (0 : Int) ≤ (j : Int) := by omega
      obtain ⟨w1, hw1⟩ : ∃ w1, w.alloc (.cells #[.slice (some ⟨g1, 0, none⟩) N c1, .slice (some ⟨g2, 0, none⟩) N c2] 40) = w1 := ⟨_, rfl⟩
      obtain ⟨hb1, hx1, hs1⟩ := new_below hw1
      have HX1 := Lib.hid hx1
      have HB1 := Lib.hid hb1
      have HS1 := Lib.hid hs1
      have HC1 := Lib.hid ((hb1.cell (World.block_lt_of_cell? w _ hc1)).trans hc1)
      have HC2 := Lib.hid ((hb1.cell (World.block_lt_of_cell? w _ hc2)).trans hc2)
      have cx0 : w1.cell? ⟨w.heap.size, 0, none⟩ = some (.slice (some ⟨g1, 0, none⟩) N c1) := cell_in hx1 rfl
      have HKS : Hid (∀ V, Below w1.heap.size w1 V → V.cell? ⟨w.heap.size, 0, none⟩ = some (.slice (some ⟨g1, 0, none⟩) N c1) ∧ V.cell? ⟨w.heap.size, 1, none⟩ = some (.slice (some ⟨g2, 0, none⟩) N c2) ∧ V.cell? ⟨g1, j, none⟩ = some (.string ky) ∧ V.cell? ⟨g2, j, none⟩ = some (.int .i64 xy)) := fun V hV => ⟨cell_in ((hV.block _ (by have := HS1.out; omega)).trans HX1.out) rfl, cell_in ((hV.block _ (by have := HS1.out; omega)).trans HX1.out) rfl, (hV.cell (World.block_lt_of_cell? w1 _ HC1.out)).trans HC1.out, (hV.cell (World.block_lt_of_cell? w1 _ HC2.out)).trans HC2.out⟩
      have HW : Hid (Below w1.heap.size w1 w1.drew) := drawn_below w1
      clear HLS HLI hk hx hn hN hd1 hd2 hkj hxj hky hc1 hc2 hj hx1 hb1 hs1
      go_enter Tryd.func19, Tryd.ntmps19
      go_upto_region 3 with fail
      clear hw1 cx0
      refine wp_region_T (S := (fun V => V.cell? ⟨w.heap.size, 0, none⟩ = some (.slice (some ⟨g1, 0, none⟩) N c1) ∧ V.cell? ⟨w.heap.size, 1, none⟩ = some (.slice (some ⟨g2, 0, none⟩) N c2) ∧ V.cell? ⟨g1, j, none⟩ = some (.string ky) ∧ V.cell? ⟨g2, j, none⟩ = some (.int .i64 xy))) [] (by kernel_rfl) (by exact HKS.out _ HW.out) (fun hHeld => ?_)
      refine wpAnyT_take (i := 0) (oi := ⟨some 16, _, _, _, _, _⟩) (v := ?vg1_0) rfl (by kernel_rfl) (by kernel_rfl) (by kernel_rfl) (by kernel_rfl) (fun _ _ _ h => h) (Or.inl ⟨by rfl, ?hg1_0⟩) (by assumption) ?rg1_0
      case hg1_0 => (intro w hSw; (try dsimp only at hSw); first | (go_simp; done) | (go_simp; with_reducible rfl))
      (try simp only [Act.put, List.setIfInBounds_toArray, List.set_cons_zero, List.set_cons_succ])
      refine wpAnyT_take (i := 1) (oi := ⟨some 17, _, _, _, _, _⟩) (v := ?vg1_1) rfl (by kernel_rfl) (by kernel_rfl) (by kernel_rfl) (by kernel_rfl) (fun _ _ _ h => h) (Or.inl ⟨by rfl, ?hg1_1⟩) (by assumption) ?rg1_1
      case hg1_1 => (intro w hSw; (try dsimp only at hSw); first | (go_simp; done) | (go_simp; with_reducible rfl))
      (try simp only [Act.put, List.setIfInBounds_toArray, List.set_cons_zero, List.set_cons_succ])
      refine wpAnyT_take (i := 2) (oi := ⟨some 18, _, _, _, _, _⟩) (v := ?vg1_2) rfl (by kernel_rfl) (by kernel_rfl) (by kernel_rfl) (by kernel_rfl) (fun _ _ _ h => h) (Or.inl ⟨by rfl, ?hg1_2⟩) (by assumption) ?rg1_2
      case hg1_2 => (intro w hSw; (try dsimp only at hSw); first | (go_simp; done) | (go_simp; with_reducible rfl))
      (try simp only [Act.put, List.setIfInBounds_toArray, List.set_cons_zero, List.set_cons_succ])
      refine wpAnyT_take (i := 3) (oi := ⟨some 19, _, _, _, _, _⟩) (v := ?vg1_3) rfl (by kernel_rfl) (by kernel_rfl) (by kernel_rfl) (by kernel_rfl) (fun _ _ _ h => h) (Or.inl ⟨by rfl, ?hg1_3⟩) (by assumption) ?rg1_3
      case hg1_3 => (intro w hSw; (try dsimp only at hSw); first | (go_simp; done) | (go_simp; with_reducible rfl))
      (try simp only [Act.put, List.setIfInBounds_toArray, List.set_cons_zero, List.set_cons_succ])
      refine wpAnyT_take (i := 4) (oi := ⟨some 20, _, _, _, _, _⟩) (v := ?vg1_4) rfl (by kernel_rfl) (by kernel_rfl) (by kernel_rfl) (by kernel_rfl) (fun _ _ _ h => h) (Or.inl ⟨by rfl, ?hg1_4⟩) (by assumption) ?rg1_4
      case hg1_4 => (intro w hSw; (try dsimp only at hSw); first | (go_simp; done) | (go_simp; with_reducible rfl))
      (try simp only [Act.put, List.setIfInBounds_toArray, List.set_cons_zero, List.set_cons_succ])
      refine wpAnyT_take (i := 5) (oi := ⟨some 21, _, _, _, _, _⟩) (v := ?vg1_5) rfl (by kernel_rfl) (by kernel_rfl) (by kernel_rfl) (by kernel_rfl) (fun _ _ _ h => h) (Or.inl ⟨by rfl, ?hg1_5⟩) (by assumption) ?rg1_5
      case hg1_5 => (intro w hSw; (try dsimp only at hSw); first | (go_simp; done) | (go_simp; with_reducible rfl))
      (try simp only [Act.put, List.setIfInBounds_toArray, List.set_cons_zero, List.set_cons_succ])
      refine wpAnyT_take (i := 6) (oi := ⟨some 22, _, _, _, _, _⟩) (v := ?vg1_6) rfl (by kernel_rfl) (by kernel_rfl) (by kernel_rfl) (by kernel_rfl) (fun _ _ _ h => h) (Or.inl ⟨by rfl, ?hg1_6⟩) (by assumption) ?rg1_6
      case hg1_6 => (intro w hSw; (try dsimp only at hSw); first | (go_simp; done) | (go_simp; with_reducible rfl))
      (try simp only [Act.put, List.setIfInBounds_toArray, List.set_cons_zero, List.set_cons_succ])
      refine wpAnyT_take (i := 7) (oi := ⟨some 23, _, _, _, _, _⟩) (v := ?vg1_7) rfl (by kernel_rfl) (by kernel_rfl) (by kernel_rfl) (by kernel_rfl) (fun _ _ _ h => h) (Or.inl ⟨by rfl, ?hg1_7⟩) (by assumption) ?rg1_7
      case hg1_7 => (intro w hSw; (try dsimp only at hSw); first | (go_simp; done) | (go_simp; with_reducible rfl))
      (try simp only [Act.put, List.setIfInBounds_toArray, List.set_cons_zero, List.set_cons_succ])
      refine wpAnyT_take (i := 8) (oi := ⟨some 24, _, _, _, _, _⟩) (v := ?vg1_8) rfl (by kernel_rfl) (by kernel_rfl) (by kernel_rfl) (by kernel_rfl) (fun _ _ _ h => h) (Or.inl ⟨by rfl, ?hg1_8⟩) (by assumption) ?rg1_8
      case hg1_8 => (intro w hSw; (try dsimp only at hSw); first | (go_simp; done) | (go_simp; with_reducible rfl))
      (try simp only [Act.put, List.setIfInBounds_toArray, List.set_cons_zero, List.set_cons_succ])
      refine wpAnyT_take (i := 9) (oi := ⟨some 25, _, _, _, _, _⟩) (v := ?vg1_9) rfl (by kernel_rfl) (by kernel_rfl) (by kernel_rfl) (by kernel_rfl) (fun _ _ _ h => h) (Or.inl ⟨by rfl, ?hg1_9⟩) (by assumption) ?rg1_9
      case hg1_9 => (intro w hSw; (try dsimp only at hSw); first | (go_simp; done) | (go_simp; with_reducible rfl))
      (try simp only [Act.put, List.setIfInBounds_toArray, List.set_cons_zero, List.set_cons_succ])
      refine wpAnyT_take (i := 10) (oi := ⟨some 4, _, _, _, _, _⟩) (v := ?vg1_10) rfl (by kernel_rfl) (by kernel_rfl) (by kernel_rfl) (by kernel_rfl) (fun _ _ _ h => h) (Or.inl ⟨by rfl, ?hg1_10⟩) (by assumption) ?rg1_10
      case hg1_10 => (intro w hSw; (try dsimp only at hSw); first | (go_simp; done) | (go_simp; with_reducible rfl))
      (try simp only [Act.put, List.setIfInBounds_toArray, List.set_cons_zero, List.set_cons_succ])
      refine wpAnyT_take (i := 11) (oi := ⟨some 5, _, _, _, _, _⟩) (v := ?vg1_11) rfl (by kernel_rfl) (by kernel_rfl) (by kernel_rfl) (by kernel_rfl) (fun _ _ _ h => h) (Or.inl ⟨by rfl, ?hg1_11⟩) (by assumption) ?rg1_11
      case hg1_11 => (intro w hSw; (try dsimp only at hSw); first | (go_simp; done) | (go_simp; with_reducible rfl))
      (try simp only [Act.put, List.setIfInBounds_toArray, List.set_cons_zero, List.set_cons_succ])
      refine wpAnyT_take (i := 12) (oi := ⟨some 6, _, _, _, _, _⟩) (v := ?vg1_12) rfl (by kernel_rfl) (by kernel_rfl) (by kernel_rfl) (by kernel_rfl) (fun _ _ _ h => h) (Or.inl ⟨by rfl, ?hg1_12⟩) (by assumption) ?rg1_12
      case hg1_12 => (intro w hSw; (try dsimp only at hSw); first | (go_simp; done) | (go_simp; with_reducible rfl))
      (try simp only [Act.put, List.setIfInBounds_toArray, List.set_cons_zero, List.set_cons_succ])
      refine wpAnyT_done (by kernel_rfl) ?_ _
      clear hHeld HKS
      have HB5 := Lib.hid (HB1.out.trans (HW.out.mono HB1.out.size))
      go_wp2_with fail
      go_ret3
      exact ⟨rfl, HB5.out⟩
theorem bel_take {L : List Ent} (k : ByteArray) {j : Nat} (hj : j < L.length) : (belE (L.take (j + 1)) k).length = (belE (L.take j) k).length + (if kb L[j].1 < kb k then 1 else 0) := by
  rw [List.take_succ_eq_append_getElem hj]
  unfold belE
  rw [List.filter_append, List.length_append]
  congr 1
  by_cases h : kb L[j].1 < kb k <;> simp [h]
set_option maxHeartbeats 4000000 in
theorem rf_Rank (w : World) (c : Array Value) (L : List Ent) (k : ByteArray) (h : RefM w c L) (hS : Short L) (hn : L.length ≤ 100000) :
    Calls Tryd.prog 21 #[.agg c, .string k] w fun r w' => r = .returned (.int .i64 ((belE L k).length : Nat)) ∧ Below w.heap.size w w' := by
  obtain ⟨kv, xv, rfl, hk, hx⟩ := h
  have HLS := Lib.hid hk
  have HLI := Lib.hid hx
  obtain ⟨a1, c1, rfl, _⟩ := hk.shape
  obtain ⟨a2, c2, rfl, _⟩ := hx.shape
  rw [keysE_len, valsE_len] at *
  obtain ⟨N, hN⟩ : ∃ N, N = L.length := ⟨_, rfl⟩
  rw [← hN] at HLS HLI ⊢
  obtain ⟨w1, hw1⟩ : ∃ w1, w.alloc (.cells #[.slice a1 N c1, .slice a2 N c2] 40) = w1 := ⟨_, rfl⟩
  obtain ⟨hb1, hx1, hs1⟩ := new_below hw1
  have HX1 := Lib.hid hx1
  have HB1 := Lib.hid hb1
  have HS1 := Lib.hid hs1
  have cx0 : w1.cell? ⟨w.heap.size, 0, none⟩ = some (.slice a1 N c1) := cell_in hx1 rfl
  have hN4 : (N : Int) ≤ 100000 := by omega
  have HNL : Hid (N = L.length) := hN
  have HSH := Lib.hid hS
  clear hk hx hn hN hx1 hb1 hs1 hS
  go_enter Tryd.func21, Tryd.ntmps21
  go_wp2_with fail
  clear hw1 cx0
  go_loopw [5, 11] (fun nv i wl => ∃ j : Nat, i = .int .i64 (j : Int) ∧ j ≤ N ∧ nv = .int .i64 (((belE (L.take j) k).length : Nat) : Int) ∧ Hid (Below w1.heap.size w1 wl)) (fun _ i _ => N - (intOf i).toNat)
  case atStart => exact ⟨0, rfl, Nat.zero_le _, by simp [belE], Below.refl _ _⟩
  case round =>
    obtain ⟨j, rfl, hj, rfl, HBJ⟩ := hrel
    have hbl : (belE (L.take j) k).length ≤ j := Nat.le_trans (bel_le _ _) (by rw [List.length_take]; omega)
    by_cases hlt : j < N
    · have hlt' : (j : Int) < (N : Int) := by omega
      have hjL : j < L.length := by rw [← HNL.out]; exact hlt
      obtain ⟨g1, d1, e1, hc1⟩ := (HLS.out.later (HB1.out.trans (HBJ.out.mono HB1.out.size))).cell (j := j) (by rw [keysE_len]; exact hjL)
      simp only [Value.slice.injEq] at e1
      obtain ⟨rfl, hd1, rfl⟩ := e1
      have hkj : (keysE L)[j]'(by rw [keysE_len]; exact hjL) = L[j].1 := by unfold keysE; rw [List.getElem_map]
      rw [hkj] at hc1
      have hbt := bel_take k hjL
      have hsz := HSH.out _ (List.getElem_mem hjL)
      obtain ⟨⟨ky, xy⟩, hky⟩ : ∃ e, e = L[j] := ⟨_, rfl⟩
      rw [← hky] at hc1 hbt hsz
      simp only at hbt hsz
      have HO := Lib.hid (fun w => ref_Order ky k w (by unfold maxLen; omega))
      obtain ⟨od, hod⟩ : ∃ od, od = orderS ky.data.toList k.data.toList := ⟨_, rfl⟩
      rw [← hod] at HO
      have hol : od < 0 ↔ kb ky < kb k := by rw [hod]; exact order_lt ky k
      obtain ⟨R, hR⟩ : ∃ R, R = (belE (L.take j) k).length := ⟨_, rfl⟩
      rw [← hR] at hbt hbl ⊢
      have hR4 : (R : Int) ≤ 100000 := by omega
      have HLT := Lib.hid hlt
      have HBT := Lib.hid hbt
      have HOL := Lib.hid hol
      clear hkj hky hd1 hjL hbt hsz hod hol hR hlt
      by_cases ho : od < 0
      · have HE : Hid ((belE (L.take (j + 1)) k).length = R + 1) := by show _ = _; rw [HBT.out, if_pos (HOL.out.1 ho)]
        go_wp2_with (go_at_call 53; (with_reducible refine (HO.out _).mono ?_); rintro r w3 ⟨rfl, hd⟩; have HB3 := Lib.hid (HBJ.out.trans ((drawn_to hd).mono HBJ.out.size)); clear hd)
        go_roundw
        case rel => exact ⟨j + 1, by simp, by have := HLT.out; omega, by rw [HE.out]; simp, HB3⟩
        case measure => have := HLT.out; simp [intOf]; omega
      · have HE : Hid ((belE (L.take (j + 1)) k).length = R) := by show _ = _; rw [HBT.out, if_neg (fun h => ho (HOL.out.2 h)), Nat.add_zero]
        go_wp2_with (go_at_call 53; (with_reducible refine (HO.out _).mono ?_); rintro r w3 ⟨rfl, hd⟩; have HB3 := Lib.hid (HBJ.out.trans ((drawn_to hd).mono HBJ.out.size)); clear hd)
        go_roundw
        case rel => exact ⟨j + 1, by simp, by have := HLT.out; omega, by rw [HE.out], HB3⟩
        case measure => have := HLT.out; simp [intOf]; omega
    · obtain rfl : j = N := by omega
      rw [HNL.out, List.take_length]
      go_wp2_with fail
      go_ret
      exact ⟨rfl, HB1.out.trans (HBJ.out.mono HB1.out.size)⟩
set_option maxHeartbeats 4000000 in
theorem rf_Next (w : World) (c : Array Value) (L : List Ent) (k : ByteArray) (h : RefM w c L) (hL : Rise L) (hS : Short L) (hn : L.length ≤ 100000) :
    Calls Tryd.prog 15 #[.agg c, .string k] w fun r w' => r = .returned (ansE (placeE L ((belE L (behind k)).length : Nat))) ∧ Below w.heap.size w w' := by
  have HRK := Lib.hid (fun W (hb : Below w.heap.size w W) => rf_Rank W c L k (h.later hb) hS hn)
  have HAT := Lib.hid (fun W (hb : Below w.heap.size w W) i => rf_At W c L i (h.later hb) hn)
  have hlb := len_behind hL k
  have hba := fun h => bel_at hL k h
  have hble := bel_le L k
  obtain ⟨kv, xv, rfl, hk, hx⟩ := h
  have HLS := Lib.hid hk
  have HLI := Lib.hid hx
  obtain ⟨a1, c1, rfl, _⟩ := hk.shape
  obtain ⟨a2, c2, rfl, _⟩ := hx.shape
  rw [keysE_len, valsE_len] at *
  obtain ⟨N, hN⟩ : ∃ N, N = L.length := ⟨_, rfl⟩
  rw [← hN] at HLS HLI HRK HAT ⊢
  obtain ⟨R, hR⟩ : ∃ R, R = (belE L k).length := ⟨_, rfl⟩
  rw [hlb]
  have HBA : Hid (∀ h : R < L.length, L[R].1 = k ↔ (getE L k).isSome = true) := fun h => by subst hR; exact (hba h).2
  have HPL := Lib.hid (at_place hL k).2
  rw [← hR] at HRK hble HPL ⊢
  obtain ⟨is_, his⟩ : ∃ i, i = (getE L k).isSome := ⟨_, rfl⟩
  rw [← his] at HBA HPL ⊢
  have HNL : Hid (N = L.length) := hN
  have hN4 : (N : Int) ≤ 100000 := by omega
  have hRN : R ≤ N := by omega
  obtain ⟨w1, hw1⟩ : ∃ w1, w.alloc (.cells #[.slice a1 N c1, .slice a2 N c2] 40) = w1 := ⟨_, rfl⟩
  obtain ⟨hb1, hx1, hs1⟩ := new_below hw1
  have HX1 := Lib.hid hx1
  have HB1 := Lib.hid hb1
  have HS1 := Lib.hid hs1
  clear hk hx hn hN hx1 hb1 hs1 hS hL hlb hba hble hR his
  by_cases hlt : R < N
  · have hlt' : (R : Int) < (N : Int) := by omega
    have i0 : (0 : Int) ≤ (R : Int) := by omega
    have hjL : R < L.length := by rw [← HNL.out]; exact hlt
    obtain ⟨g1, d1, e1, hc1⟩ := HLS.out.cell (j := R) (by rw [keysE_len]; exact hjL)
    simp only [Value.slice.injEq] at e1
    obtain ⟨rfl, hd1, rfl⟩ := e1
    have hkj : (keysE L)[R]'(by rw [keysE_len]; exact hjL) = L[R].1 := by unfold keysE; rw [List.getElem_map]
    rw [hkj] at hc1
    have HKI := Lib.hid (HBA.out hjL)
    obtain ⟨ky, hky⟩ : ∃ e, e = L[R].1 := ⟨_, rfl⟩
    rw [← hky] at hc1 HKI
    have HCV : Hid (∀ V, Below w1.heap.size w1 V → V.cell? ⟨w.heap.size, 0, none⟩ = some (.slice (some ⟨g1, 0, none⟩) N c1) ∧ V.cell? ⟨g1, R, none⟩ = some (.string ky) ∧ V.heap[w.heap.size]? = some (.cells #[.slice (some ⟨g1, 0, none⟩) N c1, .slice a2 N c2] 40 (0, 0))) := fun V hV =>
      ⟨cell_in ((hV.block _ (by have := HS1.out; omega)).trans HX1.out) rfl, ((HB1.out.trans (hV.mono HB1.out.size)).cell (World.block_lt_of_cell? w _ hc1)).trans hc1, (hV.block _ (by have := HS1.out; omega)).trans HX1.out⟩
    clear hkj hky hd1 hc1 HPL
    cases is_ with
    | true =>
      have hkk : ky = k := HKI.out.2 rfl
      subst hkk
      have t1 : (ky.toList == ky.toList) = true := beq_self_eq_true _
      rw [if_pos rfl]
      obtain ⟨k0, x0, t0, hans⟩ := ans_tuple (placeE L (((R + 1 : Nat)) : Int))
      have HAN := Lib.hid (HAT.out · · (((R + 1 : Nat)) : Int))
      rw [hans] at HAN ⊢
      have HWR : Hid ((((R + 1 : Nat)) : Int) = (R : Int) + 1) := by show _ = _; omega
      rw [HWR.out] at HAN
      clear hans
      go_enter Tryd.func15, Tryd.ntmps15
      go_upto_region 1 with fail
      clear hw1
      go_wp2_with (first
        | (refine ld_if (by rfl) 40 _ rfl w.heap.size rfl 40 _ _ _ HX1.out Tryd.underlying40 rfl refm_size ?_)
        | (refine ld_if (by rfl) 40 _ rfl w.heap.size rfl 40 _ _ _ HX2.out Tryd.underlying40 rfl refm_size ?_)
        | (go_at_call 21; (with_reducible refine (HRK.out _ HB1.out).mono ?_); rintro r w2 ⟨rfl, hb⟩; have HB2 := Lib.hid hb; have HX2 := Lib.hid (HCV.out _ hb).2.2; have cy0 := (HCV.out _ hb).1; have cy1 := (HCV.out _ hb).2.1; clear hb)
        | (go_at_call 19; (with_reducible refine (HAN.out _ (HB1.out.trans (HB2.out.mono HB1.out.size))).mono ?_); rintro r w3 ⟨rfl, hb⟩; have HB3 := Lib.hid (below_now HB1.out (Nat.le_refl _) (HB2.out.trans (hb.mono HB2.out.size))); clear hb))
      go_ret3
      exact ⟨rfl, HB3.out⟩
    | false =>
      have hkk : ky ≠ k := fun e => by have := HKI.out.1 e; cases this
      have t1 : (ky.toList == k.toList) = false := beq_eq_false_iff_ne.2 fun h => hkk (kb_inj (by rw [ByteArray.toList_eq, ByteArray.toList_eq] at h; exact h))
      rw [if_neg (by decide), Nat.add_zero]
      obtain ⟨k0, x0, t0, hans⟩ := ans_tuple (placeE L (R : Int))
      have HAN := Lib.hid (HAT.out · · (R : Int))
      rw [hans] at HAN ⊢
      clear hans hkk
      go_enter Tryd.func15, Tryd.ntmps15
      go_upto_region 1 with fail
      clear hw1
      go_wp2_with (first
        | (refine ld_if (by rfl) 40 _ rfl w.heap.size rfl 40 _ _ _ HX1.out Tryd.underlying40 rfl refm_size ?_)
        | (refine ld_if (by rfl) 40 _ rfl w.heap.size rfl 40 _ _ _ HX2.out Tryd.underlying40 rfl refm_size ?_)
        | (go_at_call 21; (with_reducible refine (HRK.out _ HB1.out).mono ?_); rintro r w2 ⟨rfl, hb⟩; have HB2 := Lib.hid hb; have HX2 := Lib.hid (HCV.out _ hb).2.2; have cy0 := (HCV.out _ hb).1; have cy1 := (HCV.out _ hb).2.1; clear hb)
        | (go_at_call 19; (with_reducible refine (HAN.out _ (HB1.out.trans (HB2.out.mono HB1.out.size))).mono ?_); rintro r w3 ⟨rfl, hb⟩; have HB3 := Lib.hid (below_now HB1.out (Nat.le_refl _) (HB2.out.trans (hb.mono HB2.out.size))); clear hb))
      go_ret3
      exact ⟨rfl, HB3.out⟩
  · obtain rfl : R = N := by omega
    obtain rfl : is_ = false := by
      cases is_ with
      | false => rfl
      | true =>
        obtain ⟨e, he, _⟩ := HPL.out rfl
        have := (List.getElem?_eq_some_iff.1 he).1
        have := HNL.out
        omega
    rw [if_neg (by decide), Nat.add_zero]
    obtain ⟨k0, x0, t0, hans⟩ := ans_tuple (placeE L (R : Int))
    have HAN := Lib.hid (HAT.out · · (R : Int))
    rw [hans] at HAN ⊢
    have HCV : Hid (∀ V, Below w1.heap.size w1 V → V.cell? ⟨w.heap.size, 0, none⟩ = some (.slice a1 R c1) ∧ V.heap[w.heap.size]? = some (.cells #[.slice a1 R c1, .slice a2 R c2] 40 (0, 0))) := fun V hV =>
      ⟨cell_in ((hV.block _ (by have := HS1.out; omega)).trans HX1.out) rfl, (hV.block _ (by have := HS1.out; omega)).trans HX1.out⟩
    clear hans HPL HBA hRN
    go_enter Tryd.func15, Tryd.ntmps15
    go_upto_region 1 with fail
    clear hw1
    go_wp2_with (first
      | (refine ld_if (by rfl) 40 _ rfl w.heap.size rfl 40 _ _ _ HX1.out Tryd.underlying40 rfl refm_size ?_)
      | (refine ld_if (by rfl) 40 _ rfl w.heap.size rfl 40 _ _ _ HX2.out Tryd.underlying40 rfl refm_size ?_)
      | (go_at_call 21; (with_reducible refine (HRK.out _ HB1.out).mono ?_); rintro r w2 ⟨rfl, hb⟩; have HB2 := Lib.hid hb; have HX2 := Lib.hid (HCV.out _ hb).2; have cy0 := (HCV.out _ hb).1; clear hb)
      | (go_at_call 19; (with_reducible refine (HAN.out _ (HB1.out.trans (HB2.out.mono HB1.out.size))).mono ?_); rintro r w3 ⟨rfl, hb⟩; have HB3 := Lib.hid (below_now HB1.out (Nat.le_refl _) (HB2.out.trans (hb.mono HB2.out.size))); clear hb))
    go_ret3
    exact ⟨rfl, HB3.out⟩
set_option maxHeartbeats 4000000 in
theorem rf_Prev (w : World) (c : Array Value) (L : List Ent) (k : ByteArray) (h : RefM w c L) (hS : Short L) (hn : L.length ≤ 100000) :
    Calls Tryd.prog 17 #[.agg c, .string k] w fun r w' => r = .returned (ansE (placeE L (((belE L k).length : Nat) - 1 : Int))) ∧ Below w.heap.size w w' := by
  obtain ⟨w1, hw1⟩ : ∃ w1, w.alloc (.cells c 40) = w1 := ⟨_, rfl⟩
  obtain ⟨hb1, hx1, hs1⟩ := new_below hw1
  have HRK := Lib.hid (fun W (hb : Below w.heap.size w W) => rf_Rank W c L k (h.later hb) hS hn)
  have HAT := Lib.hid (fun W (hb : Below w.heap.size w W) => rf_At W c L (((belE L k).length : Nat) - 1 : Int) (h.later hb) hn)
  have hble := bel_le L k
  obtain ⟨k0, x0, t0, hans⟩ := ans_tuple (placeE L (((belE L k).length : Nat) - 1 : Int))
  rw [hans] at HAT ⊢
  obtain ⟨R, hR⟩ : ∃ R, R = (belE L k).length := ⟨_, rfl⟩
  rw [← hR] at HAT HRK hble
  have hR4 : (R : Int) ≤ 100000 := by omega
  have HWR : Hid (IntKind.i64.wrap ((R : Int) - 1) = (R : Int) - 1) := by show _ = _; rw [IntKind.wrap_i64]; omega
  have HX1 := Lib.hid hx1
  have HB1 := Lib.hid hb1
  have HS1 := Lib.hid hs1
  have HSZ := Lib.hid h.size
  have HKS : Hid (∀ V, Below w1.heap.size w1 V → V.heap[w.heap.size]? = some (.cells c 40 (0, 0))) := fun V hV => (hV.block _ (by have := HS1.out; omega)).trans HX1.out
  have HW : Hid (Below w1.heap.size w1 w1.drew) := drawn_below w1
  clear h hS hn hx1 hb1 hs1 hans hR hble
  go_enter Tryd.func17, Tryd.ntmps17
  go_upto_region 1 with fail
  clear hw1
  refine wp_region_T (S := (fun V => V.heap[w.heap.size]? = some (.cells c 40 (0, 0)))) [] (by kernel_rfl) (by exact HKS.out _ HW.out) (fun hHeld => ?_)
  refine wpAnyT_take (i := 0) (oi := ⟨some 7, _, _, _, _, _⟩) (v := _) rfl (by kernel_rfl) (by kernel_rfl) (by kernel_rfl) (by kernel_rfl) (fun _ _ _ h => h) (yieldsIf_load_row (by rfl) 40 _ rfl w.heap.size rfl c 40 (0, 0) _ (fun w hw => hw) Tryd.underlying40 rfl (by rw [HSZ.out]; exact refm_size)) (by assumption) ?_
  (try simp only [Act.put, List.setIfInBounds_toArray, List.set_cons_zero, List.set_cons_succ])
  refine wpAnyT_take (i := 1) (oi := ⟨some 8, _, _, _, _, _⟩) (v := _) rfl (by kernel_rfl) (by kernel_rfl) (by kernel_rfl) (by kernel_rfl) (fun _ _ _ h => h) (yieldsIf_load_row (by rfl) 40 _ rfl w.heap.size rfl c 40 (0, 0) _ (fun w hw => hw) Tryd.underlying40 rfl (by rw [HSZ.out]; exact refm_size)) (by assumption) ?_
  (try simp only [Act.put, List.setIfInBounds_toArray, List.set_cons_zero, List.set_cons_succ])
  refine wpAnyT_take (i := 2) (oi := ⟨some 9, _, _, _, _, _⟩) (v := ?vg2_2) rfl (by kernel_rfl) (by kernel_rfl) (by kernel_rfl) (by kernel_rfl) (fun _ _ _ h => h) (Or.inl ⟨by rfl, ?hg2_2⟩) (by assumption) ?rg2_2
  case hg2_2 => (intro w hSw; (try dsimp only at hSw); first | (go_simp; done) | (go_simp; with_reducible rfl))
  (try simp only [Act.put, List.setIfInBounds_toArray, List.set_cons_zero, List.set_cons_succ])
  refine wpAnyT_one (i := 3) (o := ⟨some 10, _, _, _, _, _⟩) (by kernel_rfl) rfl (fun K hK => ?_)
  go_simp
  go_at_call 21
  (with_reducible refine (HRK.out _ (by exact HB1.out.trans (HW.out.mono HB1.out.size))).mono ?_)
  rintro r w3 ⟨rfl, hb⟩
  replace HW := Lib.hid (HW.out.trans (hb.mono HW.out.size))
  clear hb
  dsimp only
  refine hK.out _ _ (by exact HKS.out _ HW.out) (fun hHeld => ?_)
  clear hK K
  (try simp only [Act.put, List.setIfInBounds_toArray, List.set_cons_zero, List.set_cons_succ])
  refine wpAnyT_take (i := 4) (oi := ⟨some 11, _, _, _, _, _⟩) (v := ?vg2_4) rfl (by kernel_rfl) (by kernel_rfl) (by kernel_rfl) (by kernel_rfl) (fun _ _ _ h => h) (Or.inl ⟨by rfl, ?hg2_4⟩) (by assumption) ?rg2_4
  case hg2_4 => (intro w hSw; (try dsimp only at hSw); first | (go_simp; done) | (go_simp; with_reducible rfl))
  (try simp only [Act.put, List.setIfInBounds_toArray, List.set_cons_zero, List.set_cons_succ])
  refine wpAnyT_one (i := 5) (o := ⟨some 12, _, _, _, _, _⟩) (by kernel_rfl) rfl (fun K hK => ?_)
  go_simp
  rw [HWR.out]
  go_at_call 19
  (with_reducible refine (HAT.out _ (by exact HB1.out.trans (HW.out.mono HB1.out.size))).mono ?_)
  rintro r w3 ⟨rfl, hb⟩
  replace HW := Lib.hid (HW.out.trans (hb.mono HW.out.size))
  clear hb
  dsimp only
  refine hK.out _ _ (by exact HKS.out _ HW.out) (fun hHeld => ?_)
  clear hK K
  (try simp only [Act.put, List.setIfInBounds_toArray, List.set_cons_zero, List.set_cons_succ])
  refine wpAnyT_take (i := 6) (oi := ⟨some 13, _, _, _, _, _⟩) (v := ?vg2_6) rfl (by kernel_rfl) (by kernel_rfl) (by kernel_rfl) (by kernel_rfl) (fun _ _ _ h => h) (Or.inl ⟨by rfl, ?hg2_6⟩) (by assumption) ?rg2_6
  case hg2_6 => (intro w hSw; (try dsimp only at hSw); first | (go_simp; done) | (go_simp; with_reducible rfl))
  (try simp only [Act.put, List.setIfInBounds_toArray, List.set_cons_zero, List.set_cons_succ])
  refine wpAnyT_take (i := 7) (oi := ⟨some 14, _, _, _, _, _⟩) (v := ?vg2_7) rfl (by kernel_rfl) (by kernel_rfl) (by kernel_rfl) (by kernel_rfl) (fun _ _ _ h => h) (Or.inl ⟨by rfl, ?hg2_7⟩) (by assumption) ?rg2_7
  case hg2_7 => (intro w hSw; (try dsimp only at hSw); first | (go_simp; done) | (go_simp; with_reducible rfl))
  (try simp only [Act.put, List.setIfInBounds_toArray, List.set_cons_zero, List.set_cons_succ])
  refine wpAnyT_take (i := 8) (oi := ⟨some 15, _, _, _, _, _⟩) (v := ?vg2_8) rfl (by kernel_rfl) (by kernel_rfl) (by kernel_rfl) (by kernel_rfl) (fun _ _ _ h => h) (Or.inl ⟨by rfl, ?hg2_8⟩) (by assumption) ?rg2_8
  case hg2_8 => (intro w hSw; (try dsimp only at hSw); first | (go_simp; done) | (go_simp; with_reducible rfl))
  (try simp only [Act.put, List.setIfInBounds_toArray, List.set_cons_zero, List.set_cons_succ])
  refine wpAnyT_take (i := 9) (oi := ⟨some 4, _, _, _, _, _⟩) (v := ?vg2_9) rfl (by kernel_rfl) (by kernel_rfl) (by kernel_rfl) (by kernel_rfl) (fun _ _ _ h => h) (Or.inl ⟨by rfl, ?hg2_9⟩) (by assumption) ?rg2_9
  case hg2_9 => (intro w hSw; (try dsimp only at hSw); first | (go_simp; done) | (go_simp; with_reducible rfl))
  (try simp only [Act.put, List.setIfInBounds_toArray, List.set_cons_zero, List.set_cons_succ])
  refine wpAnyT_take (i := 10) (oi := ⟨some 5, _, _, _, _, _⟩) (v := ?vg2_10) rfl (by kernel_rfl) (by kernel_rfl) (by kernel_rfl) (by kernel_rfl) (fun _ _ _ h => h) (Or.inl ⟨by rfl, ?hg2_10⟩) (by assumption) ?rg2_10
  case hg2_10 => (intro w hSw; (try dsimp only at hSw); first | (go_simp; done) | (go_simp; with_reducible rfl))
  (try simp only [Act.put, List.setIfInBounds_toArray, List.set_cons_zero, List.set_cons_succ])
  refine wpAnyT_take (i := 11) (oi := ⟨some 6, _, _, _, _, _⟩) (v := ?vg2_11) rfl (by kernel_rfl) (by kernel_rfl) (by kernel_rfl) (by kernel_rfl) (fun _ _ _ h => h) (Or.inl ⟨by rfl, ?hg2_11⟩) (by assumption) ?rg2_11
  case hg2_11 => (intro w hSw; (try dsimp only at hSw); first | (go_simp; done) | (go_simp; with_reducible rfl))
  (try simp only [Act.put, List.setIfInBounds_toArray, List.set_cons_zero, List.set_cons_succ])
  refine wpAnyT_done (by kernel_rfl) ?_ _
  have HB5 := Lib.hid (HB1.out.trans (HW.out.mono HB1.out.size))
  clear hHeld HKS HW
  go_wp2_with fail
  go_ret3
  exact ⟨rfl, HB5.out⟩
end Go.Proofs.YtnnlfgfgfegjkaaDoor
