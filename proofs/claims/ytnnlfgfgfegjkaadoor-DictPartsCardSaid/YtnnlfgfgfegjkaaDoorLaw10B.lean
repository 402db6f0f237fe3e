/- Layer 10's laws: same, alike. (written by tools/gen10/law10b.py) -/
import Derived.Test.YtnnlfgfgfegjkaaDoorLaw10A
namespace Go.Proofs.YtnnlfgfgfegjkaaDoor
open Go.RowKit
set_option maxRecDepth 1000000
set_option linter.unusedSimpArgs false

set_option maxHeartbeats 4000000 in
theorem same10 (w : World) (s : Nat) (hss : s < 18446744073709551616) (n : Int) (L : List Ent) (c cw : Array Value) (h : ML w s n L c) (hr : RefM w cw L) (hL : Rise L) (hS : Short L) (hn : L.length ≤ 40000) (hT : Tab6 w) :
    Calls Tryd.prog 24 #[.agg c, .agg #[.int .u64 (s : Int), .int .i64 n], .agg cw] w fun e w' => e = .returned (.bool true) ∧ Below w.heap.size w w' := by
  obtain ⟨kv, xv, rfl, hk, hx⟩ := hr
  have HLS := Lib.hid hk
  have HLI := Lib.hid hx
  obtain ⟨a1, c1, rfl, _⟩ := hk.shape
  obtain ⟨a2, c2, rfl, _⟩ := hx.shape
  rw [keysE_len, valsE_len] at *
  obtain ⟨N, hN⟩ : ∃ N, N = L.length := ⟨_, rfl⟩
  rw [← hN] at HLS HLI ⊢
  obtain ⟨w1, hw1⟩ : ∃ w1, ((w.alloc (.cells c 36)).alloc (.cells #[.int .u64 (s : Int), .int .i64 n] 24)).alloc (.cells #[.slice a1 N c1, .slice a2 N c2] 40) = w1 := ⟨_, rfl⟩
  obtain ⟨hb1, hx1, hy1, hz1, hs1⟩ := three_newG hw1
  have hln := ml_Len w s n L c h
  rw [← hN] at hln
  have HLEN := Lib.hid hln
  have HCONF := Lib.hid (ml_Conf w s n L c h)
  have HKEYS := Lib.hid (fun W (hb : Below w.heap.size w W) => ml_Keys W s n L c (h.later hb) hL (Nat.le_trans hn (by omega)) (hT.below hb))
  have HGET := Lib.hid (fun W (hb : Below w.heap.size w W) k hk => ml_Get W s hss n L c k hk (h.later hb) hL (Nat.le_trans hn (by omega)))
  have HSZ := Lib.hid h.size
  have HX1 := Lib.hid hx1
  have HY1 := Lib.hid hy1
  have HZ1 : Hid (w1.heap[w.heap.size + 1 + 1]? = some (.cells #[.slice a1 N c1, .slice a2 N c2] 40 (0, 0))) := hz1
  have HB1 := Lib.hid hb1
  have HS1 := Lib.hid hs1
  have HN := Lib.hid (And.intro hN hn)
  have HSH := Lib.hid (And.intro hL hS)
  have hn6 : (N : Int) ≤ 40000 := by omega
  have HKS : Hid (∀ V, Below w1.heap.size w1 V → V.heap[w.heap.size]? = some (.cells c 36 (0, 0)) ∧ V.heap[w.heap.size + 1]? = some (.cells #[.int .u64 (s : Int), .int .i64 n] 24 (0, 0)) ∧ V.cell? ⟨w.heap.size + 1 + 1, 0, none⟩ = some (.slice a1 N c1)) := fun V hV =>
    ⟨(hV.block _ (by have := HS1.out; omega)).trans HX1.out, (hV.block _ (by have := HS1.out; omega)).trans HY1.out, cell_in ((hV.block _ (by have := HS1.out; omega)).trans HZ1.out) rfl⟩
  have HW : Hid (Below w1.heap.size w1 w1.drew) := drawn_below w1
  clear h hk hx hL hS hn hT hx1 hy1 hz1 hb1 hs1 hN hln
  go_enter Tryd.func24, Tryd.ntmps24
  go_upto_region 1 with fail
  clear hw1
  have hnc := fun W => neq_conf s n W
  refine wp_region_T (S := (fun V => V.heap[w.heap.size]? = some (.cells c 36 (0, 0)) ∧ V.heap[w.heap.size + 1]? = some (.cells #[.int .u64 (s : Int), .int .i64 n] 24 (0, 0)) ∧ V.cell? ⟨w.heap.size + 1 + 1, 0, none⟩ = some (.slice a1 N c1))) [] (by kernel_rfl) (by exact HKS.out _ HW.out) (fun hHeld => ?_)
  refine wpAnyT_take (i := 0) (oi := ⟨some 11, _, _, _, _, _⟩) (v := _) rfl (by kernel_rfl) (by kernel_rfl) (by kernel_rfl) (by kernel_rfl) (fun _ _ _ h => h) (yieldsIf_load_row (by rfl) 36 _ rfl w.heap.size rfl c 36 (0, 0) _ (fun w hw => hw.1) Tryd.underlying36 rfl (by rw [HSZ.out]; exact map_size)) (by assumption) ?_
  (try simp only [Act.put, List.setIfInBounds_toArray, List.set_cons_zero, List.set_cons_succ])
  refine wpAnyT_take (i := 2) (oi := ⟨some 13, _, _, _, _, _⟩) (v := _) rfl (by kernel_rfl) (by kernel_rfl) (by kernel_rfl) (by kernel_rfl) (fun _ _ _ h => h) (yieldsIf_load_row (by rfl) 24 _ rfl (w.heap.size + 1) rfl #[.int .u64 (s : Int), .int .i64 n] 24 (0, 0) _ (fun w hw => hw.2.1) Tryd.underlying24 rfl (by exact api_size)) (by assumption) ?_
  (try simp only [Act.put, List.setIfInBounds_toArray, List.set_cons_zero, List.set_cons_succ])
  refine wpAnyT_one (i := 1) (o := ⟨some 12, _, _, _, _, _⟩) (by kernel_rfl) rfl (fun K hK => ?_)
  go_simp
  go_at_call 54
  (with_reducible refine (HCONF.out _).mono ?_)
  rintro r w3 ⟨rfl, hb⟩
  replace HW := Lib.hid (HW.out.trans (hb.mono HW.out.size))
  clear hb
  dsimp only
  refine hK.out _ _ (by exact HKS.out _ HW.out) (fun hHeld => ?_)
  clear hK K
  (try simp only [Act.put, List.setIfInBounds_toArray, List.set_cons_zero, List.set_cons_succ])
  refine wpAnyT_take (i := 3) (oi := ⟨some 14, _, _, _, _, _⟩) (v := ?vg1_3) rfl (by kernel_rfl) (by kernel_rfl) (by kernel_rfl) (by kernel_rfl) (fun _ _ _ h => h) (Or.inl ⟨by rfl, ?hg1_3⟩) (by assumption) ?rg1_3
  case hg1_3 => (intro w hSw; (try dsimp only at hSw); first | (go_simp; done) | (go_simp; with_reducible rfl))
  (try simp only [Act.put, List.setIfInBounds_toArray, List.set_cons_zero, List.set_cons_succ])
  refine wpAnyT_take (i := 4) (oi := ⟨some 15, _, _, _, _, _⟩) (v := ?vg1_4) rfl (by kernel_rfl) (by kernel_rfl) (by kernel_rfl) (by kernel_rfl) (fun _ _ _ h => h) (Or.inl ⟨by rfl, ?hg1_4⟩) (by assumption) ?rg1_4
  case hg1_4 => (intro w hSw; (try dsimp only at hSw); first | (go_simp; done) | (go_simp; with_reducible rfl))
  (try simp only [Act.put, List.setIfInBounds_toArray, List.set_cons_zero, List.set_cons_succ])
  refine wpAnyT_take (i := 5) (oi := ⟨some 16, _, _, _, _, _⟩) (v := _) rfl (by kernel_rfl) (by kernel_rfl) (by kernel_rfl) (by kernel_rfl) (fun _ _ _ h => h) (yieldsIf_load_row (by rfl) 36 _ rfl w.heap.size rfl c 36 (0, 0) _ (fun w hw => hw.1) Tryd.underlying36 rfl (by rw [HSZ.out]; exact map_size)) (by assumption) ?_
  (try simp only [Act.put, List.setIfInBounds_toArray, List.set_cons_zero, List.set_cons_succ])
  refine wpAnyT_take (i := 7) (oi := ⟨some 18, _, _, _, _, _⟩) (v := ?vg1_7) rfl (by kernel_rfl) (by kernel_rfl) (by kernel_rfl) (by kernel_rfl) (fun _ _ _ h => h) (Or.inl ⟨by rfl, ?hg1_7⟩) (by assumption) ?rg1_7
  case hg1_7 => (intro w hSw; (try dsimp only at hSw); first | (go_simp; done) | (go_simp; with_reducible rfl))
  (try simp only [Act.put, List.setIfInBounds_toArray, List.set_cons_zero, List.set_cons_succ])
  refine wpAnyT_take (i := 8) (oi := ⟨some 19, _, _, _, _, _⟩) (v := ?vg1_8) rfl (by kernel_rfl) (by kernel_rfl) (by kernel_rfl) (by kernel_rfl) (fun _ _ _ h => h) (Or.inl ⟨by rfl, ?hg1_8⟩) (by assumption) ?rg1_8
  case hg1_8 => (intro w hSw; (try dsimp only at hSw); first | (go_simp; done) | (go_simp; with_reducible rfl))
  (try simp only [Act.put, List.setIfInBounds_toArray, List.set_cons_zero, List.set_cons_succ])
  refine wpAnyT_one (i := 6) (o := ⟨some 17, _, _, _, _, _⟩) (by kernel_rfl) rfl (fun K hK => ?_)
  go_simp
  go_at_call 45
  (with_reducible refine (HKEYS.out _ (by exact HB1.out.trans (HW.out.mono HB1.out.size))).mono ?_)
  rintro r w3 ⟨vk, rfl, hk3, hb⟩
  have HK3 := Lib.hid hk3
  replace HW := Lib.hid (HW.out.trans (hb.mono HW.out.size))
  clear hb
  clear hk3
  dsimp only
  refine hK.out _ _ (by exact HKS.out _ HW.out) (fun hHeld => ?_)
  clear hK K
  (try simp only [Act.put, List.setIfInBounds_toArray, List.set_cons_zero, List.set_cons_succ])
  refine wpAnyT_one (i := 9) (o := ⟨some 20, _, _, _, _, _⟩) (by kernel_rfl) rfl (fun K hK => ?_)
  go_simp
  go_at_call 55
  (with_reducible refine (ref_Words9 _ _ _ _ HK3.out.cutS (HLS.out.later (by exact HB1.out.trans (HW.out.mono HB1.out.size))).cutS (by rw [keysE_len]; have := HN.out.2; omega)).mono ?_)
  rintro r w3 ⟨rfl, hb⟩
  replace HW := Lib.hid (HW.out.trans (hb.mono HW.out.size))
  clear hb
  dsimp only
  refine hK.out _ _ (by exact HKS.out _ HW.out) (fun hHeld => ?_)
  clear hK K
  (try simp only [Act.put, List.setIfInBounds_toArray, List.set_cons_zero, List.set_cons_succ])
  refine wpAnyT_take (i := 10) (oi := ⟨some 21, _, _, _, _, _⟩) (v := ?vg1_10) rfl (by kernel_rfl) (by kernel_rfl) (by kernel_rfl) (by kernel_rfl) (fun _ _ _ h => h) (Or.inl ⟨by rfl, ?hg1_10⟩) (by assumption) ?rg1_10
  case hg1_10 => (intro w hSw; (try dsimp only at hSw); first | (go_simp; done) | (go_simp; with_reducible rfl))
  (try simp only [Act.put, List.setIfInBounds_toArray, List.set_cons_zero, List.set_cons_succ])
  refine wpAnyT_take (i := 11) (oi := ⟨some 22, _, _, _, _, _⟩) (v := ?vg1_11) rfl (by kernel_rfl) (by kernel_rfl) (by kernel_rfl) (by kernel_rfl) (fun _ _ _ h => h) (Or.inl ⟨by rfl, ?hg1_11⟩) (by assumption) ?rg1_11
  case hg1_11 => (intro w hSw; (try dsimp only at hSw); first | (go_simp; done) | (go_simp; with_reducible rfl))
  (try simp only [Act.put, List.setIfInBounds_toArray, List.set_cons_zero, List.set_cons_succ])
  refine wpAnyT_done (by kernel_rfl) ?_ _
  obtain ⟨_, _, cy0⟩ := HKS.out _ HW.out
  clear hHeld hnc
  go_wp2_with fail
  clear cy0
  go_loopw [26] (fun i wl => ∃ j : Nat, i = .int .i64 (j : Int) ∧ j ≤ N ∧ Hid (Below w1.heap.size w1 wl)) (fun i _ => N - (intOf i).toNat)
  case atStart => exact ⟨0, rfl, Nat.zero_le _, HW⟩
  case round =>
    clear HW
    obtain ⟨j, rfl, hj, HBJ⟩ := hrel
    have HWJ := Lib.hid (HB1.out.trans (HBJ.out.mono HB1.out.size))
    by_cases hlt : j < N
    · have hlt' : (j : Int) < N := by omega
      have i0 : (0 : Int) ≤ (j : Int) := by omega
      have hjL : j < L.length := by rw [← HN.out.1]; exact hlt
      obtain ⟨g1, g2, rfl, rfl, hc1, hdc⟩ := refm_at (HLS.out.later HWJ.out) (HLI.out.later HWJ.out) hjL
      have hgj : getE L L[j].1 = some L[j].2 := (get_mem HSH.out.1).2 (List.getElem_mem hjL)
      have hsz := HSH.out.2 _ (List.getElem_mem hjL)
      obtain ⟨⟨ky, xy⟩, hky⟩ : ∃ e, e = L[j] := ⟨_, rfl⟩
      rw [← hky] at hc1 hgj hsz hdc
      simp only at hc1 hgj hsz hdc
      have hget := fun W (hb : Below w.heap.size w W) => HGET.out W hb ky (by omega)
      rw [hgj] at hget
      simp only [Option.getD_some, Option.isSome_some] at hget
      have HG := Lib.hid hget
      have HDC := Lib.hid hdc
      have HX8 := Lib.hid ((HBJ.out.block _ (by have := HS1.out; omega)).trans HX1.out)
      have HZ8 := Lib.hid ((HBJ.out.block _ (by have := HS1.out; omega)).trans HZ1.out)
      have cy0 : wr.cell? ⟨w.heap.size + 1 + 1, 0, none⟩ = some (.slice (some ⟨g1, 0, none⟩) N c1) := cell_in HZ8.out rfl
      have HLT := Lib.hid hlt
      clear hgj hsz hky hget hjL hdc hlt
      go_wp2_with (first
        | (refine ld_if (by rfl) 36 _ rfl w.heap.size rfl 36 _ _ _ HX8.out Tryd.underlying36 rfl (by rw [HSZ.out]; exact map_size) ?_)
        | (go_at_call 46; (with_reducible refine (HG.out _ HWJ.out).mono ?_); rintro e w3 ⟨rfl, hb3⟩; have HB3 := Lib.hid (HBJ.out.trans (hb3.mono HBJ.out.size)); have cy1 : w3.cell? ⟨w.heap.size + 1 + 1, 1, none⟩ = some (.slice (some ⟨g2, 0, none⟩) N c2) := (cell_in ((hb3.block _ (Array.getElem?_eq_some_iff.1 HZ8.out).1).trans HZ8.out) rfl); have cel := (hb3.cell (World.block_lt_of_cell? _ _ HDC.out)).trans HDC.out; clear hb3))
      go_roundw
      case rel => exact ⟨j + 1, by simp, by have := HLT.out; omega, HB3⟩
      case measure => have := HLT.out; simp [intOf]; omega
    · obtain rfl : j = N := by omega
      go_upto_region 10 with fail
      have HKS2 : Hid (∀ V, Below w1.heap.size w1 V → V.heap[w.heap.size]? = some (.cells c 36 (0, 0)) ∧ V.cell? ⟨w.heap.size + 1 + 1, 0, none⟩ = some (.slice a1 j c1)) := fun V hV => ⟨(HKS.out V hV).1, (HKS.out V hV).2.2⟩
      have HW : Hid (Below w1.heap.size w1 wr.drew) := HBJ.out.trans ((drawn_below wr).mono HBJ.out.size)
      refine wp_region_T (S := (fun V => V.heap[w.heap.size]? = some (.cells c 36 (0, 0)) ∧ V.cell? ⟨w.heap.size + 1 + 1, 0, none⟩ = some (.slice a1 j c1))) [] (by kernel_rfl) (by exact HKS2.out _ HW.out) (fun hHeld => ?_)
      refine wpAnyT_take (i := 0) (oi := ⟨some 49, _, _, _, _, _⟩) (v := _) rfl (by kernel_rfl) (by kernel_rfl) (by kernel_rfl) (by kernel_rfl) (fun _ _ _ h => h) (yieldsIf_load_row (by rfl) 36 _ rfl w.heap.size rfl c 36 (0, 0) _ (fun w hw => hw.1) Tryd.underlying36 rfl (by rw [HSZ.out]; exact map_size)) (by assumption) ?_
      (try simp only [Act.put, List.setIfInBounds_toArray, List.set_cons_zero, List.set_cons_succ])
      refine wpAnyT_take (i := 2) (oi := ⟨some 51, _, _, _, _, _⟩) (v := ?vg2_2) rfl (by kernel_rfl) (by kernel_rfl) (by kernel_rfl) (by kernel_rfl) (fun _ _ _ h => h) (Or.inl ⟨by rfl, ?hg2_2⟩) (by assumption) ?rg2_2
      case hg2_2 => (intro w hSw; (try dsimp only at hSw); first | (go_simp; done) | (go_simp; with_reducible rfl))
      (try simp only [Act.put, List.setIfInBounds_toArray, List.set_cons_zero, List.set_cons_succ])
      refine wpAnyT_take (i := 3) (oi := ⟨some 52, _, _, _, _, _⟩) (v := ?vg2_3) rfl (by kernel_rfl) (by kernel_rfl) (by kernel_rfl) (by kernel_rfl) (fun _ _ _ h => h) (Or.inl ⟨by rfl, ?hg2_3⟩) (by assumption) ?rg2_3
      case hg2_3 => (intro w hSw; (try dsimp only at hSw); first | (go_simp; done) | (go_simp; with_reducible rfl))
      (try simp only [Act.put, List.setIfInBounds_toArray, List.set_cons_zero, List.set_cons_succ])
      refine wpAnyT_take (i := 4) (oi := ⟨some 53, _, _, _, _, _⟩) (v := ?vg2_4) rfl (by kernel_rfl) (by kernel_rfl) (by kernel_rfl) (by kernel_rfl) (fun _ _ _ h => h) (Or.inl ⟨by rfl, ?hg2_4⟩) (by assumption) ?rg2_4
      case hg2_4 => (intro w hSw; (try dsimp only at hSw); first | (go_simp; done) | (go_simp; with_reducible rfl))
      (try simp only [Act.put, List.setIfInBounds_toArray, List.set_cons_zero, List.set_cons_succ])
      refine wpAnyT_one (i := 1) (o := ⟨some 50, _, _, _, _, _⟩) (by kernel_rfl) rfl (fun K hK => ?_)
      go_simp
      go_at_call 47
      (with_reducible refine (HLEN.out _).mono ?_)
      rintro r w3 ⟨rfl, hb⟩
      replace HW := Lib.hid (HW.out.trans (hb.mono HW.out.size))
      clear hb
      dsimp only
      refine hK.out _ _ (by exact HKS2.out _ HW.out) (fun hHeld => ?_)
      clear hK K
      (try simp only [Act.put, List.setIfInBounds_toArray, List.set_cons_zero, List.set_cons_succ])
      refine wpAnyT_take (i := 5) (oi := ⟨some 54, _, _, _, _, _⟩) (v := ?vg2_5) rfl (by kernel_rfl) (by kernel_rfl) (by kernel_rfl) (by kernel_rfl) (fun _ _ _ h => h) (Or.inl ⟨by rfl, ?hg2_5⟩) (by assumption) ?rg2_5
      case hg2_5 => (intro w hSw; (try dsimp only at hSw); first | (go_simp; done) | (go_simp; with_reducible rfl))
      (try simp only [Act.put, List.setIfInBounds_toArray, List.set_cons_zero, List.set_cons_succ])
      refine wpAnyT_take (i := 6) (oi := ⟨some 6, _, _, _, _, _⟩) (v := ?vg2_6) rfl (by kernel_rfl) (by kernel_rfl) (by kernel_rfl) (by kernel_rfl) (fun _ _ _ h => h) (Or.inl ⟨by rfl, ?hg2_6⟩) (by assumption) ?rg2_6
      case hg2_6 => (intro w hSw; (try dsimp only at hSw); first | (go_simp; done) | (go_simp; with_reducible rfl))
      (try simp only [Act.put, List.setIfInBounds_toArray, List.set_cons_zero, List.set_cons_succ])
      refine wpAnyT_done (by kernel_rfl) ?_ _
      clear hHeld
      go_wp2_with fail
      go_ret
      exact ⟨rfl, HB1.out.trans (HW.out.mono HB1.out.size)⟩
set_option maxHeartbeats 4000000 in
theorem alike10 (w : World) (s : Nat) (hss : s < 18446744073709551616) (n : Int) (s2 : Nat) (hss2 : s2 < 18446744073709551616) (n2 : Int) (L : List Ent) (ca cb : Array Value) (ha : ML w s n L ca) (hb : ML w s2 n2 L cb) (hL : Rise L) (hS : ∀ e ∈ L, e.1.size ≤ 9223372036854775800) (hn : L.length ≤ 40000) (hT : Tab6 w) :
    Calls Tryd.prog 44 #[.agg ca, .agg cb] w fun e w' => e = .returned (.bool true) ∧ Below w.heap.size w w' := by
  obtain ⟨N, hN⟩ : ∃ N, N = L.length := ⟨_, rfl⟩
  have hla := ml_Len w s n L ca ha
  have hlb := ml_Len w s2 n2 L cb hb
  rw [← hN] at hla hlb
  have HLA := Lib.hid hla
  have HLB := Lib.hid hlb
  obtain ⟨w1, hw1⟩ : ∃ w1, (w.alloc (.cells ca 36)).alloc (.cells cb 36) = w1 := ⟨_, rfl⟩
  obtain ⟨hb1, hx1, hy1, hs1⟩ := two_newG hw1
  have HKEYS := Lib.hid (fun W (h : Below w.heap.size w W) => ml_Keys W s n L ca (ha.later h) hL (Nat.le_trans hn (by omega)) (hT.below h))
  have HGA := Lib.hid (fun W (h : Below w.heap.size w W) k hk => ml_Get W s hss n L ca k hk (ha.later h) hL (Nat.le_trans hn (by omega)))
  have HGB := Lib.hid (fun W (h : Below w.heap.size w W) k hk => ml_Get W s2 hss2 n2 L cb k hk (hb.later h) hL (Nat.le_trans hn (by omega)))
  have HSA := Lib.hid ha.size
  have HSB := Lib.hid hb.size
  have HXA := Lib.hid hx1
  have HXB := Lib.hid hy1
  have HB := Lib.hid hb1
  have HN : Hid (N = L.length ∧ N ≤ 40000) := ⟨hN, by omega⟩
  have HRI := Lib.hid (And.intro hL hS)
  have hn6 : (N : Int) ≤ 40000 := by omega
  have HKS : Hid (∀ V, Below w1.heap.size w1 V → V.heap[w.heap.size]? = some (.cells ca 36 (0, 0)) ∧ V.heap[w.heap.size + 1]? = some (.cells cb 36 (0, 0))) := fun V hV => ⟨(hV.block _ (Array.getElem?_eq_some_iff.1 HXA.out).1).trans HXA.out, (hV.block _ (Array.getElem?_eq_some_iff.1 HXB.out).1).trans HXB.out⟩
  have HW : Hid (Below w1.heap.size w1 w1.drew) := drawn_below w1
  clear ha hb hL hS hn hT hx1 hy1 hb1 hs1 hN hla hlb
  go_enter Tryd.func44, Tryd.ntmps44
  go_upto_region 1 with fail
  clear hw1
  refine wp_region_T (S := (fun V => V.heap[w.heap.size]? = some (.cells ca 36 (0, 0)) ∧ V.heap[w.heap.size + 1]? = some (.cells cb 36 (0, 0)))) [] (by kernel_rfl) (by exact HKS.out _ HW.out) (fun hHeld => ?_)
  refine wpAnyT_take (i := 0) (oi := ⟨some 11, _, _, _, _, _⟩) (v := _) rfl (by kernel_rfl) (by kernel_rfl) (by kernel_rfl) (by kernel_rfl) (fun _ _ _ h => h) (yieldsIf_load_row (by rfl) 36 _ rfl w.heap.size rfl ca 36 (0, 0) _ (fun w hw => hw.1) Tryd.underlying36 rfl (by rw [HSA.out]; exact map_size)) (by assumption) ?_
  (try simp only [Act.put, List.setIfInBounds_toArray, List.set_cons_zero, List.set_cons_succ])
  refine wpAnyT_take (i := 2) (oi := ⟨some 13, _, _, _, _, _⟩) (v := _) rfl (by kernel_rfl) (by kernel_rfl) (by kernel_rfl) (by kernel_rfl) (fun _ _ _ h => h) (yieldsIf_load_row (by rfl) 36 _ rfl (w.heap.size + 1) rfl cb 36 (0, 0) _ (fun w hw => hw.2) Tryd.underlying36 rfl (by rw [HSB.out]; exact map_size)) (by assumption) ?_
  (try simp only [Act.put, List.setIfInBounds_toArray, List.set_cons_zero, List.set_cons_succ])
  refine wpAnyT_one (i := 1) (o := ⟨some 12, _, _, _, _, _⟩) (by kernel_rfl) rfl (fun K hK => ?_)
  go_simp
  go_at_call 47
  (with_reducible refine (HLA.out _).mono ?_)
  rintro r w3 ⟨rfl, hb⟩
  replace HW := Lib.hid (HW.out.trans (hb.mono HW.out.size))
  clear hb
  dsimp only
  refine hK.out _ _ (by exact HKS.out _ HW.out) (fun hHeld => ?_)
  clear hK K
  (try simp only [Act.put, List.setIfInBounds_toArray, List.set_cons_zero, List.set_cons_succ])
  refine wpAnyT_one (i := 3) (o := ⟨some 14, _, _, _, _, _⟩) (by kernel_rfl) rfl (fun K hK => ?_)
  go_simp
  go_at_call 47
  (with_reducible refine (HLB.out _).mono ?_)
  rintro r w3 ⟨rfl, hb⟩
  replace HW := Lib.hid (HW.out.trans (hb.mono HW.out.size))
  clear hb
  dsimp only
  refine hK.out _ _ (by exact HKS.out _ HW.out) (fun hHeld => ?_)
  clear hK K
  (try simp only [Act.put, List.setIfInBounds_toArray, List.set_cons_zero, List.set_cons_succ])
  refine wpAnyT_take (i := 4) (oi := ⟨some 15, _, _, _, _, _⟩) (v := ?vg3_4) rfl (by kernel_rfl) (by kernel_rfl) (by kernel_rfl) (by kernel_rfl) (fun _ _ _ h => h) (Or.inl ⟨by rfl, ?hg3_4⟩) (by assumption) ?rg3_4
  case hg3_4 => (intro w hSw; (try dsimp only at hSw); first | (go_simp; done) | (go_simp; with_reducible rfl))
  (try simp only [Act.put, List.setIfInBounds_toArray, List.set_cons_zero, List.set_cons_succ])
  refine wpAnyT_done (by kernel_rfl) ?_ _
  clear hHeld HKS
  replace HXA := Lib.hid ((HW.out.block _ (Array.getElem?_eq_some_iff.1 HXA.out).1).trans HXA.out)
  replace HXB := Lib.hid ((HW.out.block _ (Array.getElem?_eq_some_iff.1 HXB.out).1).trans HXB.out)
  replace HB := Lib.hid (HB.out.trans (HW.out.mono HB.out.size))
  go_wp2_with (first
    | (refine ld_if (by rfl) 36 _ rfl w.heap.size rfl 36 _ _ _ HXA.out Tryd.underlying36 rfl (by rw [HSA.out]; exact map_size) ?_)
    | (go_at_call 45; (with_reducible refine (HKEYS.out _ HB.out).mono ?_); rintro r w4 ⟨vk, rfl, hk, hb⟩; replace HXA := Lib.hid ((hb.block _ (Array.getElem?_eq_some_iff.1 HXA.out).1).trans HXA.out); replace HXB := Lib.hid ((hb.block _ (Array.getElem?_eq_some_iff.1 HXB.out).1).trans HXB.out); replace HB := Lib.hid (HB.out.trans (hb.mono HB.out.size)); have HK := Lib.hid hk.lsS; obtain ⟨ak, ck, hvk, _⟩ := hk.lsS.shape; rw [keysE_len, ← HN.out.1] at hvk; subst hvk; clear hk hb))
  go_loopw [19] (fun i wl => ∃ j : Nat, i = .int .i64 (j : Int) ∧ j ≤ N ∧ Hid (wl.heap[w.heap.size]? = some (.cells ca 36 (0, 0))) ∧ Hid (wl.heap[w.heap.size + 1]? = some (.cells cb 36 (0, 0))) ∧ Hid (LsS wl (.slice ak N ck) (keysE L)) ∧ Hid (Below w.heap.size w wl)) (fun i _ => N - (intOf i).toNat)
  case atStart => exact ⟨0, rfl, Nat.zero_le _, HXA, HXB, HK, HB⟩
  case round =>
    clear HXA HXB HK HB
    obtain ⟨j, rfl, hj, HXA, HXB, HK, HB⟩ := hrel
    by_cases hlt : j < N
    · have hlt' : (j : Int) < N := by omega
      have hjL : j < L.length := by rw [← HN.out.1]; exact hlt
      obtain ⟨g1, d1, e1, hc1⟩ := HK.out.cell (j := j) (by rw [keysE_len]; exact hjL)
      simp only [Value.slice.injEq] at e1
      obtain ⟨rfl, hd1, rfl⟩ := e1
      have hkj : (keysE L)[j]'(by rw [keysE_len]; exact hjL) = L[j].1 := by unfold keysE; rw [List.getElem_map]
      rw [hkj] at hc1
      have hgj := get_own HRI.out.1 hjL
      have hsz := HRI.out.2 _ (List.getElem_mem hjL)
      obtain ⟨⟨ky, xy⟩, hky⟩ : ∃ e, e = L[j] := ⟨_, rfl⟩
      rw [← hky] at hc1 hgj hsz
      simp only at hc1 hgj hsz
      have hga := fun W h => HGA.out W h ky hsz
      have hgb := fun W h => HGB.out W h ky hsz
      rw [hgj] at hga hgb
      simp only [Option.getD_some, Option.isSome_some] at hga hgb
      have HGA2 := Lib.hid hga
      have HGB2 := Lib.hid hgb
      have HLT := Lib.hid hlt
      clear hd1 hkj hgj hsz hky hga hgb hjL hlt
      go_wp2_with (first
        | (refine ld_if (by rfl) 36 _ rfl w.heap.size rfl 36 ca _ _ HXA.out Tryd.underlying36 rfl (by rw [HSA.out]; exact map_size) ?_)
        | (refine ld_if (by rfl) 36 _ rfl (w.heap.size + 1) rfl 36 cb _ _ HXB.out Tryd.underlying36 rfl (by rw [HSB.out]; exact map_size) ?_)
        | (go_at_call 46; (with_reducible refine (HGA2.out _ HB.out).mono ?_); rintro e w5 ⟨rfl, hb⟩; replace HXA := Lib.hid ((hb.block _ (Array.getElem?_eq_some_iff.1 HXA.out).1).trans HXA.out); replace HXB := Lib.hid ((hb.block _ (Array.getElem?_eq_some_iff.1 HXB.out).1).trans HXB.out); replace HK := Lib.hid (HK.out.later hb); replace HB := Lib.hid (HB.out.trans (hb.mono HB.out.size)); clear hb)
        | (go_at_call 46; (with_reducible refine (HGB2.out _ HB.out).mono ?_); rintro e w5 ⟨rfl, hb⟩; replace HXA := Lib.hid ((hb.block _ (Array.getElem?_eq_some_iff.1 HXA.out).1).trans HXA.out); replace HXB := Lib.hid ((hb.block _ (Array.getElem?_eq_some_iff.1 HXB.out).1).trans HXB.out); replace HK := Lib.hid (HK.out.later hb); replace HB := Lib.hid (HB.out.trans (hb.mono HB.out.size)); clear hb))
      go_roundw
      case rel => exact ⟨j + 1, by simp, by have := HLT.out; omega, HXA, HXB, HK, HB⟩
      case measure => have := HLT.out; simp [intOf]; omega
    · obtain rfl : j = N := by omega
      go_wp2_with fail
      go_ret
      exact ⟨rfl, HB.out⟩
theorem dif_short {al : Int → Int → Bool} {A B : List Ent} (hA : Short A) (hB : Short B) : ∀ c ∈ difE al A B, c.1.size ≤ 200 := fun c hc => by
  obtain ⟨h1, _, _⟩ := chgs_key hc
  unfold keysE at h1
  obtain ⟨e, he, hk⟩ := List.mem_map.1 h1
  rw [← hk]
  exact short_uni hA hB e he
theorem dif_len (al : Int → Int → Bool) {A B : List Ent} (hB : Rise B) : (difE al A B).length ≤ A.length + B.length := by
  have h1 : (difE al A B).length ≤ (keysE (uniE A B)).length := chgs_len al A B _
  have h2 := uni_len hB A
  rw [keysE_len] at h1
  omega
end Go.Proofs.YtnnlfgfgfegjkaaDoor
