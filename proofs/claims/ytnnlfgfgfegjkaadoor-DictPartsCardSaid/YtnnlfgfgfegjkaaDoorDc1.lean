/- Package dict: has, at, ranked, At, First, Last, Next, Prev, Rank. (written by tools/gen10/dc1.py) -/
import Derived.Test.YtnnlfgfgfegjkaaDoorLaw09B
import Derived.Test.YtnnlfgfgfegjkaaDoorDictPure2
import Derived.Test.YtnnlfgfgfegjkaaDoorSort
namespace Go.Proofs.YtnnlfgfgfegjkaaDoor
open Go.RowKit Go.Shelf Go.Lib Go.Sort
set_option maxRecDepth 1000000
set_option linter.unusedSimpArgs false

set_option maxHeartbeats 2000000 in
theorem dc_has (w : World) (s : Nat) (hss : s < 18446744073709551616) (n : Int) (L : List Ent) (c : Array Value) (k : ByteArray) (hk : k.size ≤ 9223372036854775800) (h : ML w s n L c) (hL : Rise L) (hn : L.length ≤ 40000) :
    Calls Tryd.prog 57 #[.agg c, .string k] w fun r w' => r = .returned (.bool (getE L k).isSome) ∧ Below w.heap.size w w' := by
  obtain ⟨w1, hw1⟩ : ∃ w1, w.alloc (.cells c 36) = w1 := ⟨_, rfl⟩
  obtain ⟨hb1, hx1, hs1⟩ := new_below hw1
  have HG := Lib.hid (ml_Get w1 s hss n L c k hk (h.later hb1) hL (Nat.le_trans hn (by omega)))
  have HX1 := Lib.hid hx1
  have HB1 := Lib.hid hb1
  have HS1 := Lib.hid hs1
  have HSZ := Lib.hid h.size
  clear h hx1 hb1 hs1 hL hn hk
  go_enter Tryd.func57, Tryd.ntmps57
  go_upto_region 1 with fail
  clear hw1
  go_wp2_with (first
    | (refine ld_if (by rfl) 36 _ rfl w.heap.size rfl 36 _ _ _ HX1.out Tryd.underlying36 rfl (by rw [HSZ.out]; exact map_size) ?_)
    | (go_at_call 46; (with_reducible refine (HG.out).mono ?_); rintro r w2 ⟨rfl, hb2⟩; have HB2 := Lib.hid (HB1.out.trans (hb2.mono HB1.out.size)); clear hb2))
  go_ret
  exact ⟨rfl, HB2.out⟩
theorem ans_in {L : List Ent} {i : Nat} (hi : i < L.length) : ansE (placeE L (i : Int)) = .tuple #[.string L[i].1, .int .i64 L[i].2, .bool true] := by
  rw [place_nat, List.getElem?_eq_getElem hi]
  rfl
set_option maxHeartbeats 4000000 in
theorem dc_at (w : World) (s : Nat) (hss : s < 18446744073709551616) (n : Int) (L : List Ent) (c : Array Value) (v : Value) (i : Int) (h : ML w s n L c) (hL : Rise L) (hn : L.length ≤ 40000) (hS : ∀ e ∈ L, e.1.size ≤ 9223372036854775800) (hv : LsS w v (keysE L)) :
    Calls Tryd.prog 52 #[.agg c, v, .int .i64 i] w fun r w' => r = .returned (ansE (placeE L i)) ∧ Below w.heap.size w w' := by
  by_cases h0 : i < 0
  · rw [place_neg L h0]
    unfold ansE
    obtain ⟨w1, hw1⟩ : ∃ w1, w.alloc (.cells c 36) = w1 := ⟨_, rfl⟩
    obtain ⟨hb1, hx1, hs1⟩ := new_below hw1
    have HX1 := Lib.hid hx1
    have HB1 := Lib.hid hb1
    have HS1 := Lib.hid hs1
    have HSZ := Lib.hid h.size
    clear h hx1 hb1 hs1 hL hn hS hv HSZ HS1 HX1
    clear hw1
    go_enter Tryd.func52, Tryd.ntmps52
    go_wp2_with fail
    go_ret3
    exact ⟨rfl, Below.newly' _ _⟩
  · obtain ⟨a, cp, hva, _⟩ := hv.shape
    rw [keysE_len] at hva
    obtain ⟨N, hN⟩ : ∃ N, N = L.length := ⟨_, rfl⟩
    rw [← hN] at hva
    by_cases h1 : (N : Int) ≤ i
    · rw [place_out L (by omega)]
      unfold ansE
      subst hva
      clear hv h hL hn hS hN
      have h0' : ¬ i < 0 := h0
      go_enter Tryd.func52, Tryd.ntmps52
      go_wp2_with fail
      go_ret3
      exact ⟨rfl, Below.newly' _ _⟩
    · obtain ⟨j, rfl⟩ : ∃ j : Nat, i = (j : Int) := ⟨i.toNat, by omega⟩
      have hj : j < L.length := by omega
      rw [ans_in hj]
      obtain ⟨g, cp', hv', hcell⟩ := hv.cell (j := j) (by rw [keysE_len]; exact hj)
      have hkj : (keysE L)[j]'(by rw [keysE_len]; exact hj) = L[j].1 := by unfold keysE; rw [List.getElem_map]
      rw [hkj] at hcell
      rw [keysE_len, ← hN] at hv'
      clear hva
      subst hv'
      have hgj := get_own hL hj
      have hsz := hS _ (List.getElem_mem hj)
      obtain ⟨⟨ky, xy⟩, hky⟩ : ∃ e, e = L[j] := ⟨_, rfl⟩
      rw [← hky] at hcell hgj hsz ⊢
      simp only at hcell hgj hsz
      have hget := fun W (hb : Below w.heap.size w W) => ml_Get W s hss n L c ky hsz (h.later hb) hL (Nat.le_trans hn (by omega))
      rw [hgj] at hget
      simp only [Option.getD_some, Option.isSome_some] at hget
      have hjN : (j : Int) < (N : Int) := by omega
      have hN4 : (N : Int) ≤ 40000 := by omega
      have i0 : (0 : Int) ≤ (j : Int) := by omega
      obtain ⟨w1, hw1⟩ : ∃ w1, w.alloc (.cells c 36) = w1 := ⟨_, rfl⟩
      obtain ⟨hb1, hx1, hs1⟩ := new_below hw1
      have hc1 : w1.cell? ⟨g, j, none⟩ = some (.string ky) := (hb1.cell (World.block_lt_of_cell? w _ hcell)).trans hcell
      have HG := Lib.hid (fun W (hb : Below w1.heap.size w1 W) => hget W (hb1.trans (hb.mono hb1.size)))
      have HC1 := Lib.hid hc1
      have HX1 := Lib.hid hx1
      have HB1 := Lib.hid hb1
      have HS1 := Lib.hid hs1
      have HSZ := Lib.hid h.size
      have HJ : Hid (¬ ((N : Int) ≤ (j : Int))) := h1
      clear h hL hn hS hv hN hcell hkj hgj hky hsz hget hx1 hb1 hs1 hc1 hj
      go_enter Tryd.func52, Tryd.ntmps52
      go_upto_region 4 with fail
      clear hw1
      have HKS : Hid (∀ V, Below w1.heap.size w1 V → V.heap[w.heap.size]? = some (.cells c 36 (0, 0)) ∧ V.cell? ⟨g, j, none⟩ = some (.string ky)) := fun V hV => ⟨(hV.block _ (by have := HS1.out; omega)).trans HX1.out, (hV.cell (World.block_lt_of_cell? w1 _ HC1.out)).trans HC1.out⟩
      have HW : Hid (Below w1.heap.size w1 w1.drew) := drawn_below w1
      refine wp_region_T (S := (fun V => V.heap[w.heap.size]? = some (.cells c 36 (0, 0)) ∧ V.cell? ⟨g, j, none⟩ = some (.string ky))) [] (by kernel_rfl) (by exact HKS.out _ HW.out) (fun hHeld => ?_)
      refine wpAnyT_take (i := 0) (oi := ⟨some 22, _, _, _, _, _⟩) (v := _) rfl (by kernel_rfl) (by kernel_rfl) (by kernel_rfl) (by kernel_rfl) (fun _ _ _ h => h) (yieldsIf_load_row (by rfl) 36 _ rfl w.heap.size rfl c 36 (0, 0) _ (fun w hw => hw.1) Tryd.underlying36 rfl (by rw [HSZ.out]; exact map_size)) (by assumption) ?_
      (try simp only [Act.put, List.setIfInBounds_toArray, List.set_cons_zero, List.set_cons_succ])
      refine wpAnyT_take (i := 1) (oi := ⟨some 23, _, _, _, _, _⟩) (v := ?vg1_1) rfl (by kernel_rfl) (by kernel_rfl) (by kernel_rfl) (by kernel_rfl) (fun _ _ _ h => h) (Or.inl ⟨by rfl, ?hg1_1⟩) (by assumption) ?rg1_1
      case hg1_1 => (intro w hSw; (try dsimp only at hSw); first | (go_simp; done) | (go_simp; with_reducible rfl))
      (try simp only [Act.put, List.setIfInBounds_toArray, List.set_cons_zero, List.set_cons_succ])
      refine wpAnyT_take (i := 2) (oi := ⟨some 24, _, _, _, _, _⟩) (v := ?vg1_2) rfl (by kernel_rfl) (by kernel_rfl) (by kernel_rfl) (by kernel_rfl) (fun _ _ _ h => h) (Or.inl ⟨by rfl, ?hg1_2⟩) (by assumption) ?rg1_2
      case hg1_2 => (intro w hSw; (try dsimp only at hSw); first | (go_simp; done) | (go_simp; with_reducible rfl))
      (try simp only [Act.put, List.setIfInBounds_toArray, List.set_cons_zero, List.set_cons_succ])
      refine wpAnyT_take (i := 3) (oi := ⟨some 25, _, _, _, _, _⟩) (v := ?vg1_3) rfl (by kernel_rfl) (by kernel_rfl) (by kernel_rfl) (by kernel_rfl) (fun _ _ _ h => h) (Or.inl ⟨by rfl, ?hg1_3⟩) (by assumption) ?rg1_3
      case hg1_3 => (intro w hSw; (try dsimp only at hSw); first | (go_simp; done) | (go_simp; with_reducible rfl))
      (try simp only [Act.put, List.setIfInBounds_toArray, List.set_cons_zero, List.set_cons_succ])
      refine wpAnyT_take (i := 4) (oi := ⟨some 26, _, _, _, _, _⟩) (v := ?vg1_4) rfl (by kernel_rfl) (by kernel_rfl) (by kernel_rfl) (by kernel_rfl) (fun _ _ _ h => h) (Or.inl ⟨by rfl, ?hg1_4⟩) (by assumption) ?rg1_4
      case hg1_4 => (intro w hSw; (try dsimp only at hSw); first | (go_simp; done) | (go_simp; with_reducible rfl))
      (try simp only [Act.put, List.setIfInBounds_toArray, List.set_cons_zero, List.set_cons_succ])
      refine wpAnyT_one (i := 5) (o := ⟨some 27, _, _, _, _, _⟩) (by kernel_rfl) rfl (fun K hK => ?_)
      go_simp
      go_at_call 46
      (with_reducible refine (HG.out _ (by exact HW.out)).mono ?_)
      rintro r w3 ⟨rfl, hb⟩
      replace HW := Lib.hid (HW.out.trans (hb.mono HW.out.size))
      clear hb
      dsimp only
      refine hK.out _ _ (by exact HKS.out _ HW.out) (fun hHeld => ?_)
      clear hK K
      (try simp only [Act.put, List.setIfInBounds_toArray, List.set_cons_zero, List.set_cons_succ])
      refine wpAnyT_take (i := 6) (oi := ⟨some 21, _, _, _, _, _⟩) (v := ?vg1_6) rfl (by kernel_rfl) (by kernel_rfl) (by kernel_rfl) (by kernel_rfl) (fun _ _ _ h => h) (Or.inl ⟨by rfl, ?hg1_6⟩) (by assumption) ?rg1_6
      case hg1_6 => (intro w hSw; (try dsimp only at hSw); first | (go_simp; done) | (go_simp; with_reducible rfl))
      (try simp only [Act.put, List.setIfInBounds_toArray, List.set_cons_zero, List.set_cons_succ])
      refine wpAnyT_take (i := 7) (oi := ⟨some 28, _, _, _, _, _⟩) (v := ?vg1_7) rfl (by kernel_rfl) (by kernel_rfl) (by kernel_rfl) (by kernel_rfl) (fun _ _ _ h => h) (Or.inl ⟨by rfl, ?hg1_7⟩) (by assumption) ?rg1_7
      case hg1_7 => (intro w hSw; (try dsimp only at hSw); first | (go_simp; done) | (go_simp; with_reducible rfl))
      (try simp only [Act.put, List.setIfInBounds_toArray, List.set_cons_zero, List.set_cons_succ])
      refine wpAnyT_take (i := 8) (oi := ⟨some 29, _, _, _, _, _⟩) (v := ?vg1_8) rfl (by kernel_rfl) (by kernel_rfl) (by kernel_rfl) (by kernel_rfl) (fun _ _ _ h => h) (Or.inl ⟨by rfl, ?hg1_8⟩) (by assumption) ?rg1_8
      case hg1_8 => (intro w hSw; (try dsimp only at hSw); first | (go_simp; done) | (go_simp; with_reducible rfl))
      (try simp only [Act.put, List.setIfInBounds_toArray, List.set_cons_zero, List.set_cons_succ])
      refine wpAnyT_take (i := 9) (oi := ⟨some 10, _, _, _, _, _⟩) (v := ?vg1_9) rfl (by kernel_rfl) (by kernel_rfl) (by kernel_rfl) (by kernel_rfl) (fun _ _ _ h => h) (Or.inl ⟨by rfl, ?hg1_9⟩) (by assumption) ?rg1_9
      case hg1_9 => (intro w hSw; (try dsimp only at hSw); first | (go_simp; done) | (go_simp; with_reducible rfl))
      (try simp only [Act.put, List.setIfInBounds_toArray, List.set_cons_zero, List.set_cons_succ])
      refine wpAnyT_take (i := 10) (oi := ⟨some 11, _, _, _, _, _⟩) (v := ?vg1_10) rfl (by kernel_rfl) (by kernel_rfl) (by kernel_rfl) (by kernel_rfl) (fun _ _ _ h => h) (Or.inl ⟨by rfl, ?hg1_10⟩) (by assumption) ?rg1_10
      case hg1_10 => (intro w hSw; (try dsimp only at hSw); first | (go_simp; done) | (go_simp; with_reducible rfl))
      (try simp only [Act.put, List.setIfInBounds_toArray, List.set_cons_zero, List.set_cons_succ])
      refine wpAnyT_done (by kernel_rfl) ?_ _
      clear hHeld
      have cg := (HKS.out _ HW.out).2
      have HB5 := Lib.hid (HB1.out.trans (HW.out.mono HB1.out.size))
      clear HKS HW
      go_wp2_with fail
      go_ret3
      exact ⟨rfl, HB5.out⟩
theorem order_lt (a b : ByteArray) : (orderS (kb a) (kb b) < 0) ↔ kb a < kb b := by
  have h := cft_neg b (a, 0)
  unfold cftK at h
  rw [decide_eq_decide] at h
  exact h
set_option maxHeartbeats 4000000 in
theorem dc_search {B : Nat} (w : World) (v : Value) (ks : List ByteArray) (k : ByteArray) (hv : Strs B v ks w) (hR : RiseK ks) (hn : ks.length ≤ 100000) :
    Calls Tryd.prog 72 #[v, .string k, .func (.func 63) #[] #[]] w fun r w' => ∃ b : Bool, r = .returned (.tuple #[.int .i64 ((ks.filter fun x => decide (kb x < kb k)).length : Nat), .bool b]) ∧ Below w.heap.size w w' := by
  obtain ⟨⟨hl, h2⟩, _⟩ := hv
  rcases h2 with ⟨rfl, h0⟩ | ⟨g, cap, cur, rfl, hB, hg, h3, h4, h5, h6⟩
  · obtain rfl : ks = [] := List.eq_nil_of_length_eq_zero h0
    refine (Any.slices_BinarySearchFunc_none Tryd.searchT none 0 (.string k) (.func (.func 63) #[] #[]) w).mono ?_
    rintro r w2 ⟨rfl, hw⟩
    refine ⟨_, rfl, ?_⟩
    first | (rw [hw]; exact Below.refl _ _) | (rw [← hw]; exact Below.refl _ _)
  · have hds : ks.toArray.size = ks.length := by simp
    have hHo : Holds Value.string w g 0 ks.toArray := fun j hj => by
      have hj' : j < ks.length := by simpa using hj
      have hu : (en enS ks)[j]? = some (Value.string ks[j]) := by rw [enS_at, List.getElem?_eq_getElem hj']; rfl
      refine ⟨?_, by simp [World.frozen?, hg]⟩
      rw [Nat.zero_add, getElem!_pos ks.toArray j hj]
      refine cell_in hg ?_
      rw [← h6, List.getElem?_take_of_lt (by omega), Array.getElem?_toList] at hu
      exact hu
    have hcmp : CmpLaysT Tryd.prog 63 #[] Value.string (.string k) (fun q => orderS (kb q) (kb k)) g 0 ks.toArray.size w := fun m os dk _ x => by
      refine (q_Order x k _).mono ?_
      rintro r w' ⟨rfl, rfl⟩
      exact ⟨rfl, 0, #[], by rw [grow_empty]; rfl⟩
    have eg : ∀ args w, (callFunc 63 args).run Tryd.prog w = .ok (.enter 63 args) w := enters_of Tryd.func63 (by kernel_rfl) rfl
    have hneg : ∀ q : ByteArray, decide (orderS (kb q) (kb k) < 0) = decide (kb q < kb k) := fun q => decide_eq_decide.2 (order_lt q k)
    have hmono : ∀ a b, a ≤ b → b < ks.toArray.size → orderS (kb ks.toArray[b]!) (kb k) < 0 → orderS (kb ks.toArray[a]!) (kb k) < 0 := fun a b hab hb hlt => by
      have hb' : b < ks.length := by simpa using hb
      rw [getElem!_pos ks.toArray b hb] at hlt
      rw [getElem!_pos ks.toArray a (by omega)]
      have h1 : kb ks[b] < kb k := (order_lt ks[b] k).1 hlt
      have h2 : kb ks[a] < kb k := by
        rcases Nat.lt_or_ge a b with h | h
        · exact List.lt_trans (List.pairwise_iff_getElem.1 hR a b (by omega) hb' h) h1
        · obtain rfl : a = b := by omega
          exact h1
      exact (order_lt ks[a] k).2 h2
    have hcon := Any.slices_BinarySearchFunc Tryd.searchT Value.string (fun _ => rfl) (.string k) (fun q => orderS (kb q) (kb k)) 63 #[] g 0 cap ks.toArray w eg hcmp hHo (Array.getElem?_eq_some_iff.1 hg).1 (by rw [hds]; omega) hmono
    change Calls Tryd.prog 72 _ _ _ at hcon
    rw [hds] at hcon
    have hc : ks.toArray.toList.countP (fun x => decide (orderS (kb x) (kb k) < 0)) = (ks.filter fun x => decide (kb x < kb k)).length := by
      rw [List.toList_toArray, List.countP_eq_length_filter]
      congr 2
      funext e
      exact hneg e
    rw [hc] at hcon
    refine hcon.mono ?_
    rintro r w2 ⟨rfl, m, os, hw⟩
    exact ⟨_, rfl, by rw [hw]; exact sw_same _ w g 0 m ks.toArray os hHo⟩
theorem keys_bel (L : List Ent) (k : ByteArray) : ((keysE L).filter fun x => decide (kb x < kb k)).length = (belE L k).length := by
  unfold keysE belE
  rw [List.filter_map, List.length_map]
  rfl
set_option maxHeartbeats 4000000 in
theorem dc_ranked (w : World) (s : Nat) (n : Int) (L : List Ent) (c : Array Value) (k : ByteArray) (h : ML w s n L c) (hL : Rise L) (hn : L.length ≤ 40000) (hT : Tab6 w) :
    Calls Tryd.prog 51 #[.agg c, .string k] w fun r w' => ∃ v, r = .returned (.tuple #[v, .int .i64 ((belE L k).length : Nat)]) ∧ Strs w.heap.size v (keysE L) w' ∧ Below w.heap.size w w' := by
  obtain ⟨w1, hw1⟩ : ∃ w1, w.alloc (.cells c 36) = w1 := ⟨_, rfl⟩
  obtain ⟨hb1, hx1, hs1⟩ := new_below hw1
  have HK := Lib.hid (ml_Keys w1 s n L c (h.later hb1) hL (Nat.le_trans hn (by omega)) (hT.below hb1))
  have HSR := Lib.hid (fun W v (hv : Strs w1.heap.size v (keysE L) W) => dc_search W v (keysE L) k hv hL.keys (by rw [keysE_len]; omega))
  rw [keys_bel] at HSR
  obtain ⟨R, hR⟩ : ∃ R, R = (belE L k).length := ⟨_, rfl⟩
  rw [← hR] at HSR ⊢
  have HX1 := Lib.hid hx1
  have HB1 := Lib.hid hb1
  have HS1 := Lib.hid hs1
  have HSZ := Lib.hid h.size
  clear h hx1 hb1 hs1 hL hn hT hR
  go_enter Tryd.func51, Tryd.ntmps51
  go_upto_region 1 with fail
  clear hw1
  go_wp2_with (first
    | (refine ld_if (by rfl) 36 _ rfl w.heap.size rfl 36 _ _ _ HX1.out Tryd.underlying36 rfl (by rw [HSZ.out]; exact map_size) ?_)
    | (go_at_call 45; (with_reducible refine (HK.out).mono ?_); rintro r w2 ⟨v2, rfl, hk2, hb2⟩; have HV2 := Lib.hid hk2; have HB2 := Lib.hid (HB1.out.trans (hb2.mono HB1.out.size)); clear hk2 hb2)
    | (go_at_call 72; (with_reducible refine (HSR.out _ _ HV2.out).mono ?_); rintro r w3 ⟨bb, rfl, hb3⟩; have HV3 := Lib.hid (HV2.out.later hb3); have HB3 := Lib.hid (HB2.out.trans (hb3.mono HB2.out.size)); clear hb3))
  go_ret2
  exact ⟨_, rfl, HV3.out.low HB1.out.size, HB3.out⟩
theorem ans_tuple (o : Option Ent) : ∃ (k : ByteArray) (x : Int) (t : Bool), ansE o = .tuple #[.string k, .int .i64 x, .bool t] := by
  cases o with
  | none => exact ⟨_, _, _, rfl⟩
  | some e => exact ⟨_, _, _, rfl⟩
set_option maxHeartbeats 4000000 in
theorem dc_At (w : World) (s : Nat) (hss : s < 18446744073709551616) (n : Int) (L : List Ent) (c : Array Value) (i : Int) (h : ML w s n L c) (hL : Rise L) (hn : L.length ≤ 40000) (hS : ∀ e ∈ L, e.1.size ≤ 9223372036854775800) (hT : Tab6 w) :
    Calls Tryd.prog 18 #[.agg c, .int .i64 i] w fun r w' => r = .returned (ansE (placeE L i)) ∧ Below w.heap.size w w' := by
  obtain ⟨w1, hw1⟩ : ∃ w1, w.alloc (.cells c 36) = w1 := ⟨_, rfl⟩
  obtain ⟨hb1, hx1, hs1⟩ := new_below hw1
  have HK := Lib.hid (fun W (hb : Below w1.heap.size w1 W) => ml_Keys W s n L c (h.later (hb1.trans (hb.mono hb1.size))) hL (Nat.le_trans hn (by omega)) (hT.below (hb1.trans (hb.mono hb1.size))))
  have HAT := Lib.hid (fun W (hb : Below w1.heap.size w1 W) v hv => dc_at W s hss n L c v i (h.later (hb1.trans (hb.mono hb1.size))) hL hn hS hv)
  obtain ⟨k0, x0, t0, hans⟩ := ans_tuple (placeE L i)
  rw [hans] at HAT ⊢
  have HX1 := Lib.hid hx1
  have HB1 := Lib.hid hb1
  have HS1 := Lib.hid hs1
  have HSZ := Lib.hid h.size
  clear h hx1 hb1 hs1 hL hn hT hS hans
  have HKS : Hid (∀ V, Below w1.heap.size w1 V → V.heap[w.heap.size]? = some (.cells c 36 (0, 0))) := fun V hV => (hV.block _ (by have := HS1.out; omega)).trans HX1.out
  have HW : Hid (Below w1.heap.size w1 w1.drew) := drawn_below w1
  go_enter Tryd.func18, Tryd.ntmps18
  go_upto_region 1 with fail
  clear hw1
  refine wp_region_T (S := (fun V => V.heap[w.heap.size]? = some (.cells c 36 (0, 0)))) [] (by kernel_rfl) (by exact HKS.out _ HW.out) (fun hHeld => ?_)
  refine wpAnyT_take (i := 0) (oi := ⟨some 7, _, _, _, _, _⟩) (v := _) rfl (by kernel_rfl) (by kernel_rfl) (by kernel_rfl) (by kernel_rfl) (fun _ _ _ h => h) (yieldsIf_load_row (by rfl) 36 _ rfl w.heap.size rfl c 36 (0, 0) _ (fun w hw => hw) Tryd.underlying36 rfl (by rw [HSZ.out]; exact map_size)) (by assumption) ?_
  (try simp only [Act.put, List.setIfInBounds_toArray, List.set_cons_zero, List.set_cons_succ])
  refine wpAnyT_take (i := 1) (oi := ⟨some 8, _, _, _, _, _⟩) (v := _) rfl (by kernel_rfl) (by kernel_rfl) (by kernel_rfl) (by kernel_rfl) (fun _ _ _ h => h) (yieldsIf_load_row (by rfl) 36 _ rfl w.heap.size rfl c 36 (0, 0) _ (fun w hw => hw) Tryd.underlying36 rfl (by rw [HSZ.out]; exact map_size)) (by assumption) ?_
  (try simp only [Act.put, List.setIfInBounds_toArray, List.set_cons_zero, List.set_cons_succ])
  refine wpAnyT_take (i := 3) (oi := ⟨some 10, _, _, _, _, _⟩) (v := ?vg2_3) rfl (by kernel_rfl) (by kernel_rfl) (by kernel_rfl) (by kernel_rfl) (fun _ _ _ h => h) (Or.inl ⟨by rfl, ?hg2_3⟩) (by assumption) ?rg2_3
  case hg2_3 => (intro w hSw; (try dsimp only at hSw); first | (go_simp; done) | (go_simp; with_reducible rfl))
  (try simp only [Act.put, List.setIfInBounds_toArray, List.set_cons_zero, List.set_cons_succ])
  refine wpAnyT_one (i := 2) (o := ⟨some 9, _, _, _, _, _⟩) (by kernel_rfl) rfl (fun K hK => ?_)
  go_simp
  go_at_call 45
  (with_reducible refine (HK.out _ (by exact HW.out)).mono ?_)
  rintro r w3 ⟨v3, rfl, hk3, hb⟩
  have HV3 := Lib.hid hk3.lsS
  replace HW := Lib.hid (HW.out.trans (hb.mono HW.out.size))
  clear hk3 hb
  dsimp only
  refine hK.out _ _ (by exact HKS.out _ HW.out) (fun hHeld => ?_)
  clear hK K
  (try simp only [Act.put, List.setIfInBounds_toArray, List.set_cons_zero, List.set_cons_succ])
  refine wpAnyT_one (i := 4) (o := ⟨some 11, _, _, _, _, _⟩) (by kernel_rfl) rfl (fun K hK => ?_)
  go_simp
  go_at_call 52
  (with_reducible refine (HAT.out _ (by exact HW.out) _ HV3.out).mono ?_)
  rintro r w3 ⟨rfl, hb⟩
  replace HW := Lib.hid (HW.out.trans (hb.mono HW.out.size))
  clear hb
  dsimp only
  refine hK.out _ _ (by exact HKS.out _ HW.out) (fun hHeld => ?_)
  clear hK K
  (try simp only [Act.put, List.setIfInBounds_toArray, List.set_cons_zero, List.set_cons_succ])
  refine wpAnyT_take (i := 5) (oi := ⟨some 12, _, _, _, _, _⟩) (v := ?vg2_5) rfl (by kernel_rfl) (by kernel_rfl) (by kernel_rfl) (by kernel_rfl) (fun _ _ _ h => h) (Or.inl ⟨by rfl, ?hg2_5⟩) (by assumption) ?rg2_5
  case hg2_5 => (intro w hSw; (try dsimp only at hSw); first | (go_simp; done) | (go_simp; with_reducible rfl))
  (try simp only [Act.put, List.setIfInBounds_toArray, List.set_cons_zero, List.set_cons_succ])
  refine wpAnyT_take (i := 6) (oi := ⟨some 13, _, _, _, _, _⟩) (v := ?vg2_6) rfl (by kernel_rfl) (by kernel_rfl) (by kernel_rfl) (by kernel_rfl) (fun _ _ _ h => h) (Or.inl ⟨by rfl, ?hg2_6⟩) (by assumption) ?rg2_6
  case hg2_6 => (intro w hSw; (try dsimp only at hSw); first | (go_simp; done) | (go_simp; with_reducible rfl))
  (try simp only [Act.put, List.setIfInBounds_toArray, List.set_cons_zero, List.set_cons_succ])
  refine wpAnyT_take (i := 7) (oi := ⟨some 14, _, _, _, _, _⟩) (v := ?vg2_7) rfl (by kernel_rfl) (by kernel_rfl) (by kernel_rfl) (by kernel_rfl) (fun _ _ _ h => h) (Or.inl ⟨by rfl, ?hg2_7⟩) (by assumption) ?rg2_7
  case hg2_7 => (intro w hSw; (try dsimp only at hSw); first | (go_simp; done) | (go_simp; with_reducible rfl))
  (try simp only [Act.put, List.setIfInBounds_toArray, List.set_cons_zero, List.set_cons_succ])
  refine wpAnyT_take (i := 8) (oi := ⟨some 4, _, _, _, _, _⟩) (v := ?vg2_8) rfl (by kernel_rfl) (by kernel_rfl) (by kernel_rfl) (by kernel_rfl) (fun _ _ _ h => h) (Or.inl ⟨by rfl, ?hg2_8⟩) (by assumption) ?rg2_8
  case hg2_8 => (intro w hSw; (try dsimp only at hSw); first | (go_simp; done) | (go_simp; with_reducible rfl))
  (try simp only [Act.put, List.setIfInBounds_toArray, List.set_cons_zero, List.set_cons_succ])
  refine wpAnyT_take (i := 9) (oi := ⟨some 5, _, _, _, _, _⟩) (v := ?vg2_9) rfl (by kernel_rfl) (by kernel_rfl) (by kernel_rfl) (by kernel_rfl) (fun _ _ _ h => h) (Or.inl ⟨by rfl, ?hg2_9⟩) (by assumption) ?rg2_9
  case hg2_9 => (intro w hSw; (try dsimp only at hSw); first | (go_simp; done) | (go_simp; with_reducible rfl))
  (try simp only [Act.put, List.setIfInBounds_toArray, List.set_cons_zero, List.set_cons_succ])
  refine wpAnyT_take (i := 10) (oi := ⟨some 6, _, _, _, _, _⟩) (v := ?vg2_10) rfl (by kernel_rfl) (by kernel_rfl) (by kernel_rfl) (by kernel_rfl) (fun _ _ _ h => h) (Or.inl ⟨by rfl, ?hg2_10⟩) (by assumption) ?rg2_10
  case hg2_10 => (intro w hSw; (try dsimp only at hSw); first | (go_simp; done) | (go_simp; with_reducible rfl))
  (try simp only [Act.put, List.setIfInBounds_toArray, List.set_cons_zero, List.set_cons_succ])
  refine wpAnyT_done (by kernel_rfl) ?_ _
  have HB5 := Lib.hid (HB1.out.trans (HW.out.mono HB1.out.size))
  clear hHeld HKS HW
  go_wp2_with fail
  go_ret3
  exact ⟨rfl, HB5.out⟩
set_option maxHeartbeats 4000000 in
theorem dc_First (w : World) (s : Nat) (hss : s < 18446744073709551616) (n : Int) (L : List Ent) (c : Array Value) (h : ML w s n L c) (hL : Rise L) (hn : L.length ≤ 40000) (hS : ∀ e ∈ L, e.1.size ≤ 9223372036854775800) (hT : Tab6 w) :
    Calls Tryd.prog 22 #[.agg c] w fun r w' => r = .returned (ansE (placeE L 0)) ∧ Below w.heap.size w w' := by
  obtain ⟨w1, hw1⟩ : ∃ w1, w.alloc (.cells c 36) = w1 := ⟨_, rfl⟩
  obtain ⟨hb1, hx1, hs1⟩ := new_below hw1
  have HAT := Lib.hid (dc_At w1 s hss n L c 0 (h.later hb1) hL hn hS (hT.below hb1))
  obtain ⟨k0, x0, t0, hans⟩ := ans_tuple (placeE L 0)
  rw [hans] at HAT ⊢
  have HX1 := Lib.hid hx1
  have HB1 := Lib.hid hb1
  have HS1 := Lib.hid hs1
  have HSZ := Lib.hid h.size
  clear h hx1 hb1 hs1 hL hn hT hS hans
  go_enter Tryd.func22, Tryd.ntmps22
  go_upto_region 1 with fail
  clear hw1
  go_wp2_with (first
    | (refine ld_if (by rfl) 36 _ rfl w.heap.size rfl 36 _ _ _ HX1.out Tryd.underlying36 rfl (by rw [HSZ.out]; exact map_size) ?_)
    | (go_at_call 18; (with_reducible refine (HAT.out).mono ?_); rintro r w2 ⟨rfl, hb2⟩; have HB2 := Lib.hid (HB1.out.trans (hb2.mono HB1.out.size)); clear hb2))
  go_ret3
  exact ⟨rfl, HB2.out⟩
set_option maxHeartbeats 4000000 in
theorem dc_Last (w : World) (s : Nat) (hss : s < 18446744073709551616) (n : Int) (L : List Ent) (c : Array Value) (h : ML w s n L c) (hL : Rise L) (hn : L.length ≤ 40000) (hS : ∀ e ∈ L, e.1.size ≤ 9223372036854775800) (hT : Tab6 w) :
    Calls Tryd.prog 23 #[.agg c] w fun r w' => r = .returned (ansE (placeE L ((L.length : Int) - 1))) ∧ Below w.heap.size w w' := by
  obtain ⟨w1, hw1⟩ : ∃ w1, w.alloc (.cells c 36) = w1 := ⟨_, rfl⟩
  obtain ⟨hb1, hx1, hs1⟩ := new_below hw1
  have HLN := Lib.hid (ml_Len w s n L c h)
  have HAT := Lib.hid (fun W (hb : Below w1.heap.size w1 W) => dc_At W s hss n L c ((L.length : Int) - 1) (h.later (hb1.trans (hb.mono hb1.size))) hL hn hS (hT.below (hb1.trans (hb.mono hb1.size))))
  obtain ⟨k0, x0, t0, hans⟩ := ans_tuple (placeE L ((L.length : Int) - 1))
  rw [hans] at HAT ⊢
  obtain ⟨N, hN⟩ : ∃ N, N = L.length := ⟨_, rfl⟩
  rw [← hN] at HAT HLN
  have hN4 : (N : Int) ≤ 40000 := by omega
  have HWR : Hid (IntKind.i64.wrap ((N : Int) - 1) = (N : Int) - 1) := by show _ = _; rw [IntKind.wrap_i64]; omega
  have HX1 := Lib.hid hx1
  have HB1 := Lib.hid hb1
  have HS1 := Lib.hid hs1
  have HSZ := Lib.hid h.size
  clear h hx1 hb1 hs1 hL hn hT hS hans hN
  have HKS : Hid (∀ V, Below w1.heap.size w1 V → V.heap[w.heap.size]? = some (.cells c 36 (0, 0))) := fun V hV => (hV.block _ (by have := HS1.out; omega)).trans HX1.out
  have HW : Hid (Below w1.heap.size w1 w1.drew) := drawn_below w1
  go_enter Tryd.func23, Tryd.ntmps23
  go_upto_region 1 with fail
  clear hw1
  refine wp_region_T (S := (fun V => V.heap[w.heap.size]? = some (.cells c 36 (0, 0)))) [] (by kernel_rfl) (by exact HKS.out _ HW.out) (fun hHeld => ?_)
  refine wpAnyT_take (i := 0) (oi := ⟨some 5, _, _, _, _, _⟩) (v := _) rfl (by kernel_rfl) (by kernel_rfl) (by kernel_rfl) (by kernel_rfl) (fun _ _ _ h => h) (yieldsIf_load_row (by rfl) 36 _ rfl w.heap.size rfl c 36 (0, 0) _ (fun w hw => hw) Tryd.underlying36 rfl (by rw [HSZ.out]; exact map_size)) (by assumption) ?_
  (try simp only [Act.put, List.setIfInBounds_toArray, List.set_cons_zero, List.set_cons_succ])
  refine wpAnyT_take (i := 1) (oi := ⟨some 6, _, _, _, _, _⟩) (v := _) rfl (by kernel_rfl) (by kernel_rfl) (by kernel_rfl) (by kernel_rfl) (fun _ _ _ h => h) (yieldsIf_load_row (by rfl) 36 _ rfl w.heap.size rfl c 36 (0, 0) _ (fun w hw => hw) Tryd.underlying36 rfl (by rw [HSZ.out]; exact map_size)) (by assumption) ?_
  (try simp only [Act.put, List.setIfInBounds_toArray, List.set_cons_zero, List.set_cons_succ])
  refine wpAnyT_one (i := 2) (o := ⟨some 7, _, _, _, _, _⟩) (by kernel_rfl) rfl (fun K hK => ?_)
  go_simp
  go_at_call 47
  (with_reducible refine (HLN.out _).mono ?_)
  rintro r w3 ⟨rfl, hb⟩
  replace HW := Lib.hid (HW.out.trans (hb.mono HW.out.size))
  clear hb
  dsimp only
  refine hK.out _ _ (by exact HKS.out _ HW.out) (fun hHeld => ?_)
  clear hK K
  (try simp only [Act.put, List.setIfInBounds_toArray, List.set_cons_zero, List.set_cons_succ])
  refine wpAnyT_take (i := 3) (oi := ⟨some 8, _, _, _, _, _⟩) (v := ?vg3_3) rfl (by kernel_rfl) (by kernel_rfl) (by kernel_rfl) (by kernel_rfl) (fun _ _ _ h => h) (Or.inl ⟨by rfl, ?hg3_3⟩) (by assumption) ?rg3_3
  case hg3_3 => (intro w hSw; (try dsimp only at hSw); first | (go_simp; done) | (go_simp; with_reducible rfl))
  (try simp only [Act.put, List.setIfInBounds_toArray, List.set_cons_zero, List.set_cons_succ])
  refine wpAnyT_one (i := 4) (o := ⟨some 9, _, _, _, _, _⟩) (by kernel_rfl) rfl (fun K hK => ?_)
  go_simp
  rw [HWR.out]
  go_at_call 18
  (with_reducible refine (HAT.out _ (by exact HW.out)).mono ?_)
  rintro r w3 ⟨rfl, hb⟩
  replace HW := Lib.hid (HW.out.trans (hb.mono HW.out.size))
  clear hb
  dsimp only
  refine hK.out _ _ (by exact HKS.out _ HW.out) (fun hHeld => ?_)
  clear hK K
  (try simp only [Act.put, List.setIfInBounds_toArray, List.set_cons_zero, List.set_cons_succ])
  refine wpAnyT_take (i := 5) (oi := ⟨some 10, _, _, _, _, _⟩) (v := ?vg3_5) rfl (by kernel_rfl) (by kernel_rfl) (by kernel_rfl) (by kernel_rfl) (fun _ _ _ h => h) (Or.inl ⟨by rfl, ?hg3_5⟩) (by assumption) ?rg3_5
  case hg3_5 => (intro w hSw; (try dsimp only at hSw); first | (go_simp; done) | (go_simp; with_reducible rfl))
  (try simp only [Act.put, List.setIfInBounds_toArray, List.set_cons_zero, List.set_cons_succ])
  refine wpAnyT_take (i := 6) (oi := ⟨some 11, _, _, _, _, _⟩) (v := ?vg3_6) rfl (by kernel_rfl) (by kernel_rfl) (by kernel_rfl) (by kernel_rfl) (fun _ _ _ h => h) (Or.inl ⟨by rfl, ?hg3_6⟩) (by assumption) ?rg3_6
  case hg3_6 => (intro w hSw; (try dsimp only at hSw); first | (go_simp; done) | (go_simp; with_reducible rfl))
  (try simp only [Act.put, List.setIfInBounds_toArray, List.set_cons_zero, List.set_cons_succ])
  refine wpAnyT_take (i := 7) (oi := ⟨some 12, _, _, _, _, _⟩) (v := ?vg3_7) rfl (by kernel_rfl) (by kernel_rfl) (by kernel_rfl) (by kernel_rfl) (fun _ _ _ h => h) (Or.inl ⟨by rfl, ?hg3_7⟩) (by assumption) ?rg3_7
  case hg3_7 => (intro w hSw; (try dsimp only at hSw); first | (go_simp; done) | (go_simp; with_reducible rfl))
  (try simp only [Act.put, List.setIfInBounds_toArray, List.set_cons_zero, List.set_cons_succ])
  refine wpAnyT_take (i := 8) (oi := ⟨some 2, _, _, _, _, _⟩) (v := ?vg3_8) rfl (by kernel_rfl) (by kernel_rfl) (by kernel_rfl) (by kernel_rfl) (fun _ _ _ h => h) (Or.inl ⟨by rfl, ?hg3_8⟩) (by assumption) ?rg3_8
  case hg3_8 => (intro w hSw; (try dsimp only at hSw); first | (go_simp; done) | (go_simp; with_reducible rfl))
  (try simp only [Act.put, List.setIfInBounds_toArray, List.set_cons_zero, List.set_cons_succ])
  refine wpAnyT_take (i := 9) (oi := ⟨some 3, _, _, _, _, _⟩) (v := ?vg3_9) rfl (by kernel_rfl) (by kernel_rfl) (by kernel_rfl) (by kernel_rfl) (fun _ _ _ h => h) (Or.inl ⟨by rfl, ?hg3_9⟩) (by assumption) ?rg3_9
  case hg3_9 => (intro w hSw; (try dsimp only at hSw); first | (go_simp; done) | (go_simp; with_reducible rfl))
  (try simp only [Act.put, List.setIfInBounds_toArray, List.set_cons_zero, List.set_cons_succ])
  refine wpAnyT_take (i := 10) (oi := ⟨some 4, _, _, _, _, _⟩) (v := ?vg3_10) rfl (by kernel_rfl) (by kernel_rfl) (by kernel_rfl) (by kernel_rfl) (fun _ _ _ h => h) (Or.inl ⟨by rfl, ?hg3_10⟩) (by assumption) ?rg3_10
  case hg3_10 => (intro w hSw; (try dsimp only at hSw); first | (go_simp; done) | (go_simp; with_reducible rfl))
  (try simp only [Act.put, List.setIfInBounds_toArray, List.set_cons_zero, List.set_cons_succ])
  refine wpAnyT_done (by kernel_rfl) ?_ _
  have HB5 := Lib.hid (HB1.out.trans (HW.out.mono HB1.out.size))
  clear hHeld HKS HW
  go_wp2_with fail
  go_ret3
  exact ⟨rfl, HB5.out⟩
set_option maxHeartbeats 4000000 in
theorem dc_Next (w : World) (s : Nat) (hss : s < 18446744073709551616) (n : Int) (L : List Ent) (c : Array Value) (k : ByteArray) (hk : k.size ≤ 100000) (h : ML w s n L c) (hL : Rise L) (hn : L.length ≤ 40000) (hS : ∀ e ∈ L, e.1.size ≤ 9223372036854775800) (hT : Tab6 w) :
    Calls Tryd.prog 14 #[.agg c, .string k] w fun r w' => r = .returned (ansE (placeE L ((belE L (behind k)).length : Nat))) ∧ Below w.heap.size w w' := by
  obtain ⟨w1, hw1⟩ : ∃ w1, w.alloc (.cells c 36) = w1 := ⟨_, rfl⟩
  obtain ⟨hb1, hx1, hs1⟩ := new_below hw1
  have HRK := Lib.hid (dc_ranked w1 s n L c (behind k) (h.later hb1) hL hn (hT.below hb1))
  have HAT := Lib.hid (fun W (hb : Below w1.heap.size w1 W) v hv => dc_at W s hss n L c v ((belE L (behind k)).length : Nat) (h.later (hb1.trans (hb.mono hb1.size))) hL hn hS hv)
  obtain ⟨k0, x0, t0, hans⟩ := ans_tuple (placeE L ((belE L (behind k)).length : Nat))
  rw [hans] at HAT ⊢
  obtain ⟨R, hR⟩ : ∃ R, R = (belE L (behind k)).length := ⟨_, rfl⟩
  rw [← hR] at HAT HRK
  have hR4 : (R : Int) ≤ 40000 := by have := bel_le L (behind k); omega
  have hka : ¬ 9223372036854775807 < (k.size : Int) + 1 := by omega
  have HX1 := Lib.hid hx1
  have HB1 := Lib.hid hb1
  have HS1 := Lib.hid hs1
  have HSZ := Lib.hid h.size
  clear h hx1 hb1 hs1 hL hn hT hS hans hR
  go_enter Tryd.func14, Tryd.ntmps14
  go_upto_region 1 with fail
  clear hw1
  go_wp2_with (first
    | (refine ld_if (by rfl) 36 _ rfl w.heap.size rfl 36 _ _ _ HX1.out Tryd.underlying36 rfl (by rw [HSZ.out]; exact map_size) ?_)
    | (refine ld_if (by rfl) 36 _ rfl w.heap.size rfl 36 _ _ _ HX2.out Tryd.underlying36 rfl (by rw [HSZ.out]; exact map_size) ?_)
    | (go_at_call 51; (with_reducible refine (HRK.out).mono ?_); rintro r w2 ⟨v2, rfl, hk2, hb2⟩; have HV2 := Lib.hid hk2.lsS; have HX2 := Lib.hid ((hb2.block _ (by have := HS1.out; omega)).trans HX1.out); have HB2 := Lib.hid hb2; clear hk2 hb2)
    | (go_at_call 52; (with_reducible refine (HAT.out _ HB2.out _ HV2.out).mono ?_); rintro r w3 ⟨rfl, hb3⟩; have HB3 := Lib.hid (HB1.out.trans ((HB2.out.trans (hb3.mono HB2.out.size)).mono HB1.out.size)); clear hb3))
  go_ret3
  exact ⟨rfl, HB3.out⟩
set_option maxHeartbeats 4000000 in
theorem dc_Prev (w : World) (s : Nat) (hss : s < 18446744073709551616) (n : Int) (L : List Ent) (c : Array Value) (k : ByteArray) (h : ML w s n L c) (hL : Rise L) (hn : L.length ≤ 40000) (hS : ∀ e ∈ L, e.1.size ≤ 9223372036854775800) (hT : Tab6 w) :
    Calls Tryd.prog 16 #[.agg c, .string k] w fun r w' => r = .returned (ansE (placeE L (((belE L k).length : Nat) - 1 : Int))) ∧ Below w.heap.size w w' := by
  obtain ⟨w1, hw1⟩ : ∃ w1, w.alloc (.cells c 36) = w1 := ⟨_, rfl⟩
  obtain ⟨hb1, hx1, hs1⟩ := new_below hw1
  have HRK := Lib.hid (dc_ranked w1 s n L c k (h.later hb1) hL hn (hT.below hb1))
  have HAT := Lib.hid (fun W (hb : Below w1.heap.size w1 W) v hv => dc_at W s hss n L c v (((belE L k).length : Nat) - 1 : Int) (h.later (hb1.trans (hb.mono hb1.size))) hL hn hS hv)
  obtain ⟨k0, x0, t0, hans⟩ := ans_tuple (placeE L (((belE L k).length : Nat) - 1 : Int))
  rw [hans] at HAT ⊢
  obtain ⟨R, hR⟩ : ∃ R, R = (belE L k).length := ⟨_, rfl⟩
  rw [← hR] at HAT HRK
  have hR4 : (R : Int) ≤ 40000 := by have := bel_le L k; omega
  have HX1 := Lib.hid hx1
  have HB1 := Lib.hid hb1
  have HS1 := Lib.hid hs1
  have HSZ := Lib.hid h.size
  clear h hx1 hb1 hs1 hL hn hT hS hans hR
  go_enter Tryd.func16, Tryd.ntmps16
  go_upto_region 1 with fail
  clear hw1
  go_wp2_with (first
    | (refine ld_if (by rfl) 36 _ rfl w.heap.size rfl 36 _ _ _ HX1.out Tryd.underlying36 rfl (by rw [HSZ.out]; exact map_size) ?_)
    | (refine ld_if (by rfl) 36 _ rfl w.heap.size rfl 36 _ _ _ HX2.out Tryd.underlying36 rfl (by rw [HSZ.out]; exact map_size) ?_)
    | (go_at_call 51; (with_reducible refine (HRK.out).mono ?_); rintro r w2 ⟨v2, rfl, hk2, hb2⟩; have HV2 := Lib.hid hk2.lsS; have HX2 := Lib.hid ((hb2.block _ (by have := HS1.out; omega)).trans HX1.out); have HB2 := Lib.hid hb2; clear hk2 hb2)
    | (go_at_call 52; (with_reducible refine (HAT.out _ HB2.out _ HV2.out).mono ?_); rintro r w3 ⟨rfl, hb3⟩; have HB3 := Lib.hid (HB1.out.trans ((HB2.out.trans (hb3.mono HB2.out.size)).mono HB1.out.size)); clear hb3))
  go_ret3
  exact ⟨rfl, HB3.out⟩
set_option maxHeartbeats 4000000 in
theorem dc_Rank (w : World) (s : Nat) (n : Int) (L : List Ent) (c : Array Value) (k : ByteArray) (h : ML w s n L c) (hL : Rise L) (hn : L.length ≤ 40000) (hT : Tab6 w) :
    Calls Tryd.prog 20 #[.agg c, .string k] w fun r w' => r = .returned (.int .i64 ((belE L k).length : Nat)) ∧ Below w.heap.size w w' := by
  obtain ⟨w1, hw1⟩ : ∃ w1, w.alloc (.cells c 36) = w1 := ⟨_, rfl⟩
  obtain ⟨hb1, hx1, hs1⟩ := new_below hw1
  have HRK := Lib.hid (dc_ranked w1 s n L c k (h.later hb1) hL hn (hT.below hb1))
  obtain ⟨R, hR⟩ : ∃ R, R = (belE L k).length := ⟨_, rfl⟩
  rw [← hR] at HRK ⊢
  have HX1 := Lib.hid hx1
  have HB1 := Lib.hid hb1
  have HS1 := Lib.hid hs1
  have HSZ := Lib.hid h.size
  clear h hx1 hb1 hs1 hL hn hT hR
  go_enter Tryd.func20, Tryd.ntmps20
  go_upto_region 1 with fail
  clear hw1
  go_wp2_with (first
    | (refine ld_if (by rfl) 36 _ rfl w.heap.size rfl 36 _ _ _ HX1.out Tryd.underlying36 rfl (by rw [HSZ.out]; exact map_size) ?_)
    | (go_at_call 51; (with_reducible refine (HRK.out).mono ?_); rintro r w2 ⟨v2, rfl, hk2, hb2⟩; have HB2 := Lib.hid (HB1.out.trans (hb2.mono HB1.out.size)); clear hk2 hb2))
  go_ret
  exact ⟨rfl, HB2.out⟩
end Go.Proofs.YtnnlfgfgfegjkaaDoor
