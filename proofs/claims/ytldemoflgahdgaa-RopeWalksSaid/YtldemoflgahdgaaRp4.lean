/- Package rope: inners. -/
import Derived.Test.YtldemoflgahdgaaRp3
import Derived.Deep.MidRow
namespace Go.Proofs.Ytldemoflgahdgaa
open Go.RowKit
set_option maxRecDepth 1000000
set_option linter.unusedSimpArgs false

theorem en_range {W : World} {T : TypeId} {h g : Nat} {ks : List Kid} {cur : Array Value} {fr : Nat × Nat} (hg : W.heap[g]? = some (.cells cur T fr)) (hc : ∀ (j : Nat) (u : Value), (en (kidc h) ks)[j]? = some u → cur[j]? = some u) {j : Nat} (hj : j < ks.length) :
    W.rangeAt g (j * 4) (kidc h ks[j]) := by
  intro i v hv
  have hi : i < 4 := by have := (List.getElem?_eq_some_iff.1 hv).1; exact this
  refine cell_in hg (hc _ v ?_)
  rw [en_at (kidc_len h) ks j i ks[j] (List.getElem?_eq_getElem hj) hi]
  exact hv
theorem cat_take_succ {ks : List Kid} {j : Nat} (hj : j < ks.length) : (catK (ks.take (j + 1))).length = (catK (ks.take j)).length + ks[j].l.length := by
  rw [List.take_succ_eq_append_getElem hj, catK_app, catK_one, List.length_append]
theorem cat_take_le {ks : List Kid} : ∀ j, (catK (ks.take j)).length ≤ (catK ks).length := fun j => by
  have e := List.take_append_drop j ks
  have := congrArg (fun x => (catK x).length) e
  rw [catK_app, List.length_append] at this
  omega
theorem mem_flat_le {α : Type} {ys : List α} : ∀ {L : List (List α)}, ys ∈ L → ∀ y ∈ ys, y ∈ L.flatten := fun h _ hy => List.mem_flatten.2 ⟨_, h, hy⟩
theorem cat_mem_le : ∀ (L : List (List Kid)) {ys : List Kid}, ys ∈ L → (catK ys).length ≤ (catK L.flatten).length
  | [], _, h => by cases h
  | x :: L, ys, h => by
    rw [List.flatten_cons, catK_app, List.length_append]
    rcases List.mem_cons.1 h with rfl | h
    · omega
    · have := cat_mem_le L h
      omega
set_option maxHeartbeats 4000000 in
theorem rp_inners (w : World) {S : Nat → Prop} (h : Nat) (B : Nat) (ls : List (Value × List Kid)) (hcells : ∀ k (hk : k < ls.length), w.cell? ⟨B, k, none⟩ = some ls[k].1) (hcut : ∀ p ∈ ls, CutAt S w 4 p.1 (en (kidc h) p.2) p.2.length)
    (xs : List Kid) (hxs : catE ls ls.length = xs) (hx : ∀ q ∈ xs, 8 ≤ q.k ∧ NodeR S w h q) (hN : (catK xs).length ≤ 100000) (hl : ls.length ≤ 1000) :
    Calls Try.prog 45 #[.slice (some ⟨B, 0, none⟩) ls.length ls.length] w fun e w' => ∃ v, e = .returned v ∧ ∃ ks, NodesR (fun g => S g ∨ w.heap.size ≤ g) w' (h + 1) v ks ∧ catK ks = catK xs ∧ Fit xs.length ks ∧ Below w.heap.size w w' := by
  have hN1 : xs.length ≤ 100000 := by
    have := cat_lower (c := 1) xs fun q hq => (hx q hq).2.len0
    omega
  have HSP := Lib.hid (sp_node (kidc_len h) (kidc_one h) w B ls hcells hcut xs hxs hN1 hl)
  have HN := Lib.hid hN
  have HN1 := Lib.hid hN1
  have HX : Hid (∀ q ∈ xs, 8 ≤ q.k ∧ NodeR (fun g => S g ∧ g < w.heap.size) w h q) := fun q hq => ⟨(hx q hq).1, (hx q hq).2.old⟩
  obtain ⟨H, hH⟩ : ∃ H, H = h + 1 := ⟨_, rfl⟩
  have HHH := Lib.hid hH
  clear hcells hcut hxs hN hN1 hx hH
  go_enter Try.func45, Try.ntmps45
  go_wp2_with (go_at_call 51; refine HSP.out.mono ?_; rintro e w1 ⟨v1, rfl, pl, ⟨a1, g1, cap1, rfl, ha1, hc1, hh1⟩, hpl, hb1⟩; have HA1 := Lib.hid ha1; have HC1 := Lib.hid hc1; have HH1 := Lib.hid hh1; have HPL := Lib.hid hpl; have HB1 := Lib.hid hb1; clear ha1 hc1 hh1 hpl hb1)
  clear HSP
  have hpl5 : (pl.length : Int) ≤ 100000 := by have := parts_len HPL.out; have := HN1.out; unfold cntN at *; omega
  go_loopw [3, 12] (fun nv iv wr => ∃ (k : Nat) (kq : List (Kid × List Kid)), iv = .int .i64 (k : Int) ∧ k ≤ pl.length ∧ Hid (RowsOwn w1.heap.size 33 4 nv ((kq.map (·.1)).map fun p => (kidc (h + 1) p).toArray) wr) ∧
    Hid ((∀ x ∈ kq, NodeR (fun g => (S g ∨ w.heap.size ≤ g) ∧ g < w1.heap.size) wr (h + 1) x.1 ∧ x.1.l = catK x.2 ∧ x.1.k = x.2.length) ∧ kq.map (·.2) = (pl.take k).map (·.2)) ∧ Hid (Below w1.heap.size w1 wr)) (fun _ iv _ => pl.length - (intOf iv).toNat)
  case atStart => exact ⟨0, [], rfl, Nat.zero_le _, ⟨World.ownsRowF_nil _ _ _ _, Nat.le_refl _, fun c h => (by cases h)⟩, ⟨fun x h => (by cases h), rfl⟩, Below.refl _ _⟩
  case round =>
    obtain ⟨Wo, hWo⟩ : ∃ Wo, Wo = wr := ⟨_, rfl⟩
    subst hWo
    obtain ⟨k, kq, rfl, hk, HP, HK, HB⟩ := hrel
    by_cases hlt : k < pl.length
    · have hpp := part_pos HPL.out hlt
      obtain rfl : a1 = some ⟨g1, 0, none⟩ := HA1.out (by omega)
      have hc := (HB.out.cell (p := ⟨g1, k, none⟩) (World.block_lt_of_cell? _ _ (HC1.out k hlt))).trans (HC1.out k hlt)
      have HH := Lib.hid (HH1.out _ (List.getElem_mem hlt))
      have hmem : pl[k].2 ∈ chunks (cntN xs.length) xs := by rw [← HPL.out]; exact List.mem_map.2 ⟨pl[k], List.getElem_mem hlt, rfl⟩
      obtain ⟨q, hq⟩ : ∃ q, q = pl[k] := ⟨_, rfl⟩
      rw [← hq] at hc hpp HH hmem
      obtain ⟨qv, ql⟩ := q
      dsimp only at hc hpp HH hmem
      have hqx : ∀ y ∈ ql, y ∈ xs := fun y hy => by have := mem_flat_le hmem y hy; rwa [chunks_all] at this
      have hqn : (catK ql).length ≤ 100000 := by have := cat_mem_le _ hmem; rw [chunks_all] at this; have := HN.out; omega
      obtain ⟨n, hn⟩ : ∃ n, n = ql.length := ⟨_, rfl⟩
      rw [← hn] at hpp HH
      obtain ⟨g, c, cur, fr, rfl, hcap, hSg, hg, hcs⟩ := HH.out.pos hpp.1
      have hH5 : (H : Int) ≤ 100000 := by
        have h1 := (HX.out _ (hqx ql[0] (List.getElem_mem (by omega)))).2.high
        have h2 := cat_lower (c := 1) ql fun q hq => (HX.out q (hqx q hq)).2.len0
        have h3 : ql[0].l.length ≤ (catK ql).length := by
          have e1 : (catK (ql.take 1)).length = (catK (ql.take 0)).length + ql[0].l.length := cat_take_succ (by omega)
          have := cat_take_le (ks := ql) 1
          omega
        have := HHH.out
        omega
      have hgr := (HB.out.block g (Array.getElem?_eq_some_iff.1 hg).1).trans hg
      have ch : Wo.cell? ⟨g, 1, none⟩ = some (.int .i64 (H : Int)) := by
        have := en_range (h := h) (g := g) hgr hcs (j := 0) (by omega) 1 (.int .i64 ((h + 1 : Nat) : Int)) rfl
        rw [HHH.out]
        simpa using this
      have HGR := Lib.hid hgr
      have HCS := Lib.hid hcs
      have HQ := Lib.hid hq
      have HNN := Lib.hid hn
      have HPP := Lib.hid hpp
      have HQX := Lib.hid hqx
      have HQN := Lib.hid hqn
      have hn16 : (n : Int) ≤ 16 := by omega
      have hn0 : (0 : Int) < n := by omega
      have HGW : Hid (g < w1.heap.size) := (Array.getElem?_eq_some_iff.1 hg).1
      have HLEN : Hid (kq.length ≤ 100000) := by
        show _ ≤ _
        have := congrArg List.length HK.out.2
        rw [List.length_map, List.length_map, List.length_take] at this
        omega
      have HHQ := Lib.hid HH.out.old
      clear hq hn hpp hcap hk hqx hqn hmem hSg hg hcs hgr
      go_wp2_with (refine st_agg rfl 33 _ _ rfl Wo.heap.size #[.int .i64 0, .int .i64 ((H : Int) + 1), .slice (some ⟨g, 0, none⟩) n c, .slice none 0 0] rfl rfl 33 zeroR (heap_alloc_last _ _) rnode_size rfl (by simp [Value.oneCell']) ?_; intro w2 h2 k2; have HG2 := Lib.hid h2; have HB2 : Hid (Below Wo.heap.size Wo w2) := (Below.newly' _ _).trans (k2.below (Nat.le_refl _)); clear h2 k2)
      go_loopw [25] (fun iv wl => ∃ (j : Nat), iv = .int .i64 (j : Int) ∧ j ≤ n ∧ Hid (wl.heap[Wo.heap.size]? = some (.cells #[.int .i64 ((catK (ql.take j)).length : Int), .int .i64 ((H : Int) + 1), .slice (some ⟨g, 0, none⟩) n c, .slice none 0 0] 33 (0, 0))) ∧ Hid (Below Wo.heap.size Wo wl)) (fun iv _ => n - (intOf iv).toNat)
      case atStart => exact ⟨0, rfl, Nat.zero_le _, HG2, HB2⟩
      case round =>
        clear HG2 HB2
        obtain ⟨j, rfl, hj, HG, HBL⟩ := hrel
        by_cases hjn : j < n
        · have hjl : j < ql.length := by have := HNN.out; omega
          have HRG := Lib.hid (en_range (h := h) (g := g) ((HBL.out.block g (Array.getElem?_eq_some_iff.1 HGR.out).1).trans HGR.out) HCS.out hjl)
          have HSUM := Lib.hid (cat_take_succ hjl)
          have hle := cat_take_le (ks := ql) (j + 1)
          obtain ⟨y, hy⟩ : ∃ y, y = ql[j] := ⟨_, rfl⟩
          rw [← hy] at HRG HSUM
          obtain ⟨s, hs⟩ : ∃ s, s = (catK (ql.take j)).length := ⟨_, rfl⟩
          obtain ⟨z, hz⟩ : ∃ z, z = y.l.length := ⟨_, rfl⟩
          have hsz : (s : Int) + (z : Int) ≤ 100000 := by have := HQN.out; have := HSUM.out; omega
          rw [← hs] at HG
          have HS := Lib.hid hs
          have HZ := Lib.hid hz
          have hjn' : (j : Int) < n := by omega
          have HYC : Hid ((kidc h y).toArray.all (·.oneCell') = true) := by
            show _ = _
            rw [Array.all_eq_true_iff_forall_mem]
            intro u hu
            exact kidc_one h y u (by simpa using hu)
          have HXL : Hid (Wo.heap.size < wr.heap.size) := (Array.getElem?_eq_some_iff.1 HG.out).1
          clear hy hs hz hle hj hjl hjn
          go_wp2_with (first
            | (refine wpList_load_mid rfl 33 _ rfl g (j * 4) rfl (kidc h y) _ HRG.out Try.underlying33 rfl rnode_size ?_)
            | (refine st_agg rfl 33 _ _ rfl wr.heap.size (kidc h y).toArray rfl rfl 33 zeroR (heap_alloc_last _ _) rnode_size rfl HYC.out ?_; intro w5 h5 k5; have HB5 : Hid (Below wr.heap.size wr w5) := (Below.newly' _ _).trans (k5.below (Nat.le_refl _)); have HX5 := Lib.hid ((HB5.out.block _ HXL.out).trans HG.out); have q5 : w5.cell? ⟨Wo.heap.size, 0, none⟩ = some (.int .i64 (s : Int)) := cell_in HX5.out rfl; have f5 : w5.frozen? ⟨Wo.heap.size, 0, none⟩ = false := frozen_of_row _ _ _ _ _ HX5.out; have r5 : w5.cell? ⟨wr.heap.size, 0, none⟩ = some (.int .i64 (z : Int)) := (by rw [HZ.out]; exact cell_in h5 rfl); clear h5 k5))
          go_roundw
          case rel =>
            refine ⟨j + 1, by simp, by have := HNN.out; omega, ?_, (HBL.out.trans (HB5.out.mono HBL.out.size)).setCell (p := ⟨Wo.heap.size, 0, none⟩) (Nat.le_refl _) _⟩
            rw [HSUM.out, ← HS.out, ← HZ.out]
            exact heap_setCell_same w5 _ 0 _ _ _ HX5.out
          case measure => simp [intOf]; omega
        · obtain rfl : j = n := by omega
          have HCT : Hid (catK (ql.take j) = catK ql) := by show _ = _; rw [List.take_of_length_le (by have := HNN.out; omega)]
          rw [HCT.out] at HG
          have HKO := Lib.hid (HP.out.later HBL.out)
          clear hj hjn
          go_wp2_with (first
            | (refine ld_if rfl 33 _ rfl Wo.heap.size rfl 33 _ _ _ HG.out Try.underlying33 rfl rnode_size ?_)
            | (refine bs_list rfl 30 33 _ rfl #[.int .i64 ((catK ql).length : Int), .int .i64 ((H : Int) + 1), .slice (some ⟨g, 0, none⟩) j c, .slice none 0 0] 4 (.agg zeroR) rfl rfl (by decide) (by decide) Try.underlying30 (by kernel_rfl) ?_; intro w3 h3 hb3 hs3; have HG3 := Lib.hid h3; have HB3 := Lib.hid hb3; clear h3 hb3 hs3)
            | (refine rows_list rfl (z := .agg zeroR) (by_ := 64) 30 33 _ _ rfl rfl (HKO.out.later HB3.out) wr.heap.size rfl HG3.out rfl (by simp [Value.oneCell']) Try.underlying30 (by kernel_rfl) rfl (by decide) (by rw [List.length_map, List.length_map]; exact HLEN.out) (by decide) ?_; intro v6 w6 hp6 hg6; have HP6 := Lib.hid hp6; have HG6 := Lib.hid hg6; clear hp6 hg6))
          go_roundw
          case rel =>
            have hp3 := HKO.out.later HB3.out
            have hb3 : Below Wo.heap.size Wo w3 := HBL.out.trans (HB3.out.mono HBL.out.size)
            have hkT : ∀ X, _ = some X → w1.heap.size ≤ X := fun X e => by
              rcases hp3.own with h | ⟨g', _, _, h, h2, _⟩
              · have e' := h.symm.trans e; cases e'
              · have e' := h.symm.trans e; obtain rfl := Option.some.inj e'; exact h2
            have hw1 : w.heap.size ≤ w1.heap.size := HB1.out.size
            refine ⟨k + 1, kq ++ [(⟨.slice (some ⟨g, 0, none⟩) j c, .slice none 0 0, catK ql, j, rfl, rfl⟩, ql)], by simp, by omega, ?_, ⟨fun x hx => ?_, ?_⟩, ?_⟩
            · rw [List.map_append, List.map_append]
              have e : ((kidc (h + 1) ⟨.slice (some ⟨g, 0, none⟩) j c, .slice none 0 0, catK ql, j, rfl, rfl⟩).toArray : Array Value) = #[.int .i64 ((catK ql).length : Int), .int .i64 ((H : Int) + 1), .slice (some ⟨g, 0, none⟩) j c, .slice none 0 0] := by
                rw [HHH.out]; simp [kidc]
              rw [List.map_singleton, List.map_singleton, e]
              exact HP6.out
            · rcases List.mem_append.1 hx with hx | hx
              · exact ⟨((HK.out.1 x hx).1.later hb3).kept HG6.out (fun X e h => by have := hkT X e; omega), (HK.out.1 x hx).2⟩
              · rw [List.mem_singleton] at hx
                subst hx
                refine ⟨⟨rfl, HPP.out.1, HPP.out.2, ql, ?_, HNN.out.symm, rfl, fun q hq => ⟨(HX.out q (HQX.out q hq)).1, ?_⟩⟩, rfl, HNN.out⟩
                · exact (((HHQ.out.later HB.out).later hb3).kept HG6.out (fun X e h => by have := hkT X e; omega)).weak fun g hg => ⟨.inr hg.1, hg.2⟩
                · exact (((HX.out q (HQX.out q hq)).2.later (HB1.out.trans ((HB.out.trans (hb3.mono HB.out.size)).mono hw1))).kept HG6.out (fun X e h => by have := hkT X e; omega)).weak fun g hg => ⟨.inl hg.1, by omega⟩
            · rw [List.map_append, HK.out.2, List.take_succ_eq_append_getElem hlt, List.map_append, ← HQ.out]
              rfl
            · exact (HB.out.trans (hb3.mono HB.out.size)).trans (below_of_grown HG6.out (by have := HB.out.size; have := hb3.size; omega) hkT)
          case measure => simp [intOf]; omega
    · obtain rfl : k = pl.length := by omega
      go_wp2_with fail
      go_ret
      have hk := HK.out
      rw [List.take_length, HPL.out] at hk
      refine ⟨_, rfl, kq.map (·.1), ⟨?_, fun p hp => ?_⟩, ?_, fit_of hk.2 fun x hx => (hk.1 x hx).2.2, HB1.out.trans (HB.out.mono HB1.out.size)⟩
      · have h := (rows_cut HP.out).weak (S' := fun g => S g ∨ w.heap.size ≤ g) (fun g hg => .inr (Nat.le_trans HB1.out.size hg))
        rw [kid_cells, List.length_map] at h
        exact h
      · obtain ⟨x, hx, rfl⟩ := List.mem_map.1 hp
        exact (hk.1 x hx).1.weak fun g hg => hg.1
      · rw [cat_inner _ fun x hx => (hk.1 x hx).2.1, hk.2, chunks_all]
end Go.Proofs.Ytldemoflgahdgaa
