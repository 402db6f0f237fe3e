/- Package rope: leaves. -/
import Derived.Test.YtldemoflgahdgaaRopePure
namespace Go.Proofs.Ytldemoflgahdgaa
open Go.RowKit
set_option maxRecDepth 1000000
set_option linter.unusedSimpArgs false

theorem rows_cut {B : Nat} {e : TypeId} {s : Nat} {v : Value} {cs : List (Array Value)} {w : World} (h : RowsOwn B e s v cs w) : CutAt (fun g => B ≤ g) w s v (cs.flatMap Array.toList) cs.length := by
  obtain ⟨h1, h2, h3⟩ := h
  have h1' := h1
  obtain ⟨hl, h4⟩ := h1
  rcases h4 with ⟨rfl, e0⟩ | ⟨g, cap, cur, fz, rfl, a2, a3, a4, a5, a6, a7⟩
  · rw [e0]
    exact ⟨none, 0, rfl, Nat.le_refl _, by rw [hl, e0], .inl ⟨rfl, rfl⟩⟩
  · refine ⟨_, cap, rfl, by omega, hl, .inr ⟨g, 0, rfl, a2, (Array.getElem?_eq_some_iff.1 a3).1, fun j u hu => ?_⟩⟩
    have := h1'.cells (g := g) rfl j u hu
    rwa [add_at] at this
theorem kid_cells (h : Nat) (ks : List Kid) : (ks.map fun p => (kidc h p).toArray).flatMap Array.toList = en (kidc h) ks := by
  unfold en
  induction ks with
  | nil => rfl
  | cons p ks ih => rw [List.map_cons, List.flatMap_cons, List.flatMap_cons, ih]
theorem fit_of {α : Type} {xs : List α} {kq : List (Kid × List α)} (h : kq.map (·.2) = chunks (cntN xs.length) xs) (hk : ∀ x ∈ kq, x.1.k = x.2.length) : Fit xs.length (kq.map (·.1)) := by
  have hl : kq.length = cntN xs.length := by
    have := congrArg List.length h
    rwa [List.length_map, chunks_len] at this
  refine ⟨by rw [List.length_map, hl], fun p hp => ?_⟩
  obtain ⟨x, hx, rfl⟩ := List.mem_map.1 hp
  have hm : x.2 ∈ chunks (cntN xs.length) xs := by rw [← h]; exact List.mem_map.2 ⟨x, hx, rfl⟩
  rw [List.length_map, hl, hk x hx]
  refine ⟨(chunks_wide xs _ hm).2.2, fun h1 => ?_⟩
  rw [chunks_one xs h1, List.mem_singleton] at hm
  rw [hm]
theorem cat_leaf : ∀ kq : List (Kid × List Int), (∀ x ∈ kq, x.1.l = x.2) → catK (kq.map (·.1)) = (kq.map (·.2)).flatten
  | [], _ => rfl
  | x :: kq, h => by
    rw [List.map_cons, List.map_cons, catK_cons, List.flatten_cons, h x (List.mem_cons_self ..), cat_leaf kq fun y hy => h y (List.mem_cons_of_mem _ hy)]
theorem cat_inner : ∀ kq : List (Kid × List Kid), (∀ x ∈ kq, x.1.l = catK x.2) → catK (kq.map (·.1)) = catK ((kq.map (·.2)).flatten)
  | [], _ => rfl
  | x :: kq, h => by
    rw [List.map_cons, List.map_cons, catK_cons, List.flatten_cons, catK_app, h x (List.mem_cons_self ..), cat_inner kq fun y hy => h y (List.mem_cons_of_mem _ hy)]
theorem chunks_all {α : Type} (xs : List α) : (chunks (cntN xs.length) xs).flatten = xs :=
  chunks_flat _ _ fun h => List.eq_nil_of_length_eq_zero (by unfold cntN at h; omega)
theorem part_pos {α : Type} {xs : List α} {pl : List (Value × List α)} (h : pl.map (·.2) = chunks (cntN xs.length) xs) {k : Nat} (hk : k < pl.length) : 1 ≤ pl[k].2.length ∧ pl[k].2.length ≤ 16 := by
  have hm : pl[k].2 ∈ chunks (cntN xs.length) xs := by rw [← h]; exact List.mem_map.2 ⟨pl[k], List.getElem_mem hk, rfl⟩
  exact ⟨(chunks_wide xs _ hm).1, (chunks_wide xs _ hm).2.1⟩
theorem parts_len {α : Type} {xs : List α} {pl : List (Value × List α)} (h : pl.map (·.2) = chunks (cntN xs.length) xs) : pl.length = cntN xs.length := by
  have := congrArg List.length h
  rwa [List.length_map, chunks_len] at this
set_option maxHeartbeats 4000000 in
theorem rp_leaves (w : World) {S : Nat → Prop} (B : Nat) (ls : List (Value × List Int)) (hcells : ∀ k (hk : k < ls.length), w.cell? ⟨B, k, none⟩ = some ls[k].1) (hcut : ∀ p ∈ ls, CutAt S w 1 p.1 (iv p.2) p.2.length)
    (xs : List Int) (hxs : catE ls ls.length = xs) (hN : xs.length ≤ 100000) (hl : ls.length ≤ 1000) :
    Calls Try.prog 31 #[.slice (some ⟨B, 0, none⟩) ls.length ls.length] w fun e w' => ∃ v, e = .returned v ∧ ∃ ks, NodesR (fun g => w.heap.size ≤ g) w' 0 v ks ∧ catK ks = xs ∧ Fit xs.length ks ∧ Below w.heap.size w w' := by
  have HSP := Lib.hid (sp_int enI_len enI_one w B ls hcells (fun p hp => by rw [en_iv]; exact hcut p hp) xs hxs hN hl)
  have HN := Lib.hid hN
  clear hcells hcut hxs hN
  go_enter Try.func31, Try.ntmps31
  go_wp2_with (go_at_call 46; refine HSP.out.mono ?_; rintro e w1 ⟨v1, rfl, pl, ⟨a1, g1, cap1, rfl, ha1, hc1, hh1⟩, hpl, hb1⟩; have HA1 := Lib.hid ha1; have HC1 := Lib.hid hc1; have HH1 := Lib.hid hh1; have HPL := Lib.hid hpl; have HB1 := Lib.hid hb1; clear ha1 hc1 hh1 hpl hb1)
  clear HSP
  have hpl5 : (pl.length : Int) ≤ 100000 := by have := parts_len HPL.out; have := HN.out; unfold cntN at *; omega
  go_loopw [3, 9] (fun nv iv wr => ∃ (k : Nat) (kq : List (Kid × List Int)), iv = .int .i64 (k : Int) ∧ k ≤ pl.length ∧ Hid (RowsOwn w1.heap.size 33 4 nv ((kq.map (·.1)).map fun p => (kidc 0 p).toArray) wr) ∧
    Hid ((∀ x ∈ kq, NodeR (fun g => w.heap.size ≤ g ∧ g < w1.heap.size) wr 0 x.1 ∧ x.1.l = x.2) ∧ kq.map (·.2) = (pl.take k).map (·.2)) ∧ Hid (Below w1.heap.size w1 wr)) (fun _ iv _ => pl.length - (intOf iv).toNat)
  case atStart => exact ⟨0, [], rfl, Nat.zero_le _, ⟨World.ownsRowF_nil _ _ _ _, Nat.le_refl _, fun c h => (by cases h)⟩, ⟨fun x h => (by cases h), rfl⟩, Below.refl _ _⟩
  case round =>
    obtain ⟨k, kq, rfl, hk, HP, HK, HB⟩ := hrel
    by_cases hlt : k < pl.length
    · have hpp := part_pos HPL.out hlt
      obtain rfl : a1 = some ⟨g1, 0, none⟩ := HA1.out (by omega)
      have hc := (HB.out.cell (p := ⟨g1, k, none⟩) (World.block_lt_of_cell? _ _ (HC1.out k hlt))).trans (HC1.out k hlt)
      have HH := Lib.hid (HH1.out _ (List.getElem_mem hlt))
      obtain ⟨q, hq⟩ : ∃ q, q = pl[k] := ⟨_, rfl⟩
      rw [← hq] at hc hpp HH
      obtain ⟨qv, ql⟩ := q
      dsimp only at hc hpp HH
      obtain ⟨n, hn⟩ : ∃ n, n = ql.length := ⟨_, rfl⟩
      rw [← hn] at hpp HH
      obtain ⟨g, c, cur, fr, rfl, hcap, _⟩ := HH.out.pos hpp.1
      have HQ := Lib.hid hq
      have HNN := Lib.hid hn
      have HPP := Lib.hid hpp
      have hn16 : (n : Int) ≤ 16 := by omega
      have HLEN : Hid (kq.length ≤ 100000) := by
        show _ ≤ _
        have := congrArg List.length HK.out.2
        rw [List.length_map, List.length_map, List.length_take] at this
        omega
      clear hq hn hpp hcap hk
      go_wp2_with (first
        | (refine bs_list rfl 30 33 _ rfl #[.int .i64 (n : Int), .int .i64 1, .slice none 0 0, .slice (some ⟨g, 0, none⟩) n c] 4 (.agg zeroR) rfl rfl (by decide) (by decide) Try.underlying30 (by kernel_rfl) ?_; intro w3 h3 hb3 hs3; have HG3 := Lib.hid h3; have HB3 := Lib.hid hb3; clear h3 hb3 hs3)
        | (refine rows_list rfl (z := .agg zeroR) (by_ := 64) 30 33 _ _ rfl rfl (HP.out.later HB3.out) wr.heap.size rfl HG3.out rfl (by simp [Value.oneCell']) Try.underlying30 (by kernel_rfl) rfl (by decide) (by rw [List.length_map, List.length_map]; exact HLEN.out) (by decide) ?_; intro v6 w6 hp6 hg6; have HP6 := Lib.hid hp6; have HG6 := Lib.hid hg6; clear hp6 hg6))
      go_roundw
      case rel =>
        have hp3 := HP.out.later HB3.out
        have hkT : ∀ X, _ = some X → w1.heap.size ≤ X := fun X e => by
          rcases hp3.own with h | ⟨g', _, _, h, h2, _⟩
          · have e' := h.symm.trans e; cases e'
          · have e' := h.symm.trans e; obtain rfl := Option.some.inj e'; exact h2
        refine ⟨k + 1, kq ++ [(⟨.slice none 0 0, .slice (some ⟨g, 0, none⟩) n c, ql, n, rfl, rfl⟩, ql)], by simp, by omega, ?_, ⟨fun x hx => ?_, ?_⟩, ?_⟩
        · rw [List.map_append, List.map_append]
          have e : ((kidc 0 ⟨.slice none 0 0, .slice (some ⟨g, 0, none⟩) n c, ql, n, rfl, rfl⟩).toArray : Array Value) = #[.int .i64 (n : Int), .int .i64 1, .slice none 0 0, .slice (some ⟨g, 0, none⟩) n c] := by rw [HNN.out]; rfl
          rw [List.map_singleton, List.map_singleton, e]
          exact HP6.out
        · rcases List.mem_append.1 hx with hx | hx
          · exact ⟨((HK.out.1 x hx).1.later HB3.out).kept HG6.out (fun X e h => by have := hkT X e; omega), (HK.out.1 x hx).2⟩
          · rw [List.mem_singleton] at hx
            subst hx
            refine ⟨⟨rfl, HNN.out, HPP.out.1, HPP.out.2, ?_⟩, rfl⟩
            have hh := HH.out.old
            rw [en_iv] at hh
            exact ((hh.later (HB.out.trans (HB3.out.mono HB.out.size))).kept HG6.out (fun X e h => by have := hkT X e; omega))
        · rw [List.map_append, HK.out.2, List.take_succ_eq_append_getElem hlt, List.map_append, ← HQ.out]
          rfl
        · exact (HB.out.trans (HB3.out.mono HB.out.size)).trans (below_of_grown HG6.out (by have := HB.out.size; have := HB3.out.size; omega) hkT)
      case measure => simp [intOf]; omega
    · obtain rfl : k = pl.length := by omega
      go_wp2_with fail
      go_ret
      have hk := HK.out
      rw [List.take_length, HPL.out] at hk
      refine ⟨_, rfl, kq.map (·.1), ⟨?_, fun p hp => ?_⟩, ?_, fit_of hk.2 fun x hx => ?_, HB1.out.trans (HB.out.mono HB1.out.size)⟩
      · have h := (rows_cut HP.out).weak (S' := fun g => w.heap.size ≤ g) (fun g hg => Nat.le_trans HB1.out.size hg)
        rw [kid_cells, List.length_map] at h
        exact h
      · obtain ⟨x, hx, rfl⟩ := List.mem_map.1 hp
        exact (hk.1 x hx).1.weak fun g hg => hg.1
      · rw [cat_leaf _ fun x hx => (hk.1 x hx).2, hk.2, chunks_all]
      · have h := (hk.1 x hx)
        rw [h.1.2.1, h.2]
end Go.Proofs.Ytldemoflgahdgaa
