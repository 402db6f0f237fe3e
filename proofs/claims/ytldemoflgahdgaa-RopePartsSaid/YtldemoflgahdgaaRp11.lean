/- Package rope: node.slice, at an inner node. (written by tools/gen08/slice8.py) -/
import Derived.Test.YtldemoflgahdgaaRp10
namespace Go.Proofs.Ytldemoflgahdgaa
open Go.RowKit
set_option maxRecDepth 1000000
set_option linter.unusedSimpArgs false
set_option maxHeartbeats 2000000 in
theorem sli_inner (h : Nat) (ih : SliDoes h) (S : Nat → Prop) (W : World) (p : Kid) (lo hi : Nat) (hp : NodeR S W (h + 1) p) (hlt : lo < hi) (hle : hi ≤ p.l.length) (hN : p.l.length ≤ 50000) (hw : ¬ hi - lo = p.l.length) :
    Calls Try.prog 35 #[.agg (kidc (h + 1) p).toArray, .int .i64 (lo : Int), .int .i64 (hi : Int)] W fun e W' => ∃ c, e = .returned (.agg c) ∧ RootR (fun g => S g ∨ W.heap.size ≤ g) W' c (pieceL p.l lo hi) ∧ Below W.heap.size W W' := by
  obtain ⟨w2, hw2⟩ : ∃ w2, (W.alloc (.cells (kidc (h + 1) p).toArray 33)).alloc (.cells #[.int .i64 0, .int .i64 0, .slice none 0 0, .slice none 0 0] 33) = w2 := ⟨_, rfl⟩
  obtain ⟨hb2, hx2, hy2, hs2⟩ := two_new hw2
  have HB2 := Lib.hid hb2
  have HY2 := Lib.hid hy2
  have HX2 := Lib.hid hx2
  have HS2 := Lib.hid hs2
  obtain ⟨N, hN'⟩ : ∃ N, N = p.l.length := ⟨_, rfl⟩
  have ca0 : w2.cell? ⟨W.heap.size, 0, none⟩ = some (.int .i64 (N : Int)) := by rw [hN']; exact cell_in hx2 rfl
  obtain ⟨d, hd⟩ : ∃ d, d = hi - lo := ⟨_, rfl⟩
  have hdi : (hi : Int) - (lo : Int) = (d : Int) := by omega
  have hne : ((lo : Int) == (hi : Int)) = false := beq_eq_false_iff_ne.2 (by omega)
  have hne' : ¬ ((lo : Int) = (hi : Int)) := by omega
  have hd5 : (d : Int) ≤ 50000 := by omega
  have hee : ((d : Int) == (N : Int)) = false := beq_eq_false_iff_ne.2 (by omega)
  obtain ⟨hpb, hk1, hk16, ks, hh, hkl, hl, hks⟩ := hp
  obtain ⟨n, hn⟩ : ∃ n, n = p.k := ⟨_, rfl⟩
  rw [← hn] at hk1 hk16 hh hkl
  obtain ⟨h1, hh1⟩ : ∃ h1, h1 = hi - 1 := ⟨_, rfl⟩
  have hh1' : (hi : Int) - 1 = (h1 : Int) := by omega
  have HWAY := Lib.hid (rp_way w2 h n lo p ks (hh.later hb2) hkl hk1 hk16 (by rw [← hl]; omega) (by rw [← hl]; omega))
  have HWAY2 := Lib.hid (fun V (hV : Below w2.heap.size w2 V) => rp_way V h n h1 p ks ((hh.later hb2).later hV) hkl hk1 hk16 (by rw [← hl]; omega) (by rw [← hl]; omega))
  have HHO := Lib.hid hh.old.cut
  obtain ⟨g, c, cur, fr, hpa, hcap, hS, hg, hcs⟩ := hh.pos hk1
  rw [hpa] at HHO
  have ca2 : w2.cell? ⟨W.heap.size, 2, none⟩ = some (.slice (some ⟨g, 0, none⟩) n c) := by rw [← hpa]; exact cell_in hx2 rfl
  have HRG : Hid (∀ k (hk : k < ks.length), w2.rangeAt g (k * 4) (kidc h ks[k])) := fun k hk => range_later (en_range (h := h) hg hcs hk) hb2
  have HGL : Hid (g < W.heap.size) := (Array.getElem?_eq_some_iff.1 hg).1
  have HP := Lib.hid (And.intro hk1 (And.intro hk16 (And.intro hkl (And.intro hl (And.intro hlt (And.intro hle (And.intro hN hh1)))))))
  have HKS : Hid (∀ q ∈ ks, 8 ≤ q.k ∧ NodeR (fun g => S g ∧ g < W.heap.size) W h q) := fun q hq => ⟨(hks q hq).1, (hks q hq).2.old⟩
  have hnil := fun w => nodes_some ⟨g, 0, none⟩ n c w
  have hn16 : (n : Int) ≤ 16 := by omega
  have hhi5 : (hi : Int) ≤ 50000 := by omega
  have hhi1 : (1 : Int) ≤ (hi : Int) := by omega
  clear hb2 hx2 hy2 hs2 hpb hk1 hk16 hh hkl hl hks hn hpa hcap hS hg hcs hlt hle hN hw hN' hd hh1
  go_enter Try.func35, Try.ntmps35
  go_upto_region 1 with fail
  clear hw2
  go_upto_region 8 with (first
    | (refine ld_if rfl 33 _ rfl W.heap.size rfl 33 _ _ _ HX2.out Try.underlying33 rfl rnode_size ?_)
    | (go_at_call 29; refine HWAY.out.mono ?_; rintro e w3 ⟨f, b, rfl, hwy, hb3⟩; have HWYF := Lib.hid hwy; have HBB3 := Lib.hid hb3; have HX3 := Lib.hid ((hb3.block _ (by have := HS2.out; omega)).trans HX2.out); clear hwy hb3))
  go_upto_region 9 with (first
    | (refine ld_if rfl 33 _ rfl W.heap.size rfl 33 _ _ _ HX3.out Try.underlying33 rfl rnode_size ?_)
    | (go_at_call 29; refine (HWAY2.out w3 HBB3.out).mono ?_; rintro e w4 ⟨l, e0, rfl, hwy, hb4⟩; have HWYL := Lib.hid hwy; have HBB4 := Lib.hid (HBB3.out.trans (hb4.mono HBB3.out.size)); clear hwy hb4))
  obtain ⟨k1, k2, k3, k4, k5, k6, k7, k8⟩ := HP.out
  have hord := way_le HWYF.out HWYL.out (by omega) (by rw [← k4]; omega)
  obtain ⟨hf, ef, bf1, bf2⟩ := HWYF.out
  obtain ⟨hll, el, bl1, bl2⟩ := HWYL.out
  have bf3 := bf2 (by rw [← k4]; omega)
  have bl3 := bl2 (by rw [← k4]; omega)
  obtain ⟨e1, he1⟩ : ∃ e1, e1 = e0 + 1 := ⟨_, rfl⟩
  have hkid : ∀ k (hk : k < ks.length), ks[k].l.length ≤ p.l.length := fun k hk => by
    have h1 := congrArg List.length (cat_split hk)
    rw [List.length_append, List.length_append, ← k4] at h1
    omega
  have hkf := hkid f hf
  have hkl2 := hkid l hll
  have hb4 := HBB4.out
  have HC24 := Lib.hid ((hb4.cell (p := ⟨W.heap.size, 2, none⟩) (World.block_lt_of_cell? _ _ ca2)).trans ca2)
  have HYR4 := Lib.hid (range_later (HRG.out f hf) hb4)
  have HZR4 := Lib.hid (range_later (HRG.out l hll) hb4)
  have HY4 := Lib.hid ((hb4.block _ (by have := HS2.out; omega)).trans HY2.out)
  have HB4 := Lib.hid (HB2.out.trans (hb4.mono HB2.out.size))
  have HW4 : Hid (W.heap.size + 2 ≤ w4.heap.size) := by show _ ≤ _; have := hb4.size; have := HS2.out; omega
  have hfn : (f : Int) < n := by omega
  have hfn' : f < n := by omega
  have hln : (l : Int) < n := by omega
  have hln' : l < n := by omega
  have he0 : (e0 : Int) ≤ 50000 := by omega
  have he1' : (e0 : Int) + 1 = (e1 : Int) := by omega
  have HRUNY := Lib.hid (fun V (hV : Below W.heap.size W V) (lo hi : Nat) (h1 : lo ≤ hi) (h2 : hi ≤ ks[f].l.length) => ih (fun g => S g ∧ g < W.heap.size) V ks[f] lo hi ((HKS.out _ (List.getElem_mem hf)).2.later hV) (.inr (Nat.le_trans (by decide) (HKS.out _ (List.getElem_mem hf)).1)) h1 h2 (by omega))
  have HRUNZ := Lib.hid (fun V (hV : Below W.heap.size W V) (lo hi : Nat) (h1 : lo ≤ hi) (h2 : hi ≤ ks[l].l.length) => ih (fun g => S g ∧ g < W.heap.size) V ks[l] lo hi ((HKS.out _ (List.getElem_mem hll)).2.later hV) (.inr (Nat.le_trans (by decide) (HKS.out _ (List.getElem_mem hll)).1)) h1 h2 (by omega))
  by_cases hfl : f = l
  · subst hfl
    have hbe := hord.2 rfl
    have hfe : ((f : Int) == (f : Int)) = true := by simp
    have HREC := Lib.hid (HRUNY.out w4 HB4.out b e1 (by omega) (by omega))
    have HPC : Hid (pieceL p.l lo hi = pieceL ks[f].l b e1) := by
      show _ = _
      rw [k4, cat_split hf, ef, show hi = (catK (ks.take f)).length + e1 by omega]
      exact mid_one (by omega)
    obtain ⟨y, hy⟩ : ∃ y, y = ks[f] := ⟨_, rfl⟩
    rw [← hy] at HYR4 HREC HPC
    clear HZR4 HRUNZ
    clear hord k1 k2 k3 k4 k5 k6 k7 k8 hf ef bf1 bf2 hll el bl1 bl2 bf3 bl3 he1 hkid hkf hkl2 hb4 ca2 hbe hy HRUNY HWYF HWYL HWAY HWAY2 HX3
    have cc2 := HC24.out
    go_wp2_with (first
      | (refine wpList_load_mid rfl 33 _ rfl g (f * 4) rfl (kidc h y) _ HYR4.out Try.underlying33 rfl rnode_size ?_)
      | (go_at_call 35; refine HREC.out.mono ?_; rintro e w5 ⟨c5, rfl, hr5, hb5⟩; have HY5 := Lib.hid ((hb5.block _ (Array.getElem?_eq_some_iff.1 HY4.out).1).trans HY4.out); have HR5 := Lib.hid hr5; have HB5 := Lib.hid (HB4.out.trans (hb5.mono HB4.out.size)); clear hr5 hb5)
      | (refine st_agg rfl 33 _ _ rfl (W.heap.size + 1) c5 rfl rfl 33 _ HY5.out (by rw [HR5.out.size]; exact rnode_size) (by rw [HR5.out.size]; rfl) HR5.out.one ?_; intro w6 h6 k6))
    have hw4 := HW4.out
    refine bodyPost_ret (results_cell_row rfl _ _ (W.heap.size + 1) 33 _ (0, 0) _ rfl h6 Try.underlying33 rfl (by rw [HR5.out.size]; exact rnode_size)) rfl ⟨_, rfl, ?_, HB5.out.trans (k6.below (by omega))⟩
    rw [HPC.out]
    refine (HR5.out.kept k6.by_ (fun X e => by cases e; rintro (⟨_, h⟩ | h) <;> omega)).weak fun g hg => ?_
    rcases hg with hg | hg
    · exact .inl hg.1
    · exact .inr (by omega)
  · have hfl' : f < l := by have := hord.1; omega
    have hfe : ((f : Int) == (l : Int)) = false := beq_eq_false_iff_ne.2 (by omega)
    have hfe' : ¬ ((f : Int) = (l : Int)) := by omega
    obtain ⟨mid, hmid⟩ : ∃ mid, mid = (ks.take l).drop (f + 1) := ⟨_, rfl⟩
    have hcat := catK_split hfl' hll
    rw [← hmid] at hcat
    have HPC : Hid (pieceL p.l lo hi = pieceL ks[f].l b ks[f].l.length ++ catK mid ++ pieceL ks[l].l 0 e1) := by
      show _ = _
      rw [k4, hcat.1, ef, show hi = (catK (ks.take f) ++ ks[f].l ++ catK mid).length + e1 by rw [← hcat.2]; omega]
      exact mid_two (by omega) (by omega)
    have hlens := congrArg List.length hcat.1
    rw [List.length_append, List.length_append, List.length_append, List.length_append, ← k4] at hlens
    have HML : Hid ((catK mid).length ≤ 100000) := by show _ ≤ _; omega
    obtain ⟨f1, hf1⟩ : ∃ f1, f1 = f + 1 := ⟨_, rfl⟩
    have hfw : IntKind.i64.wrap ((f : Int) + 1) = (f1 : Int) := by rw [IntKind.wrap_i64]; omega
    obtain ⟨a2, c2, hc2, hrun2⟩ := cut_lh 30 tn_sl tn_size HHO.out (lo := f1) (hi := l) (by omega) (by omega)
    rw [en_take (kidc_len h), en_drop (kidc_len h), hf1, ← hmid] at hc2
    rw [hf1] at hrun2
    have hmidl : mid.length = l - (f + 1) := by rw [hmid, List.length_drop, List.length_take]; omega
    have HMC : Hid (CutAt (fun g => S g ∧ g < W.heap.size) W 4 (.slice a2 (l - (f + 1)) c2) (en (kidc h) mid) mid.length) := by show CutAt _ _ _ _ _ _; rw [hmidl]; exact hc2
    rw [← hf1] at hrun2 HMC
    have HMK : Hid (∀ q ∈ mid, 8 ≤ q.k ∧ NodeR (fun g => S g ∧ g < W.heap.size) W h q) := fun q hq => HKS.out q (List.mem_of_mem_take (List.mem_of_mem_drop (by rw [← hmid]; exact hq)))
    have HLEN : Hid ((pieceL ks[f].l b ks[f].l.length).length + (catK mid).length ≤ 100000 ∧ (pieceL ks[f].l b ks[f].l.length ++ catK mid).length + (pieceL ks[l].l 0 e1).length ≤ 100000) := by
      rw [List.length_append, piece_len (Nat.le_refl _), piece_len (by omega)]
      exact ⟨by omega, by omega⟩
    have HRLEFT := Lib.hid (fun V (hV : Below W.heap.size W V) => HRUNY.out V hV b ks[f].l.length bf1 (Nat.le_refl _))
    have HRIGHT' := fun V (hV : Below W.heap.size W V) => HRUNZ.out V hV 0 e1 (Nat.zero_le _) (by omega)
    have HRIGHT : Hid (∀ V, Below W.heap.size W V → Calls Try.prog 35 #[.agg (kidc h ks[l]).toArray, .int .i64 0, .int .i64 (e1 : Int)] V fun e W' => ∃ c, e = .returned (.agg c) ∧ RootR (fun g => (S g ∧ g < W.heap.size) ∨ V.heap.size ≤ g) W' c (pieceL ks[l].l 0 e1) ∧ Below V.heap.size V W') := HRIGHT'
    obtain ⟨y, hy⟩ : ∃ y, y = ks[f] := ⟨_, rfl⟩
    obtain ⟨z, hz⟩ : ∃ z, z = ks[l] := ⟨_, rfl⟩
    rw [← hy] at HYR4 HRLEFT HPC HLEN
    rw [← hz] at HZR4 HRIGHT HPC HLEN
    obtain ⟨yn, hyn⟩ : ∃ yn, yn = y.l.length := ⟨_, rfl⟩
    rw [← hyn] at HRLEFT HPC HLEN
    have HYN := Lib.hid hyn
    clear hord k1 k2 k3 k4 k5 k6 k7 k8 hf ef bf1 bf2 hll el bl1 bl2 bf3 bl3 he1 hkid hkf hkl2 hb4 ca2 hy hz HRUNY HRUNZ HWYF HWYL HWAY HWAY2 HX3 hfl hfl' hmid hcat hlens hf1 hc2 hmidl HRIGHT' hyn
    go_upto_region 11 with fail
    obtain ⟨w5, hw5⟩ : ∃ w5, w5 = w4.drew := ⟨_, rfl⟩
    have hb5 : Below w4.heap.size w4 w5 := by rw [hw5]; exact drawn_below w4
    have HC25 := Lib.hid (((hb5).cell (p := ⟨W.heap.size, 2, none⟩) (World.block_lt_of_cell? _ _ HC24.out)).trans HC24.out)
    have HYR5 := Lib.hid (range_later HYR4.out hb5)
    have HZR5 := Lib.hid (range_later HZR4.out hb5)
    have HY5 := Lib.hid (((hb5).block _ (Array.getElem?_eq_some_iff.1 HY4.out).1).trans HY4.out)
    have HB5 := Lib.hid (HB4.out.trans ((hb5).mono HB4.out.size))
    have HW5 : Hid (W.heap.size + 2 ≤ w5.heap.size) := by show _ ≤ _; have := HW4.out; have := hb5.size; omega
    clear hb5
    refine wp_region_T (S := fun V => V.cell? ⟨W.heap.size, 2, none⟩ = some (.slice (some ⟨g, 0, none⟩) n c) ∧ V.rangeAt g (f * 4) (kidc h y)) [14] (by kernel_rfl) (by rw [← hw5]; exact ⟨HC25.out, HYR5.out⟩) (fun hHeld => ?_)
    rw [← hw5] at hHeld ⊢
    clear hw5
    refine wpAnyT_take (i := 0) (oi := ⟨some 63, _, _, _, _, _⟩) (v := ?vg1_0) rfl (by kernel_rfl) (by kernel_rfl) (by kernel_rfl) (by kernel_rfl) (fun _ _ _ h => h) (Or.inl ⟨by rfl, ?hg1_0⟩) (by assumption) ?rg1_0
    case hg1_0 => (intro w hSw; (try dsimp only at hSw); first | (go_simp; done) | (go_simp; with_reducible rfl))
    (try simp only [Act.put, List.setIfInBounds_toArray, List.set_cons_zero, List.set_cons_succ])
    refine wpAnyT_take (i := 1) (oi := ⟨some 64, _, _, _, _, _⟩) (v := ?vg1_1) rfl (by kernel_rfl) (by kernel_rfl) (by kernel_rfl) (by kernel_rfl) (fun _ _ _ h => h) (Or.inl ⟨by rfl, ?hg1_1⟩) (by assumption) ?rg1_1
    case hg1_1 => (intro w hSw; (try dsimp only at hSw); first | (go_simp; done) | (go_simp; with_reducible rfl))
    (try simp only [Act.put, List.setIfInBounds_toArray, List.set_cons_zero, List.set_cons_succ])
    refine wpAnyT_take (i := 2) (oi := ⟨some 65, _, _, _, _, _⟩) (v := ?vg1_2) rfl (by kernel_rfl) (by kernel_rfl) (by kernel_rfl) (by kernel_rfl) (fun _ _ _ h => h) (Or.inl ⟨by rfl, ?hg1_2⟩) (by assumption) ?rg1_2
    case hg1_2 => (intro w hSw; (try dsimp only at hSw); first | (go_simp; done) | (go_simp; with_reducible rfl))
    (try simp only [Act.put, List.setIfInBounds_toArray, List.set_cons_zero, List.set_cons_succ])
    refine wpAnyT_take (i := 3) (oi := ⟨some 66, _, _, _, _, _⟩) (v := ?vg1_3) rfl (by kernel_rfl) (by kernel_rfl) (by kernel_rfl) (by kernel_rfl) (fun _ _ _ h => h) (Or.inl ⟨by rfl, ?hg1_3⟩) (by assumption) ?rg1_3
    case hg1_3 => (intro w hSw; (try dsimp only at hSw); first | (go_simp; done) | (go_simp; with_reducible rfl))
    (try simp only [Act.put, List.setIfInBounds_toArray, List.set_cons_zero, List.set_cons_succ])
    refine wpAnyT_take (i := 4) (oi := ⟨some 67, _, _, _, _, _⟩) (v := _) rfl (by kernel_rfl) (by kernel_rfl) (by kernel_rfl) (by kernel_rfl) (fun _ _ _ h => h) (yieldsIf_load_mid (by rfl) 33 _ rfl g (f * 4) rfl (kidc h y) _ (fun w hw => hw.2) Try.underlying33 rfl rnode_size) (by assumption) ?_
    (try simp only [Act.put, List.setIfInBounds_toArray, List.set_cons_zero, List.set_cons_succ])
    refine wpAnyT_take (i := 5) (oi := ⟨some 68, _, _, _, _, _⟩) (v := ?vg1_5) rfl (by kernel_rfl) (by kernel_rfl) (by kernel_rfl) (by kernel_rfl) (fun _ _ _ h => h) (Or.inl ⟨by rfl, ?hg1_5⟩) (by assumption) ?rg1_5
    case hg1_5 => (intro w hSw; (try dsimp only at hSw); first | (go_simp; done) | (go_simp; with_reducible rfl))
    (try simp only [Act.put, List.setIfInBounds_toArray, List.set_cons_zero, List.set_cons_succ])
    refine wpAnyT_take (i := 6) (oi := ⟨some 69, _, _, _, _, _⟩) (v := ?vg1_6) rfl (by kernel_rfl) (by kernel_rfl) (by kernel_rfl) (by kernel_rfl) (fun _ _ _ h => h) (Or.inl ⟨by rfl, ?hg1_6⟩) (by assumption) ?rg1_6
    case hg1_6 => (intro w hSw; (try dsimp only at hSw); first | (go_simp; done) | (go_simp; with_reducible rfl))
    (try simp only [Act.put, List.setIfInBounds_toArray, List.set_cons_zero, List.set_cons_succ])
    refine wpAnyT_take (i := 7) (oi := ⟨some 70, _, _, _, _, _⟩) (v := ?vg1_7) rfl (by kernel_rfl) (by kernel_rfl) (by kernel_rfl) (by kernel_rfl) (fun _ _ _ h => h) (Or.inl ⟨by rfl, ?hg1_7⟩) (by assumption) ?rg1_7
    case hg1_7 => (intro w hSw; (try dsimp only at hSw); first | (go_simp; done) | (go_simp; with_reducible rfl))
    (try simp only [Act.put, List.setIfInBounds_toArray, List.set_cons_zero, List.set_cons_succ])
    refine wpAnyT_take (i := 8) (oi := ⟨some 71, _, _, _, _, _⟩) (v := ?vg1_8) rfl (by kernel_rfl) (by kernel_rfl) (by kernel_rfl) (by kernel_rfl) (fun _ _ _ h => h) (Or.inl ⟨by rfl, ?hg1_8⟩) (by assumption) ?rg1_8
    case hg1_8 => (intro w hSw; (try dsimp only at hSw); first | (go_simp; done) | (go_simp; with_reducible rfl))
    (try simp only [Act.put, List.setIfInBounds_toArray, List.set_cons_zero, List.set_cons_succ])
    refine wpAnyT_take (i := 9) (oi := ⟨some 72, _, _, _, _, _⟩) (v := ?vg1_9) rfl (by kernel_rfl) (by kernel_rfl) (by kernel_rfl) (by kernel_rfl) (fun _ _ _ h => h) (Or.inl ⟨by rfl, ?hg1_9⟩) (by assumption) ?rg1_9
    case hg1_9 => (intro w hSw; (try dsimp only at hSw); first | (go_simp; done) | (go_simp; with_reducible rfl))
    (try simp only [Act.put, List.setIfInBounds_toArray, List.set_cons_zero, List.set_cons_succ])
    refine wpAnyT_take (i := 10) (oi := ⟨some 73, _, _, _, _, _⟩) (v := ?vg1_10) rfl (by kernel_rfl) (by kernel_rfl) (by kernel_rfl) (by kernel_rfl) (fun _ _ _ h => h) (Or.inl ⟨by rfl, ?hg1_10⟩) (by assumption) ?rg1_10
    case hg1_10 => (intro w hSw; (try dsimp only at hSw); first | (go_simp; done) | (go_simp; with_reducible rfl))
    (try simp only [Act.put, List.setIfInBounds_toArray, List.set_cons_zero, List.set_cons_succ])
    refine wpAnyT_take (i := 11) (oi := ⟨some 74, _, _, _, _, _⟩) (v := .int .i64 (yn : Int)) rfl (by kernel_rfl) (by kernel_rfl) (by kernel_rfl) (by kernel_rfl) (fun _ _ _ h => h) (Or.inl ⟨by rfl, ?hl11⟩) (by assumption) ?rl11
    case hl11 =>
      intro w hSw
      have hq : w.cell? ⟨g, f * 4, none⟩ = some (.int .i64 (yn : Int)) := by rw [HYN.out]; exact hSw.2 0 _ rfl
      (try dsimp only at hSw)
      go_simp
    (try simp only [Act.put, List.setIfInBounds_toArray, List.set_cons_zero, List.set_cons_succ])
    refine wpAnyT_ready (rs := [12, 13]) (by kernel_rfl) (by decide) (AllT.cons (o := ⟨some 75, _, _, _, _, _⟩) rfl (fun K hK => ?_) (AllT.cons (o := ⟨some 11, _, _, _, _, _⟩) rfl (fun K hK => ?_) AllT.nil))
    ·
      go_simp
      go_at_call 35
      refine (HRLEFT.out w5 HB5.out).mono ?_
      rintro e w6 ⟨cl, rfl, hrl, hb6⟩
      have HC26 := Lib.hid (((hb6).cell (p := ⟨W.heap.size, 2, none⟩) (World.block_lt_of_cell? _ _ HC25.out)).trans HC25.out)
      have HYR6 := Lib.hid (range_later HYR5.out hb6)
      have HZR6 := Lib.hid (range_later HZR5.out hb6)
      have HY6 := Lib.hid (((hb6).block _ (Array.getElem?_eq_some_iff.1 HY5.out).1).trans HY5.out)
      have HB6 := Lib.hid (HB5.out.trans ((hb6).mono HB5.out.size))
      have HRL6 := Lib.hid hrl
      have HBB6 := Lib.hid hb6.size
      clear hrl hb6
      (try dsimp only)
      refine hK.out _ _ (by first | exact ⟨HC25.out, HYR5.out⟩ | exact ⟨HC26.out, HYR6.out⟩ | exact ⟨HC27.out, HYR7.out⟩) (fun hHeld => ?_)
      clear hK K
      (try simp only [Act.put, List.setIfInBounds_toArray, List.set_cons_zero, List.set_cons_succ])
      refine wpAnyT_one (i := 13) (o := ⟨some 11, _, _, _, _, _⟩) (by kernel_rfl) rfl (fun K hK => ?_)
      go_simp
      obtain ⟨XL, hXL⟩ : ∃ XL, XL = w6.heap.size := ⟨_, rfl⟩
      obtain ⟨w7, hw7⟩ : ∃ w7, w7 = w6.alloc (.cells #[.int .i64 0, .int .i64 0, .slice none 0 0, .slice none 0 0] 33) := ⟨_, rfl⟩
      have hb7 : Below w6.heap.size w6 w7 := by rw [hw7]; exact Below.newly' _ _
      have HL7 : Hid (w7.heap[XL]? = some (.cells #[.int .i64 0, .int .i64 0, .slice none 0 0, .slice none 0 0] 33 (0, 0))) := by show _ = _; rw [hw7, hXL]; exact heap_alloc_last _ _
      have HC27 := Lib.hid (((hb7).cell (p := ⟨W.heap.size, 2, none⟩) (World.block_lt_of_cell? _ _ HC26.out)).trans HC26.out)
      have HYR7 := Lib.hid (range_later HYR6.out hb7)
      have HZR7 := Lib.hid (range_later HZR6.out hb7)
      have HY7 := Lib.hid (((hb7).block _ (Array.getElem?_eq_some_iff.1 HY6.out).1).trans HY6.out)
      have HB7 := Lib.hid (HB6.out.trans ((hb7).mono HB6.out.size))
      have HRL7 : Hid (RootR (fun g => ((S g ∧ g < W.heap.size) ∨ W.heap.size + 2 ≤ g) ∧ g ≠ XL) w7 cl (pieceL y.l b yn)) := (HRL6.out.old.later hb7).weak fun g hg => ⟨hg.1.imp_right fun h => Nat.le_trans HW5.out h, by have := hg.2; omega⟩
      have HXL : Hid (W.heap.size + 2 ≤ XL) := by show _ ≤ _; have := HW5.out; have := HBB6.out; omega
      rw [← hXL, ← hw7]
      clear hb7 hw7 hXL
      (try dsimp only)
      refine hK.out _ _ (by first | exact ⟨HC25.out, HYR5.out⟩ | exact ⟨HC26.out, HYR6.out⟩ | exact ⟨HC27.out, HYR7.out⟩) (fun hHeld => ?_)
      clear hK K
      (try simp only [Act.put, List.setIfInBounds_toArray, List.set_cons_zero, List.set_cons_succ])
      refine wpAnyT_last (i := 14) (o := ⟨none, _, _, _, _, _⟩) (by kernel_rfl) (by decide) rfl (fun K hK => ?_)
      refine st_agg_wp 33 _ _ rfl XL cl rfl rfl 33 _ HL7.out (by rw [HRL7.out.size]; exact rnode_size) (by rw [HRL7.out.size]; rfl) HRL7.out.one ?_
      intro w8 h8 k8
      refine hK.out _ _ ?_
      clear hK K
      (try simp only [Act.put, List.setIfInBounds_toArray, List.set_cons_zero, List.set_cons_succ])
      refine wpAnyT_done (by kernel_rfl) ?_ _
      have hxl := HXL.out
      have HLX8 := Lib.hid h8
      have HY8 := Lib.hid (k8.other HY7.out (by omega))
      have HB8 := Lib.hid (HB7.out.trans (k8.below (by omega)))
      have HC28 : Hid (w8.cell? ⟨W.heap.size, 2, none⟩ = some (.slice (some ⟨g, 0, none⟩) n c)) := (World.cell?_of_block (a := ⟨W.heap.size, 2, none⟩) (k8.by_.block _ (World.block_lt_of_cell? _ _ HC27.out) (by simp; omega))).trans HC27.out
      have HZR8 : Hid (w8.rangeAt g (l * 4) (kidc h z)) := fun j v hv => (World.cell?_of_block (a := ⟨g, l * 4 + j, none⟩) (k8.by_.block _ (World.block_lt_of_cell? _ _ (HZR7.out j v hv)) (by have := HGL.out; simp; omega))).trans (HZR7.out j v hv)
      have HRL8 : Hid (RootR (fun g => ((S g ∧ g < W.heap.size) ∨ W.heap.size + 2 ≤ g) ∧ g ≠ XL) w8 cl (pieceL y.l b yn)) := HRL7.out.kept k8.by_ (fun X e => by cases e; exact fun h => h.2 rfl)
      have HW8 : Hid (W.heap.size + 2 ≤ w8.heap.size) := by show _ ≤ _; have := (Array.getElem?_eq_some_iff.1 h8).1; omega
      clear h8 k8 hxl
      have cc8 := HC28.out
      go_upto_region 13 with (first
        | (refine wpList_load_mid rfl 33 _ rfl g (l * 4) rfl (kidc h z) _ HZR8.out Try.underlying33 rfl rnode_size ?_)
        | (go_at_call 35; refine (HRIGHT.out w8 HB8.out).mono ?_; rintro e w9 ⟨cr, rfl, hrr, hb9⟩; have HC29 := Lib.hid (((hb9).cell (p := ⟨W.heap.size, 2, none⟩) (World.block_lt_of_cell? _ _ HC28.out)).trans HC28.out); have HLX9 := Lib.hid (((hb9).block _ (Array.getElem?_eq_some_iff.1 HLX8.out).1).trans HLX8.out); have HY9 := Lib.hid (((hb9).block _ (Array.getElem?_eq_some_iff.1 HY8.out).1).trans HY8.out); have HB9 := Lib.hid (HB8.out.trans ((hb9).mono HB8.out.size)); have HRL9 := Lib.hid (HRL8.out.later hb9); have HRR9 := Lib.hid hrr; have HW9 := Lib.hid hb9.size; clear hrr hb9)
        | (refine st_agg rfl 33 _ _ rfl w9.heap.size cr rfl rfl 33 _ (heap_alloc_last _ _) (by rw [HRR9.out.size]; exact rnode_size) (by rw [HRR9.out.size]; rfl) HRR9.out.one ?_; intro w10 h10 k10; have HRX10 := Lib.hid h10; have HK10 : Hid (Below w9.heap.size w9 w10) := (Below.newly' _ _).trans (k10.below (Nat.le_refl _)); clear h10 k10))
      have hw8 := HW8.out
      have hw9 : w8.heap.size ≤ w9.heap.size := HW9.out
      have hb11 : Below w9.heap.size w9 w10.drew := HK10.out.trans ((drawn_below w10).mono HK10.out.size)
      have HC211 := Lib.hid (((hb11).cell (p := ⟨W.heap.size, 2, none⟩) (World.block_lt_of_cell? _ _ HC29.out)).trans HC29.out)
      have HLX11 := Lib.hid (((hb11).block _ (Array.getElem?_eq_some_iff.1 HLX9.out).1).trans HLX9.out)
      have HY11 := Lib.hid (((hb11).block _ (Array.getElem?_eq_some_iff.1 HY9.out).1).trans HY9.out)
      have HB11 := Lib.hid (HB9.out.trans ((hb11).mono HB9.out.size))
      have HRL11 := Lib.hid (HRL9.out.later hb11)
      have HRX11 : Hid (w10.drew.heap[w9.heap.size]? = some (.cells cr 33 (0, 0))) := HRX10.out
      have HRR11 : Hid (RootR (fun g => ((S g ∧ g < W.heap.size) ∨ W.heap.size + 2 ≤ g) ∧ True) w10.drew cr (pieceL z.l 0 e1)) := (HRR9.out.later hb11).weak fun g hg => ⟨hg.imp_right fun h => by omega, trivial⟩
      obtain ⟨w11, hw11⟩ : ∃ w11, w11 = w10.drew := ⟨_, rfl⟩
      have HW11 : Hid (W.heap.size + 2 ≤ w11.heap.size) := by show _ ≤ _; have := hb11.size; rw [hw11]; omega
      have HCLS : Hid (cl.size = 4) := HRL8.out.size
      have HCRS : Hid (cr.size = 4) := HRR9.out.size
      rw [← hw11] at HC211 HLX11 HY11 HB11 HRL11 HRX11 HRR11
      clear hb11 hw8 hw9
      refine wp_region_T (S := fun V => V.heap[XL]? = some (.cells cl 33 (0, 0)) ∧ V.heap[w9.heap.size]? = some (.cells cr 33 (0, 0)) ∧ V.cell? ⟨W.heap.size, 2, none⟩ = some (.slice (some ⟨g, 0, none⟩) n c)) [11] (by kernel_rfl) (by rw [← hw11]; exact ⟨HLX11.out, HRX11.out, HC211.out⟩) (fun hHeld => ?_)
      rw [← hw11] at hHeld ⊢
      clear hw11
      refine wpAnyT_take (i := 0) (oi := ⟨some 84, _, _, _, _, _⟩) (v := _) rfl (by kernel_rfl) (by kernel_rfl) (by kernel_rfl) (by kernel_rfl) (fun _ _ _ h => h) (yieldsIf_load_row (by rfl) 33 _ rfl XL rfl cl 33 (0, 0) _ (fun w hw => hw.1) Try.underlying33 rfl (by rw [HCLS.out]; exact rnode_size)) (by assumption) ?_
      (try simp only [Act.put, List.setIfInBounds_toArray, List.set_cons_zero, List.set_cons_succ])
      refine wpAnyT_take (i := 1) (oi := ⟨some 85, _, _, _, _, _⟩) (v := ?vg2_1) rfl (by kernel_rfl) (by kernel_rfl) (by kernel_rfl) (by kernel_rfl) (fun _ _ _ h => h) (Or.inl ⟨by rfl, ?hg2_1⟩) (by assumption) ?rg2_1
      case hg2_1 => (intro w hSw; (try dsimp only at hSw); first | (go_simp; done) | (go_simp; with_reducible rfl))
      (try simp only [Act.put, List.setIfInBounds_toArray, List.set_cons_zero, List.set_cons_succ])
      refine wpAnyT_take (i := 2) (oi := ⟨some 86, _, _, _, _, _⟩) (v := ?vg2_2) rfl (by kernel_rfl) (by kernel_rfl) (by kernel_rfl) (by kernel_rfl) (fun _ _ _ h => h) (Or.inl ⟨by rfl, ?hg2_2⟩) (by assumption) ?rg2_2
      case hg2_2 => (intro w hSw; (try dsimp only at hSw); first | (go_simp; done) | (go_simp; with_reducible rfl))
      (try simp only [Act.put, List.setIfInBounds_toArray, List.set_cons_zero, List.set_cons_succ])
      refine wpAnyT_take (i := 3) (oi := ⟨some 87, _, _, _, _, _⟩) (v := ?vg2_3) rfl (by kernel_rfl) (by kernel_rfl) (by kernel_rfl) (by kernel_rfl) (fun _ _ _ h => h) (Or.inl ⟨by rfl, ?hg2_3⟩) (by assumption) ?rg2_3
      case hg2_3 => (intro w hSw; (try dsimp only at hSw); first | (go_simp; done) | (go_simp; with_reducible rfl))
      (try simp only [Act.put, List.setIfInBounds_toArray, List.set_cons_zero, List.set_cons_succ])
      refine wpAnyT_take (i := 4) (oi := ⟨some 88, _, _, _, _, _⟩) (v := ?vg2_4) rfl (by kernel_rfl) (by kernel_rfl) (by kernel_rfl) (by kernel_rfl) (fun _ _ _ h => h) (Or.inl ⟨by rfl, ?hg2_4⟩) (by assumption) ?rg2_4
      case hg2_4 => (intro w hSw; (try dsimp only at hSw); first | (go_simp; done) | (go_simp; with_reducible rfl))
      (try simp only [Act.put, List.setIfInBounds_toArray, List.set_cons_zero, List.set_cons_succ])
      refine wpAnyT_take (i := 5) (oi := ⟨some 89, _, _, _, _, _⟩) (v := ?vg2_5) rfl (by kernel_rfl) (by kernel_rfl) (by kernel_rfl) (by kernel_rfl) (fun _ _ _ h => h) (Or.inl ⟨by rfl, ?hg2_5⟩) (by assumption) ?rg2_5
      case hg2_5 => (intro w hSw; (try dsimp only at hSw); first | (go_simp; done) | (go_simp; with_reducible rfl))
      (try simp only [Act.put, List.setIfInBounds_toArray, List.set_cons_zero, List.set_cons_succ])
      refine wpAnyT_take (i := 6) (oi := ⟨some 90, _, _, _, _, _⟩) (v := ?vg2_6) rfl (by kernel_rfl) (by kernel_rfl) (by kernel_rfl) (by kernel_rfl) (fun _ _ _ h => h) (Or.inl ⟨by rfl, ?hg2_6⟩) (by assumption) ?rg2_6
      case hg2_6 => (intro w hSw; (try dsimp only at hSw); first | (go_simp; done) | (go_simp; with_reducible rfl))
      (try simp only [Act.put, List.setIfInBounds_toArray, List.set_cons_zero, List.set_cons_succ])
      refine wpAnyT_take (i := 9) (oi := ⟨some 93, _, _, _, _, _⟩) (v := _) rfl (by kernel_rfl) (by kernel_rfl) (by kernel_rfl) (by kernel_rfl) (fun _ _ _ h => h) (yieldsIf_load_row (by rfl) 33 _ rfl w9.heap.size rfl cr 33 (0, 0) _ (fun w hw => hw.2.1) Try.underlying33 rfl (by rw [HCRS.out]; exact rnode_size)) (by assumption) ?_
      (try simp only [Act.put, List.setIfInBounds_toArray, List.set_cons_zero, List.set_cons_succ])
      refine wpAnyT_one (i := 7) (o := ⟨some 91, _, _, _, _, _⟩) (by kernel_rfl) rfl (fun K hK => ?_)
      go_simp
      go_at_call 30
      refine (rp_top (S := fun g => S g ∧ g < W.heap.size) w11 h _ mid ⟨HMC.out.later HB11.out, fun q hq => (HMK.out q hq).2.later HB11.out⟩ (fun q hq => ⟨fun _ => (HMK.out q hq).1, fun _ => .inr (Nat.le_trans (by decide) (HMK.out q hq).1)⟩) HML.out).mono ?_
      rintro e w12 ⟨cm, rfl, hrm, hb12⟩
      have HC212 := Lib.hid (((hb12).cell (p := ⟨W.heap.size, 2, none⟩) (World.block_lt_of_cell? _ _ HC211.out)).trans HC211.out)
      have HLX12 := Lib.hid (((hb12).block _ (Array.getElem?_eq_some_iff.1 HLX11.out).1).trans HLX11.out)
      have HRX12 := Lib.hid (((hb12).block _ (Array.getElem?_eq_some_iff.1 HRX11.out).1).trans HRX11.out)
      have HY12 := Lib.hid (((hb12).block _ (Array.getElem?_eq_some_iff.1 HY11.out).1).trans HY11.out)
      have HB12 := Lib.hid (HB11.out.trans ((hb12).mono HB11.out.size))
      have HRL12 := Lib.hid (HRL11.out.later hb12)
      have HRR12 := Lib.hid (HRR11.out.later hb12)
      have HRM12 := Lib.hid hrm
      have HBB12 := Lib.hid hb12.size
      clear hrm hb12
      (try dsimp only)
      refine hK.out _ _ (by first | exact ⟨HLX11.out, HRX11.out, HC211.out⟩ | exact ⟨HLX12.out, HRX12.out, HC212.out⟩ | exact ⟨HLX13.out, HRX13.out, HC213.out⟩ | exact ⟨HLX14.out, HRX14.out, HC214.out⟩) (fun hHeld => ?_)
      clear hK K
      (try simp only [Act.put, List.setIfInBounds_toArray, List.set_cons_zero, List.set_cons_succ])
      refine wpAnyT_one (i := 8) (o := ⟨some 92, _, _, _, _, _⟩) (by kernel_rfl) rfl (fun K hK => ?_)
      go_simp
      go_at_call 37
      refine (rp_concat (S := (fun g => (S g ∧ g < W.heap.size) ∨ W.heap.size + 2 ≤ g)) w12 (HRL12.out.weak fun g hg => hg.1) (HRM12.out.weak fun g hg => hg.imp_right fun h => Nat.le_trans HW11.out h) HLEN.out.1).mono ?_
      rintro e w13 ⟨c13, rfl, hr13, hb13⟩
      have HC213 := Lib.hid (((hb13).cell (p := ⟨W.heap.size, 2, none⟩) (World.block_lt_of_cell? _ _ HC212.out)).trans HC212.out)
      have HLX13 := Lib.hid (((hb13).block _ (Array.getElem?_eq_some_iff.1 HLX12.out).1).trans HLX12.out)
      have HRX13 := Lib.hid (((hb13).block _ (Array.getElem?_eq_some_iff.1 HRX12.out).1).trans HRX12.out)
      have HY13 := Lib.hid (((hb13).block _ (Array.getElem?_eq_some_iff.1 HY12.out).1).trans HY12.out)
      have HB13 := Lib.hid (HB12.out.trans ((hb13).mono HB12.out.size))
      have HRR13 := Lib.hid (HRR12.out.later hb13)
      have HR13 := Lib.hid hr13
      have HBB13 := Lib.hid hb13.size
      clear hr13 hb13
      (try dsimp only)
      refine hK.out _ _ (by first | exact ⟨HLX11.out, HRX11.out, HC211.out⟩ | exact ⟨HLX12.out, HRX12.out, HC212.out⟩ | exact ⟨HLX13.out, HRX13.out, HC213.out⟩ | exact ⟨HLX14.out, HRX14.out, HC214.out⟩) (fun hHeld => ?_)
      clear hK K
      (try simp only [Act.put, List.setIfInBounds_toArray, List.set_cons_zero, List.set_cons_succ])
      refine wpAnyT_one (i := 10) (o := ⟨some 94, _, _, _, _, _⟩) (by kernel_rfl) rfl (fun K hK => ?_)
      go_simp
      go_at_call 37
      refine (rp_concat (S := (fun g => (S g ∧ g < W.heap.size) ∨ W.heap.size + 2 ≤ g)) w13 (HR13.out.weak fun g hg => hg.elim id fun h => .inr (Nat.le_trans HW11.out (Nat.le_trans HBB12.out h))) (HRR13.out.weak fun g hg => hg.1) HLEN.out.2).mono ?_
      rintro e w14 ⟨c14, rfl, hr14, hb14⟩
      have HC214 := Lib.hid (((hb14).cell (p := ⟨W.heap.size, 2, none⟩) (World.block_lt_of_cell? _ _ HC213.out)).trans HC213.out)
      have HLX14 := Lib.hid (((hb14).block _ (Array.getElem?_eq_some_iff.1 HLX13.out).1).trans HLX13.out)
      have HRX14 := Lib.hid (((hb14).block _ (Array.getElem?_eq_some_iff.1 HRX13.out).1).trans HRX13.out)
      have HY14 := Lib.hid (((hb14).block _ (Array.getElem?_eq_some_iff.1 HY13.out).1).trans HY13.out)
      have HB14 := Lib.hid (HB13.out.trans ((hb14).mono HB13.out.size))
      have HR14 := Lib.hid hr14
      clear hr14 hb14
      (try dsimp only)
      refine hK.out _ _ (by first | exact ⟨HLX11.out, HRX11.out, HC211.out⟩ | exact ⟨HLX12.out, HRX12.out, HC212.out⟩ | exact ⟨HLX13.out, HRX13.out, HC213.out⟩ | exact ⟨HLX14.out, HRX14.out, HC214.out⟩) (fun hHeld => ?_)
      clear hK K
      (try simp only [Act.put, List.setIfInBounds_toArray, List.set_cons_zero, List.set_cons_succ])
      refine wpAnyT_last (i := 11) (o := ⟨none, _, _, _, _, _⟩) (by kernel_rfl) (by decide) rfl (fun K hK => ?_)
      refine st_agg_wp 33 _ _ rfl (W.heap.size + 1) c14 rfl rfl 33 _ HY14.out (by rw [HR14.out.size]; exact rnode_size) (by rw [HR14.out.size]; rfl) HR14.out.one ?_
      intro w15 h15 k15
      refine hK.out _ _ ?_
      clear hK K
      (try simp only [Act.put, List.setIfInBounds_toArray, List.set_cons_zero, List.set_cons_succ])
      refine wpAnyT_done (by kernel_rfl) ?_ _
      go_wp2_with fail
      refine bodyPost_ret (results_cell_row rfl _ _ (W.heap.size + 1) 33 _ (0, 0) _ rfl h15 Try.underlying33 rfl (by rw [HR14.out.size]; exact rnode_size)) rfl ⟨_, rfl, ?_, HB14.out.trans (k15.below (by omega))⟩
      have hw11 := HW11.out
      have hb12 := HBB12.out
      have hb13 := HBB13.out
      rw [HPC.out]
      refine ((HR14.out.kept k15.by_ (fun X e => by cases e; rintro ((⟨_, h⟩ | h) | h) <;> omega))).weak fun g hg => ?_
      rcases hg with (hg | hg) | hg
      · exact .inl hg.1
      · exact .inr (by omega)
      · exact .inr (by omega)
    ·
      go_simp
      obtain ⟨XL, hXL⟩ : ∃ XL, XL = w5.heap.size := ⟨_, rfl⟩
      obtain ⟨w6, hw6⟩ : ∃ w6, w6 = w5.alloc (.cells #[.int .i64 0, .int .i64 0, .slice none 0 0, .slice none 0 0] 33) := ⟨_, rfl⟩
      have hb6 : Below w5.heap.size w5 w6 := by rw [hw6]; exact Below.newly' _ _
      have HL6 : Hid (w6.heap[XL]? = some (.cells #[.int .i64 0, .int .i64 0, .slice none 0 0, .slice none 0 0] 33 (0, 0))) := by show _ = _; rw [hw6, hXL]; exact heap_alloc_last _ _
      have HS6 : Hid (w6.heap.size = XL + 1) := by show _ = _; rw [hw6, hXL]; simp
      have HC26 := Lib.hid (((hb6).cell (p := ⟨W.heap.size, 2, none⟩) (World.block_lt_of_cell? _ _ HC25.out)).trans HC25.out)
      have HYR6 := Lib.hid (range_later HYR5.out hb6)
      have HZR6 := Lib.hid (range_later HZR5.out hb6)
      have HY6 := Lib.hid (((hb6).block _ (Array.getElem?_eq_some_iff.1 HY5.out).1).trans HY5.out)
      have HB6 := Lib.hid (HB5.out.trans ((hb6).mono HB5.out.size))
      have HXL : Hid (W.heap.size + 2 ≤ XL) := by show _ ≤ _; have := HW5.out; omega
      rw [← hXL, ← hw6]
      clear hb6 hw6 hXL
      (try dsimp only)
      refine hK.out _ _ (by first | exact ⟨HC25.out, HYR5.out⟩ | exact ⟨HC26.out, HYR6.out⟩ | exact ⟨HC27.out, HYR7.out⟩) (fun hHeld => ?_)
      clear hK K
      (try simp only [Act.put, List.setIfInBounds_toArray, List.set_cons_zero, List.set_cons_succ])
      refine wpAnyT_one (i := 12) (o := ⟨some 75, _, _, _, _, _⟩) (by kernel_rfl) rfl (fun K hK => ?_)
      go_simp
      go_at_call 35
      refine (HRLEFT.out w6 HB6.out).mono ?_
      rintro e w7 ⟨cl, rfl, hrl, hb7⟩
      have HC27 := Lib.hid (((hb7).cell (p := ⟨W.heap.size, 2, none⟩) (World.block_lt_of_cell? _ _ HC26.out)).trans HC26.out)
      have HYR7 := Lib.hid (range_later HYR6.out hb7)
      have HZR7 := Lib.hid (range_later HZR6.out hb7)
      have HY7 := Lib.hid (((hb7).block _ (Array.getElem?_eq_some_iff.1 HY6.out).1).trans HY6.out)
      have HB7 := Lib.hid (HB6.out.trans ((hb7).mono HB6.out.size))
      have HL7 := Lib.hid (((hb7).block _ (Array.getElem?_eq_some_iff.1 HL6.out).1).trans HL6.out)
      have HRL7 : Hid (RootR (fun g => ((S g ∧ g < W.heap.size) ∨ W.heap.size + 2 ≤ g) ∧ g ≠ XL) w7 cl (pieceL y.l b yn)) := hrl.weak fun g hg => by have h1 := HS6.out; have h2 := HXL.out; rcases hg with hg | hg; exact ⟨.inl hg, by omega⟩; exact ⟨.inr (by omega), by omega⟩
      have HBB7 := Lib.hid hb7.size
      clear hrl hb7
      (try dsimp only)
      refine hK.out _ _ (by first | exact ⟨HC25.out, HYR5.out⟩ | exact ⟨HC26.out, HYR6.out⟩ | exact ⟨HC27.out, HYR7.out⟩) (fun hHeld => ?_)
      clear hK K
      (try simp only [Act.put, List.setIfInBounds_toArray, List.set_cons_zero, List.set_cons_succ])
      refine wpAnyT_last (i := 14) (o := ⟨none, _, _, _, _, _⟩) (by kernel_rfl) (by decide) rfl (fun K hK => ?_)
      refine st_agg_wp 33 _ _ rfl XL cl rfl rfl 33 _ HL7.out (by rw [HRL7.out.size]; exact rnode_size) (by rw [HRL7.out.size]; rfl) HRL7.out.one ?_
      intro w8 h8 k8
      refine hK.out _ _ ?_
      clear hK K
      (try simp only [Act.put, List.setIfInBounds_toArray, List.set_cons_zero, List.set_cons_succ])
      refine wpAnyT_done (by kernel_rfl) ?_ _
      have hxl := HXL.out
      have HLX8 := Lib.hid h8
      have HY8 := Lib.hid (k8.other HY7.out (by omega))
      have HB8 := Lib.hid (HB7.out.trans (k8.below (by omega)))
      have HC28 : Hid (w8.cell? ⟨W.heap.size, 2, none⟩ = some (.slice (some ⟨g, 0, none⟩) n c)) := (World.cell?_of_block (a := ⟨W.heap.size, 2, none⟩) (k8.by_.block _ (World.block_lt_of_cell? _ _ HC27.out) (by simp; omega))).trans HC27.out
      have HZR8 : Hid (w8.rangeAt g (l * 4) (kidc h z)) := fun j v hv => (World.cell?_of_block (a := ⟨g, l * 4 + j, none⟩) (k8.by_.block _ (World.block_lt_of_cell? _ _ (HZR7.out j v hv)) (by have := HGL.out; simp; omega))).trans (HZR7.out j v hv)
      have HRL8 : Hid (RootR (fun g => ((S g ∧ g < W.heap.size) ∨ W.heap.size + 2 ≤ g) ∧ g ≠ XL) w8 cl (pieceL y.l b yn)) := HRL7.out.kept k8.by_ (fun X e => by cases e; exact fun h => h.2 rfl)
      have HW8 : Hid (W.heap.size + 2 ≤ w8.heap.size) := by show _ ≤ _; have := (Array.getElem?_eq_some_iff.1 h8).1; omega
      clear h8 k8 hxl
      have cc8 := HC28.out
      go_upto_region 13 with (first
        | (refine wpList_load_mid rfl 33 _ rfl g (l * 4) rfl (kidc h z) _ HZR8.out Try.underlying33 rfl rnode_size ?_)
        | (go_at_call 35; refine (HRIGHT.out w8 HB8.out).mono ?_; rintro e w9 ⟨cr, rfl, hrr, hb9⟩; have HC29 := Lib.hid (((hb9).cell (p := ⟨W.heap.size, 2, none⟩) (World.block_lt_of_cell? _ _ HC28.out)).trans HC28.out); have HLX9 := Lib.hid (((hb9).block _ (Array.getElem?_eq_some_iff.1 HLX8.out).1).trans HLX8.out); have HY9 := Lib.hid (((hb9).block _ (Array.getElem?_eq_some_iff.1 HY8.out).1).trans HY8.out); have HB9 := Lib.hid (HB8.out.trans ((hb9).mono HB8.out.size)); have HRL9 := Lib.hid (HRL8.out.later hb9); have HRR9 := Lib.hid hrr; have HW9 := Lib.hid hb9.size; clear hrr hb9)
        | (refine st_agg rfl 33 _ _ rfl w9.heap.size cr rfl rfl 33 _ (heap_alloc_last _ _) (by rw [HRR9.out.size]; exact rnode_size) (by rw [HRR9.out.size]; rfl) HRR9.out.one ?_; intro w10 h10 k10; have HRX10 := Lib.hid h10; have HK10 : Hid (Below w9.heap.size w9 w10) := (Below.newly' _ _).trans (k10.below (Nat.le_refl _)); clear h10 k10))
      have hw8 := HW8.out
      have hw9 : w8.heap.size ≤ w9.heap.size := HW9.out
      have hb11 : Below w9.heap.size w9 w10.drew := HK10.out.trans ((drawn_below w10).mono HK10.out.size)
      have HC211 := Lib.hid (((hb11).cell (p := ⟨W.heap.size, 2, none⟩) (World.block_lt_of_cell? _ _ HC29.out)).trans HC29.out)
      have HLX11 := Lib.hid (((hb11).block _ (Array.getElem?_eq_some_iff.1 HLX9.out).1).trans HLX9.out)
      have HY11 := Lib.hid (((hb11).block _ (Array.getElem?_eq_some_iff.1 HY9.out).1).trans HY9.out)
      have HB11 := Lib.hid (HB9.out.trans ((hb11).mono HB9.out.size))
      have HRL11 := Lib.hid (HRL9.out.later hb11)
      have HRX11 : Hid (w10.drew.heap[w9.heap.size]? = some (.cells cr 33 (0, 0))) := HRX10.out
      have HRR11 : Hid (RootR (fun g => ((S g ∧ g < W.heap.size) ∨ W.heap.size + 2 ≤ g) ∧ True) w10.drew cr (pieceL z.l 0 e1)) := (HRR9.out.later hb11).weak fun g hg => ⟨hg.imp_right fun h => by omega, trivial⟩
      obtain ⟨w11, hw11⟩ : ∃ w11, w11 = w10.drew := ⟨_, rfl⟩
      have HW11 : Hid (W.heap.size + 2 ≤ w11.heap.size) := by show _ ≤ _; have := hb11.size; rw [hw11]; omega
      have HCLS : Hid (cl.size = 4) := HRL8.out.size
      have HCRS : Hid (cr.size = 4) := HRR9.out.size
      rw [← hw11] at HC211 HLX11 HY11 HB11 HRL11 HRX11 HRR11
      clear hb11 hw8 hw9
      refine wp_region_T (S := fun V => V.heap[XL]? = some (.cells cl 33 (0, 0)) ∧ V.heap[w9.heap.size]? = some (.cells cr 33 (0, 0)) ∧ V.cell? ⟨W.heap.size, 2, none⟩ = some (.slice (some ⟨g, 0, none⟩) n c)) [11] (by kernel_rfl) (by rw [← hw11]; exact ⟨HLX11.out, HRX11.out, HC211.out⟩) (fun hHeld => ?_)
      rw [← hw11] at hHeld ⊢
      clear hw11
      refine wpAnyT_take (i := 0) (oi := ⟨some 84, _, _, _, _, _⟩) (v := _) rfl (by kernel_rfl) (by kernel_rfl) (by kernel_rfl) (by kernel_rfl) (fun _ _ _ h => h) (yieldsIf_load_row (by rfl) 33 _ rfl XL rfl cl 33 (0, 0) _ (fun w hw => hw.1) Try.underlying33 rfl (by rw [HCLS.out]; exact rnode_size)) (by assumption) ?_
      (try simp only [Act.put, List.setIfInBounds_toArray, List.set_cons_zero, List.set_cons_succ])
      refine wpAnyT_take (i := 1) (oi := ⟨some 85, _, _, _, _, _⟩) (v := ?vg3_1) rfl (by kernel_rfl) (by kernel_rfl) (by kernel_rfl) (by kernel_rfl) (fun _ _ _ h => h) (Or.inl ⟨by rfl, ?hg3_1⟩) (by assumption) ?rg3_1
      case hg3_1 => (intro w hSw; (try dsimp only at hSw); first | (go_simp; done) | (go_simp; with_reducible rfl))
      (try simp only [Act.put, List.setIfInBounds_toArray, List.set_cons_zero, List.set_cons_succ])
      refine wpAnyT_take (i := 2) (oi := ⟨some 86, _, _, _, _, _⟩) (v := ?vg3_2) rfl (by kernel_rfl) (by kernel_rfl) (by kernel_rfl) (by kernel_rfl) (fun _ _ _ h => h) (Or.inl ⟨by rfl, ?hg3_2⟩) (by assumption) ?rg3_2
      case hg3_2 => (intro w hSw; (try dsimp only at hSw); first | (go_simp; done) | (go_simp; with_reducible rfl))
      (try simp only [Act.put, List.setIfInBounds_toArray, List.set_cons_zero, List.set_cons_succ])
      refine wpAnyT_take (i := 3) (oi := ⟨some 87, _, _, _, _, _⟩) (v := ?vg3_3) rfl (by kernel_rfl) (by kernel_rfl) (by kernel_rfl) (by kernel_rfl) (fun _ _ _ h => h) (Or.inl ⟨by rfl, ?hg3_3⟩) (by assumption) ?rg3_3
      case hg3_3 => (intro w hSw; (try dsimp only at hSw); first | (go_simp; done) | (go_simp; with_reducible rfl))
      (try simp only [Act.put, List.setIfInBounds_toArray, List.set_cons_zero, List.set_cons_succ])
      refine wpAnyT_take (i := 4) (oi := ⟨some 88, _, _, _, _, _⟩) (v := ?vg3_4) rfl (by kernel_rfl) (by kernel_rfl) (by kernel_rfl) (by kernel_rfl) (fun _ _ _ h => h) (Or.inl ⟨by rfl, ?hg3_4⟩) (by assumption) ?rg3_4
      case hg3_4 => (intro w hSw; (try dsimp only at hSw); first | (go_simp; done) | (go_simp; with_reducible rfl))
      (try simp only [Act.put, List.setIfInBounds_toArray, List.set_cons_zero, List.set_cons_succ])
      refine wpAnyT_take (i := 5) (oi := ⟨some 89, _, _, _, _, _⟩) (v := ?vg3_5) rfl (by kernel_rfl) (by kernel_rfl) (by kernel_rfl) (by kernel_rfl) (fun _ _ _ h => h) (Or.inl ⟨by rfl, ?hg3_5⟩) (by assumption) ?rg3_5
      case hg3_5 => (intro w hSw; (try dsimp only at hSw); first | (go_simp; done) | (go_simp; with_reducible rfl))
      (try simp only [Act.put, List.setIfInBounds_toArray, List.set_cons_zero, List.set_cons_succ])
      refine wpAnyT_take (i := 6) (oi := ⟨some 90, _, _, _, _, _⟩) (v := ?vg3_6) rfl (by kernel_rfl) (by kernel_rfl) (by kernel_rfl) (by kernel_rfl) (fun _ _ _ h => h) (Or.inl ⟨by rfl, ?hg3_6⟩) (by assumption) ?rg3_6
      case hg3_6 => (intro w hSw; (try dsimp only at hSw); first | (go_simp; done) | (go_simp; with_reducible rfl))
      (try simp only [Act.put, List.setIfInBounds_toArray, List.set_cons_zero, List.set_cons_succ])
      refine wpAnyT_take (i := 9) (oi := ⟨some 93, _, _, _, _, _⟩) (v := _) rfl (by kernel_rfl) (by kernel_rfl) (by kernel_rfl) (by kernel_rfl) (fun _ _ _ h => h) (yieldsIf_load_row (by rfl) 33 _ rfl w9.heap.size rfl cr 33 (0, 0) _ (fun w hw => hw.2.1) Try.underlying33 rfl (by rw [HCRS.out]; exact rnode_size)) (by assumption) ?_
      (try simp only [Act.put, List.setIfInBounds_toArray, List.set_cons_zero, List.set_cons_succ])
      refine wpAnyT_one (i := 7) (o := ⟨some 91, _, _, _, _, _⟩) (by kernel_rfl) rfl (fun K hK => ?_)
      go_simp
      go_at_call 30
      refine (rp_top (S := fun g => S g ∧ g < W.heap.size) w11 h _ mid ⟨HMC.out.later HB11.out, fun q hq => (HMK.out q hq).2.later HB11.out⟩ (fun q hq => ⟨fun _ => (HMK.out q hq).1, fun _ => .inr (Nat.le_trans (by decide) (HMK.out q hq).1)⟩) HML.out).mono ?_
      rintro e w12 ⟨cm, rfl, hrm, hb12⟩
      have HC212 := Lib.hid (((hb12).cell (p := ⟨W.heap.size, 2, none⟩) (World.block_lt_of_cell? _ _ HC211.out)).trans HC211.out)
      have HLX12 := Lib.hid (((hb12).block _ (Array.getElem?_eq_some_iff.1 HLX11.out).1).trans HLX11.out)
      have HRX12 := Lib.hid (((hb12).block _ (Array.getElem?_eq_some_iff.1 HRX11.out).1).trans HRX11.out)
      have HY12 := Lib.hid (((hb12).block _ (Array.getElem?_eq_some_iff.1 HY11.out).1).trans HY11.out)
      have HB12 := Lib.hid (HB11.out.trans ((hb12).mono HB11.out.size))
      have HRL12 := Lib.hid (HRL11.out.later hb12)
      have HRR12 := Lib.hid (HRR11.out.later hb12)
      have HRM12 := Lib.hid hrm
      have HBB12 := Lib.hid hb12.size
      clear hrm hb12
      (try dsimp only)
      refine hK.out _ _ (by first | exact ⟨HLX11.out, HRX11.out, HC211.out⟩ | exact ⟨HLX12.out, HRX12.out, HC212.out⟩ | exact ⟨HLX13.out, HRX13.out, HC213.out⟩ | exact ⟨HLX14.out, HRX14.out, HC214.out⟩) (fun hHeld => ?_)
      clear hK K
      (try simp only [Act.put, List.setIfInBounds_toArray, List.set_cons_zero, List.set_cons_succ])
      refine wpAnyT_one (i := 8) (o := ⟨some 92, _, _, _, _, _⟩) (by kernel_rfl) rfl (fun K hK => ?_)
      go_simp
      go_at_call 37
      refine (rp_concat (S := (fun g => (S g ∧ g < W.heap.size) ∨ W.heap.size + 2 ≤ g)) w12 (HRL12.out.weak fun g hg => hg.1) (HRM12.out.weak fun g hg => hg.imp_right fun h => Nat.le_trans HW11.out h) HLEN.out.1).mono ?_
      rintro e w13 ⟨c13, rfl, hr13, hb13⟩
      have HC213 := Lib.hid (((hb13).cell (p := ⟨W.heap.size, 2, none⟩) (World.block_lt_of_cell? _ _ HC212.out)).trans HC212.out)
      have HLX13 := Lib.hid (((hb13).block _ (Array.getElem?_eq_some_iff.1 HLX12.out).1).trans HLX12.out)
      have HRX13 := Lib.hid (((hb13).block _ (Array.getElem?_eq_some_iff.1 HRX12.out).1).trans HRX12.out)
      have HY13 := Lib.hid (((hb13).block _ (Array.getElem?_eq_some_iff.1 HY12.out).1).trans HY12.out)
      have HB13 := Lib.hid (HB12.out.trans ((hb13).mono HB12.out.size))
      have HRR13 := Lib.hid (HRR12.out.later hb13)
      have HR13 := Lib.hid hr13
      have HBB13 := Lib.hid hb13.size
      clear hr13 hb13
      (try dsimp only)
      refine hK.out _ _ (by first | exact ⟨HLX11.out, HRX11.out, HC211.out⟩ | exact ⟨HLX12.out, HRX12.out, HC212.out⟩ | exact ⟨HLX13.out, HRX13.out, HC213.out⟩ | exact ⟨HLX14.out, HRX14.out, HC214.out⟩) (fun hHeld => ?_)
      clear hK K
      (try simp only [Act.put, List.setIfInBounds_toArray, List.set_cons_zero, List.set_cons_succ])
      refine wpAnyT_one (i := 10) (o := ⟨some 94, _, _, _, _, _⟩) (by kernel_rfl) rfl (fun K hK => ?_)
      go_simp
      go_at_call 37
      refine (rp_concat (S := (fun g => (S g ∧ g < W.heap.size) ∨ W.heap.size + 2 ≤ g)) w13 (HR13.out.weak fun g hg => hg.elim id fun h => .inr (Nat.le_trans HW11.out (Nat.le_trans HBB12.out h))) (HRR13.out.weak fun g hg => hg.1) HLEN.out.2).mono ?_
      rintro e w14 ⟨c14, rfl, hr14, hb14⟩
      have HC214 := Lib.hid (((hb14).cell (p := ⟨W.heap.size, 2, none⟩) (World.block_lt_of_cell? _ _ HC213.out)).trans HC213.out)
      have HLX14 := Lib.hid (((hb14).block _ (Array.getElem?_eq_some_iff.1 HLX13.out).1).trans HLX13.out)
      have HRX14 := Lib.hid (((hb14).block _ (Array.getElem?_eq_some_iff.1 HRX13.out).1).trans HRX13.out)
      have HY14 := Lib.hid (((hb14).block _ (Array.getElem?_eq_some_iff.1 HY13.out).1).trans HY13.out)
      have HB14 := Lib.hid (HB13.out.trans ((hb14).mono HB13.out.size))
      have HR14 := Lib.hid hr14
      clear hr14 hb14
      (try dsimp only)
      refine hK.out _ _ (by first | exact ⟨HLX11.out, HRX11.out, HC211.out⟩ | exact ⟨HLX12.out, HRX12.out, HC212.out⟩ | exact ⟨HLX13.out, HRX13.out, HC213.out⟩ | exact ⟨HLX14.out, HRX14.out, HC214.out⟩) (fun hHeld => ?_)
      clear hK K
      (try simp only [Act.put, List.setIfInBounds_toArray, List.set_cons_zero, List.set_cons_succ])
      refine wpAnyT_last (i := 11) (o := ⟨none, _, _, _, _, _⟩) (by kernel_rfl) (by decide) rfl (fun K hK => ?_)
      refine st_agg_wp 33 _ _ rfl (W.heap.size + 1) c14 rfl rfl 33 _ HY14.out (by rw [HR14.out.size]; exact rnode_size) (by rw [HR14.out.size]; rfl) HR14.out.one ?_
      intro w15 h15 k15
      refine hK.out _ _ ?_
      clear hK K
      (try simp only [Act.put, List.setIfInBounds_toArray, List.set_cons_zero, List.set_cons_succ])
      refine wpAnyT_done (by kernel_rfl) ?_ _
      go_wp2_with fail
      refine bodyPost_ret (results_cell_row rfl _ _ (W.heap.size + 1) 33 _ (0, 0) _ rfl h15 Try.underlying33 rfl (by rw [HR14.out.size]; exact rnode_size)) rfl ⟨_, rfl, ?_, HB14.out.trans (k15.below (by omega))⟩
      have hw11 := HW11.out
      have hb12 := HBB12.out
      have hb13 := HBB13.out
      rw [HPC.out]
      refine ((HR14.out.kept k15.by_ (fun X e => by cases e; rintro ((⟨_, h⟩ | h) | h) <;> omega))).weak fun g hg => ?_
      rcases hg with (hg | hg) | hg
      · exact .inl hg.1
      · exact .inr (by omega)
      · exact .inr (by omega)
end Go.Proofs.Ytldemoflgahdgaa
