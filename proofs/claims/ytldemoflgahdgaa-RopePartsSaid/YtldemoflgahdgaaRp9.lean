/- Package rope: node.insert. (written by tools/gen08/insert8.py) -/
import Derived.Test.YtldemoflgahdgaaRp8
namespace Go.Proofs.Ytldemoflgahdgaa
open Go.RowKit
set_option maxRecDepth 1000000
set_option linter.unusedSimpArgs false

/-- x put into l at i. -/
def insL (l : List Int) (i : Nat) (x : Int) : List Int := l.take i ++ x :: l.drop i
theorem insL_len {l : List Int} {i : Nat} {x : Int} : (insL l i x).length = l.length + 1 := by
  unfold insL
  rw [List.length_append, List.length_cons, List.length_take, List.length_drop]
  omega
theorem insL_mid {A B C : List Int} {r : Nat} {x : Int} (hr : r ≤ B.length) : insL (A ++ B ++ C) (A.length + r) x = A ++ insL B r x ++ C := by
  unfold insL
  rw [List.append_assoc A B C, List.take_append, List.take_of_length_le (by omega), List.drop_append, List.drop_of_length_le (by omega), Nat.add_sub_cancel_left, List.take_append_of_le_length hr, List.drop_append_of_le_length hr]
  simp
theorem cut_one (w : World) (x : Int) : CutAt (fun _ => True) (w.alloc (.cells #[.int .i64 x] 3)) 1 (.slice (some ⟨w.heap.size, 0, none⟩) 1 1) (iv [x]) 1 :=
  ⟨_, 1, rfl, Nat.le_refl _, rfl, .inr ⟨_, 0, rfl, trivial, by simp, fun j u hu => by
    rw [Nat.zero_add]
    exact cell_in (heap_alloc_last _ _) (by rw [← Array.getElem?_toList]; exact hu)⟩⟩
/-- insert, at a leaf, or at the zero node. -/
def LeafIns (hv : Nat) : Prop := ∀ (S : Nat → Prop) (W : World) (b : Value) (l : List Int) (i : Nat) (x : Int), HeadAt S W 3 1 b (iv l) l.length → l.length ≤ 16 → i ≤ l.length →
    Calls Try.prog 38 #[.agg #[.int .i64 (l.length : Int), .int .i64 (hv : Int), .slice none 0 0, b], .int .i64 (i : Int), .int .i64 x] W fun e W' => ∃ v, e = .returned v ∧ ∃ ks, NodesR (fun g => W.heap.size ≤ g) W' 0 v ks ∧ catK ks = insL l i x ∧ Fit (l.length + 1) ks ∧ Below W.heap.size W W'
/-- What node.insert does at that height. -/
def InsDoes (h : Nat) : Prop := ∀ (S : Nat → Prop) (W : World) (p : Kid) (i : Nat) (x : Int) (m : Nat), NodeR S W h p → i ≤ p.l.length → p.l.length ≤ 50000 → m ≤ 8 → m ≤ p.k →
    Calls Try.prog 38 #[.agg (kidc h p).toArray, .int .i64 (i : Int), .int .i64 x] W fun e W' => ∃ v, e = .returned v ∧ ∃ ks, NodesR (fun g => S g ∨ W.heap.size ≤ g) W' h v ks ∧ catK ks = insL p.l i x ∧ (1 ≤ ks.length ∧ ks.length ≤ 2) ∧
      (∀ y ∈ ks, m ≤ y.k ∧ (2 ≤ ks.length → 8 ≤ y.k)) ∧ Below W.heap.size W W'
set_option maxHeartbeats 1000000 in
theorem ins_leaf (hv : Nat) : LeafIns hv := by
  intro S W b l i x hb hl hi
  obtain ⟨q, c, rfl, _⟩ := hb.shape
  obtain ⟨w2, hw2⟩ : ∃ w2, W.alloc (.cells #[.int .i64 (l.length : Int), .int .i64 (hv : Int), .slice none 0 0, .slice q l.length c] 33) = w2 := ⟨_, rfl⟩
  obtain ⟨hb2, hx2, hs2⟩ := nodes_new hw2
  have HB2 := Lib.hid hb2
  have ca2 : w2.cell? ⟨W.heap.size, 2, none⟩ = some (.slice none 0 0) := cell_in hx2 rfl
  have HK2 : Hid (w2.drew.cell? ⟨W.heap.size, 3, none⟩ = some (.slice q l.length c)) := cell_in (W := w2) hx2 rfl
  have hcut := hb.cut.weak (S' := fun _ => True) (fun _ _ => trivial)
  obtain ⟨a1, c1, hc1, hr1⟩ := cut_h 31 tl_sl tl_size hcut (hi := i) hi
  obtain ⟨a2, c2, hc2, hr2⟩ := cut_l 31 tl_sl tl_size hcut (lo := i) hi
  rw [Nat.mul_one, iv, ← List.map_take] at hc1
  rw [Nat.mul_one, iv, ← List.map_drop] at hc2
  have HC1 : Hid (CutAt (fun _ => True) W 1 (.slice a1 i c1) (iv (l.take i)) (l.take i).length) := by
    show CutAt _ _ _ _ _ _
    rwa [show (l.take i).length = i by rw [List.length_take]; omega]
  have HC2 : Hid (CutAt (fun _ => True) W 1 (.slice a2 (l.length - i) c2) (iv (l.drop i)) (l.drop i).length) := by
    show CutAt _ _ _ _ _ _
    rwa [show (l.drop i).length = l.length - i by rw [List.length_drop]]
  have HL := Lib.hid hl
  have hnil := nodes_none
  clear hb hl hi hb2 hx2 hs2 hcut hc1 hc2
  go_enter Try.func38, Try.ntmps38
  go_upto_region 1 with fail
  clear hw2
  go_upto_region 2 with fail
  refine wp_region_T (S := fun V => V.cell? ⟨W.heap.size, 3, none⟩ = some (.slice q l.length c)) [12] (by kernel_rfl) (by first | exact HK2.out | exact HK3.out | exact HK4.out | exact HK5.out) (fun hHeld => ?_)
  refine wpAnyT_take (i := 0) (oi := ⟨some 11, _, _, _, _, _⟩) (v := ?vg1_0) rfl (by kernel_rfl) (by kernel_rfl) (by kernel_rfl) (by kernel_rfl) (fun _ _ _ h => h) (Or.inl ⟨by rfl, ?hg1_0⟩) (by assumption) ?rg1_0
  case hg1_0 => (intro w hSw; (try dsimp only at hSw); first | (go_simp; done) | (go_simp; with_reducible rfl))
  (try simp only [Act.put, List.setIfInBounds_toArray, List.set_cons_zero, List.set_cons_succ])
  refine wpAnyT_take (i := 1) (oi := ⟨some 12, _, _, _, _, _⟩) (v := ?vg1_1) rfl (by kernel_rfl) (by kernel_rfl) (by kernel_rfl) (by kernel_rfl) (fun _ _ _ h => h) (Or.inl ⟨by rfl, ?hg1_1⟩) (by assumption) ?rg1_1
  case hg1_1 => (intro w hSw; (try dsimp only at hSw); first | (go_simp; done) | (go_simp; with_reducible rfl))
  (try simp only [Act.put, List.setIfInBounds_toArray, List.set_cons_zero, List.set_cons_succ])
  refine wpAnyT_take (i := 2) (oi := ⟨some 13, _, _, _, _, _⟩) (v := ?vg1_2) rfl (by kernel_rfl) (by kernel_rfl) (by kernel_rfl) (by kernel_rfl) (fun _ _ _ h => h) (Or.inl ⟨by rfl, ?hg1_2⟩) (by assumption) ?rg1_2
  case hg1_2 => (intro w hSw; (try dsimp only at hSw); first | (go_simp; done) | (go_simp; with_reducible rfl))
  (try simp only [Act.put, List.setIfInBounds_toArray, List.set_cons_zero, List.set_cons_succ])
  refine wpAnyT_take (i := 3) (oi := ⟨some 14, _, _, _, _, _⟩) (v := ?vg1_3) rfl (by kernel_rfl) (by kernel_rfl) (by kernel_rfl) (by kernel_rfl) (fun _ _ _ h => h) (Or.inl ⟨by rfl, ?hg1_3⟩) (by assumption) ?rg1_3
  case hg1_3 => (intro w hSw; (try dsimp only at hSw); first | (go_simp; done) | (go_simp; with_reducible rfl))
  (try simp only [Act.put, List.setIfInBounds_toArray, List.set_cons_zero, List.set_cons_succ])
  refine wpAnyT_take (i := 4) (oi := ⟨some 15, _, _, _, _, _⟩) (v := ?vg1_4) rfl (by kernel_rfl) (by kernel_rfl) (by kernel_rfl) (by kernel_rfl) (fun _ _ _ h => h) (Or.inl ⟨by rfl, ?hg1_4⟩) (by assumption) ?rg1_4
  case hg1_4 => (intro w hSw; (try dsimp only at hSw); first | (go_simp; done) | (go_simp; with_reducible rfl))
  (try simp only [Act.put, List.setIfInBounds_toArray, List.set_cons_zero, List.set_cons_succ])
  refine wpAnyT_take (i := 6) (oi := ⟨some 17, _, _, _, _, _⟩) (v := ?vg1_6) rfl (by kernel_rfl) (by kernel_rfl) (by kernel_rfl) (by kernel_rfl) (fun _ _ _ h => h) (Or.inl ⟨by rfl, ?hg1_6⟩) (by assumption) ?rg1_6
  case hg1_6 => (intro w hSw; (try dsimp only at hSw); first | (go_simp; done) | (go_simp; with_reducible rfl))
  (try simp only [Act.put, List.setIfInBounds_toArray, List.set_cons_zero, List.set_cons_succ])
  refine wpAnyT_take (i := 7) (oi := ⟨some 18, _, _, _, _, _⟩) (v := ?vg1_7) rfl (by kernel_rfl) (by kernel_rfl) (by kernel_rfl) (by kernel_rfl) (fun _ _ _ h => h) (Or.inl ⟨by rfl, ?hg1_7⟩) (by assumption) ?rg1_7
  case hg1_7 => (intro w hSw; (try dsimp only at hSw); first | (go_simp; done) | (go_simp; with_reducible rfl))
  (try simp only [Act.put, List.setIfInBounds_toArray, List.set_cons_zero, List.set_cons_succ])
  refine wpAnyT_take (i := 8) (oi := ⟨some 19, _, _, _, _, _⟩) (v := ?vg1_8) rfl (by kernel_rfl) (by kernel_rfl) (by kernel_rfl) (by kernel_rfl) (fun _ _ _ h => h) (Or.inl ⟨by rfl, ?hg1_8⟩) (by assumption) ?rg1_8
  case hg1_8 => (intro w hSw; (try dsimp only at hSw); first | (go_simp; done) | (go_simp; with_reducible rfl))
  (try simp only [Act.put, List.setIfInBounds_toArray, List.set_cons_zero, List.set_cons_succ])
  refine wpAnyT_take (i := 9) (oi := ⟨some 20, _, _, _, _, _⟩) (v := ?vg1_9) rfl (by kernel_rfl) (by kernel_rfl) (by kernel_rfl) (by kernel_rfl) (fun _ _ _ h => h) (Or.inl ⟨by rfl, ?hg1_9⟩) (by assumption) ?rg1_9
  case hg1_9 => (intro w hSw; (try dsimp only at hSw); first | (go_simp; done) | (go_simp; with_reducible rfl))
  (try simp only [Act.put, List.setIfInBounds_toArray, List.set_cons_zero, List.set_cons_succ])
  refine wpAnyT_one (i := 5) (o := ⟨some 16, _, _, _, _, _⟩) (by kernel_rfl) rfl (fun K hK => ?_)
  go_simp
  have hn3 := Below.newly' w2 (.cells #[.int .i64 x] 3)
  have hb3 : Below w2.drew.heap.size w2.drew (w2.alloc (.cells #[.int .i64 x] 3)).drew := ⟨hn3.os, hn3.tape, hn3.output, hn3.size, hn3.block⟩
  have HK3 := Lib.hid (((hb3).cell (p := ⟨W.heap.size, 3, none⟩) (World.block_lt_of_cell? _ _ HK2.out)).trans HK2.out)
  obtain ⟨w3, hw3⟩ : ∃ w3, w3 = (w2.alloc (.cells #[.int .i64 x] 3)).drew := ⟨_, rfl⟩
  have HO3 : Hid (CutAt (fun _ => True) w3 1 (.slice (some ⟨w2.heap.size, 0, none⟩) 1 1) (iv [x]) 1) := by show CutAt _ _ _ _ _ _; rw [hw3]; exact (cut_one w2 x).later (drawn_below _)
  have HB3 : Hid (Below W.heap.size W w3) := by show Below _ _ _; rw [hw3]; exact HB2.out.trans ((hn3.trans ((drawn_below _).mono hn3.size)).mono HB2.out.size)
  rw [← hw3] at HK3 ⊢
  clear hb3 hw3 hn3
  (try dsimp only)
  refine hK.out _ _ (by first | exact HK2.out | exact HK3.out | exact HK4.out | exact HK5.out) (fun hHeld => ?_)
  clear hK K
  (try simp only [Act.put, List.setIfInBounds_toArray, List.set_cons_zero, List.set_cons_succ])
  refine wpAnyT_one (i := 10) (o := ⟨some 21, _, _, _, _, _⟩) (by kernel_rfl) rfl (fun K hK => ?_)
  go_simp
  have hb4 := Below.newly' w3 (.cells #[.slice a1 i c1, .slice (some ⟨w2.heap.size, 0, none⟩) 1 1, .slice a2 (l.length - i) c2] 31)
  have HK4 := Lib.hid (((hb4).cell (p := ⟨W.heap.size, 3, none⟩) (World.block_lt_of_cell? _ _ HK3.out)).trans HK3.out)
  clear hb4
  (try dsimp only)
  refine hK.out _ _ (by first | exact HK2.out | exact HK3.out | exact HK4.out | exact HK5.out) (fun hHeld => ?_)
  clear hK K
  (try simp only [Act.put, List.setIfInBounds_toArray, List.set_cons_zero, List.set_cons_succ])
  refine wpAnyT_one (i := 11) (o := ⟨some 22, _, _, _, _, _⟩) (by kernel_rfl) rfl (fun K hK => ?_)
  go_simp
  go_at_call 31
  refine (leaves_new (S := fun _ => True) w3 [(.slice a1 i c1, l.take i), (.slice (some ⟨w2.heap.size, 0, none⟩) 1 1, [x]), (.slice a2 (l.length - i) c2, l.drop i)] ?_ (insL l i x) (by simp [catE, insL]) (by rw [insL_len]; have := HL.out; omega) (by simp)).mono ?_
  · intro y hy
    simp only [List.mem_cons, List.not_mem_nil, or_false] at hy
    rcases hy with rfl | rfl | rfl
    · exact HC1.out.later HB3.out
    · exact HO3.out
    · exact HC2.out.later HB3.out
  rintro e w5 ⟨v5, rfl, kn, hn5, hc5, hf5, hb5⟩
  have HK5 := Lib.hid (((hb5).cell (p := ⟨W.heap.size, 3, none⟩) (World.block_lt_of_cell? _ _ HK3.out)).trans HK3.out)
  have HN5 := Lib.hid hn5
  have HC5 := Lib.hid hc5
  have HF5 := Lib.hid hf5
  have HB5 := Lib.hid (HB3.out.trans (hb5.mono HB3.out.size))
  clear hb5 hn5 hc5 hf5
  (try dsimp only)
  refine hK.out _ _ (by first | exact HK2.out | exact HK3.out | exact HK4.out | exact HK5.out) (fun hHeld => ?_)
  clear hK K
  (try simp only [Act.put, List.setIfInBounds_toArray, List.set_cons_zero, List.set_cons_succ])
  refine wpAnyT_last (i := 12) (o := ⟨some 6, _, _, _, _, _⟩) (by kernel_rfl) (by decide) rfl (fun K hK => ?_)
  go_simp
  refine hK.out _ _ ?_
  clear hK K
  (try simp only [Act.put, List.setIfInBounds_toArray, List.set_cons_zero, List.set_cons_succ])
  refine wpAnyT_done (by kernel_rfl) ?_ _
  go_wp2_with fail
  go_ret
  refine ⟨_, rfl, kn, HN5.out.weak fun g hg => Nat.le_trans HB3.out.size hg, HC5.out, ?_, HB5.out⟩
  have hf := HF5.out
  rwa [insL_len] at hf
set_option maxHeartbeats 1000000 in
theorem ins_inner (h : Nat) (ih : InsDoes h) : InsDoes (h + 1) := by
  intro S W p i x m hp hi hN hm8 hm
  obtain ⟨w2, hw2⟩ : ∃ w2, W.alloc (.cells (kidc (h + 1) p).toArray 33) = w2 := ⟨_, rfl⟩
  obtain ⟨hb2, hx2, hs2⟩ := nodes_new hw2
  have HB2 := Lib.hid hb2
  have HX2 := Lib.hid hx2
  have HS2 := Lib.hid hs2
  obtain ⟨hpb, hk1, hk16, ks, hh, hkl, hl, hks⟩ := hp
  obtain ⟨n, hn⟩ : ∃ n, n = p.k := ⟨_, rfl⟩
  rw [← hn] at hk1 hk16 hh hkl hm
  have HWAY := Lib.hid (rp_way w2 h n i p ks (hh.later hb2) hkl hk1 hk16 (by rw [← hl]; omega) (by rw [← hl]; omega))
  have HHO := Lib.hid hh.cut
  obtain ⟨g, c, cur, fr, hpa, hcap, hS, hg, hcs⟩ := hh.pos hk1
  rw [hpa] at HHO
  have ca2 : w2.cell? ⟨W.heap.size, 2, none⟩ = some (.slice (some ⟨g, 0, none⟩) n c) := by rw [← hpa]; exact cell_in hx2 rfl
  have HRG : Hid (∀ k (hk : k < ks.length), w2.rangeAt g (k * 4) (kidc h ks[k])) := fun k hk => range_later (en_range (h := h) hg hcs hk) hb2
  have HP := Lib.hid (And.intro hk1 (And.intro hk16 (And.intro hkl (And.intro hl (And.intro hi (And.intro hm8 hm))))))
  have HKS := Lib.hid hks
  have HLN := Lib.hid hN
  have hnil := fun w => nodes_some ⟨g, 0, none⟩ n c w
  have hn16 : (n : Int) ≤ 16 := by omega
  clear hb2 hx2 hs2 hpb hk1 hk16 hh hkl hl hks hn hpa hcap hS hg hcs hi hN hm8 hm
  go_enter Try.func38, Try.ntmps38
  go_upto_region 1 with fail
  clear hw2
  go_upto_region 4 with (first
    | (refine ld_if rfl 33 _ rfl W.heap.size rfl 33 _ _ _ HX2.out Try.underlying33 rfl rnode_size ?_)
    | (go_at_call 29; refine HWAY.out.mono ?_; rintro e w3 ⟨k, r, rfl, hwy, hb3⟩; have HWYY := Lib.hid hwy; have HBB3 := Lib.hid hb3; clear hwy hb3))
  obtain ⟨hkk, hir, hr1, hr2⟩ := HWYY.out
  have hpp := HP.out
  have hb3 : Below w2.heap.size w2 w3.drew := HBB3.out.trans ((drawn_below w3).mono HBB3.out.size)
  have HK3 : Hid (w3.drew.cell? ⟨W.heap.size, 2, none⟩ = some (.slice (some ⟨g, 0, none⟩) n c) ∧ w3.drew.rangeAt g (k * 4) (kidc h ks[k])) :=
    ⟨(hb3.cell (p := ⟨W.heap.size, 2, none⟩) (World.block_lt_of_cell? _ _ ca2)).trans ca2, range_later (HRG.out k hkk) hb3⟩
  have HB3 := Lib.hid (HB2.out.trans (hb3.mono HB2.out.size))
  have HBW3 : Hid (W.heap.size ≤ w3.drew.heap.size) := HB3.out.size
  have hyl : ks[k].l.length ≤ p.l.length := by
    have h1 := congrArg List.length (cat_split hkk)
    rw [List.length_append, List.length_append, ← hpp.2.2.2.1] at h1
    omega
  have HREC := Lib.hid (ih (fun g => S g ∧ g < W.heap.size) w3.drew ks[k] r x 8 ((HKS.out _ (List.getElem_mem hkk)).2.old.later HB3.out) hr1 (by have := HLN.out; omega) (Nat.le_refl _) (HKS.out _ (List.getElem_mem hkk)).1)
  obtain ⟨k1, hk1⟩ : ∃ k1, k1 = k + 1 := ⟨_, rfl⟩
  have HCAT : Hid (insL p.l i x = catK (ks.take k) ++ insL ks[k].l r x ++ catK (ks.drop k1)) := by
    show _ = _
    rw [hpp.2.2.2.1, hir, cat_split hkk, hk1]
    exact insL_mid hr1
  obtain ⟨a1, c1, hc1, hrun1⟩ := cut_h 30 tn_sl tn_size HHO.out (hi := k) (by omega)
  have hkw : IntKind.i64.wrap ((k : Int) + 1) = (k1 : Int) := by rw [IntKind.wrap_i64]; omega
  obtain ⟨a2, c2, hc2, hrun2⟩ := cut_l 30 tn_sl tn_size HHO.out (lo := k1) (by omega)
  rw [en_take (kidc_len h)] at hc1
  rw [en_drop (kidc_len h)] at hc2
  have HC1 : Hid (CutAt S W 4 (.slice a1 k c1) (en (kidc h) (ks.take k)) (ks.take k).length) := by
    show CutAt _ _ _ _ _ _
    rwa [show (ks.take k).length = k by rw [List.length_take]; omega]
  have HC2 : Hid (CutAt S W 4 (.slice a2 (n - k1) c2) (en (kidc h) (ks.drop k1)) (ks.drop k1).length) := by
    show CutAt _ _ _ _ _ _
    rwa [show (ks.drop k1).length = n - k1 by rw [List.length_drop]; omega]
  have HXL : Hid (∀ k4 : List Kid, (ks.take k ++ (k4 ++ ks.drop k1)).length = n - 1 + k4.length) := by
    intro k4
    rw [List.length_append, List.length_append, List.length_take, List.length_drop]
    omega
  obtain ⟨y, hy⟩ : ∃ y, y = ks[k] := ⟨_, rfl⟩
  rw [← hy] at HK3 HREC HCAT
  have hkn : (k : Int) < (n : Int) := by omega
  have hkn' : k < n := by omega
  clear hkk hir hr1 hr2 hpp hb3 hyl hy ca2 hc1 hc2 hk1
  refine wp_region_T (S := fun V => V.cell? ⟨W.heap.size, 2, none⟩ = some (.slice (some ⟨g, 0, none⟩) n c) ∧ V.rangeAt g (k * 4) (kidc h y)) [19] (by kernel_rfl) (by first | exact HK3.out | exact HK4.out | exact HK5.out | exact HK6.out) (fun hHeld => ?_)
  refine wpAnyT_take (i := 0) (oi := ⟨some 29, _, _, _, _, _⟩) (v := ?vg2_0) rfl (by kernel_rfl) (by kernel_rfl) (by kernel_rfl) (by kernel_rfl) (fun _ _ _ h => h) (Or.inl ⟨by rfl, ?hg2_0⟩) (by assumption) ?rg2_0
  case hg2_0 => (intro w hSw; (try dsimp only at hSw); first | (go_simp; done) | (go_simp; with_reducible rfl))
  (try simp only [Act.put, List.setIfInBounds_toArray, List.set_cons_zero, List.set_cons_succ])
  refine wpAnyT_take (i := 1) (oi := ⟨some 30, _, _, _, _, _⟩) (v := ?vg2_1) rfl (by kernel_rfl) (by kernel_rfl) (by kernel_rfl) (by kernel_rfl) (fun _ _ _ h => h) (Or.inl ⟨by rfl, ?hg2_1⟩) (by assumption) ?rg2_1
  case hg2_1 => (intro w hSw; (try dsimp only at hSw); first | (go_simp; done) | (go_simp; with_reducible rfl))
  (try simp only [Act.put, List.setIfInBounds_toArray, List.set_cons_zero, List.set_cons_succ])
  refine wpAnyT_take (i := 2) (oi := ⟨some 31, _, _, _, _, _⟩) (v := ?vg2_2) rfl (by kernel_rfl) (by kernel_rfl) (by kernel_rfl) (by kernel_rfl) (fun _ _ _ h => h) (Or.inl ⟨by rfl, ?hg2_2⟩) (by assumption) ?rg2_2
  case hg2_2 => (intro w hSw; (try dsimp only at hSw); first | (go_simp; done) | (go_simp; with_reducible rfl))
  (try simp only [Act.put, List.setIfInBounds_toArray, List.set_cons_zero, List.set_cons_succ])
  refine wpAnyT_take (i := 3) (oi := ⟨some 32, _, _, _, _, _⟩) (v := ?vg2_3) rfl (by kernel_rfl) (by kernel_rfl) (by kernel_rfl) (by kernel_rfl) (fun _ _ _ h => h) (Or.inl ⟨by rfl, ?hg2_3⟩) (by assumption) ?rg2_3
  case hg2_3 => (intro w hSw; (try dsimp only at hSw); first | (go_simp; done) | (go_simp; with_reducible rfl))
  (try simp only [Act.put, List.setIfInBounds_toArray, List.set_cons_zero, List.set_cons_succ])
  refine wpAnyT_take (i := 4) (oi := ⟨some 33, _, _, _, _, _⟩) (v := ?vg2_4) rfl (by kernel_rfl) (by kernel_rfl) (by kernel_rfl) (by kernel_rfl) (fun _ _ _ h => h) (Or.inl ⟨by rfl, ?hg2_4⟩) (by assumption) ?rg2_4
  case hg2_4 => (intro w hSw; (try dsimp only at hSw); first | (go_simp; done) | (go_simp; with_reducible rfl))
  (try simp only [Act.put, List.setIfInBounds_toArray, List.set_cons_zero, List.set_cons_succ])
  refine wpAnyT_take (i := 5) (oi := ⟨some 34, _, _, _, _, _⟩) (v := ?vg2_5) rfl (by kernel_rfl) (by kernel_rfl) (by kernel_rfl) (by kernel_rfl) (fun _ _ _ h => h) (Or.inl ⟨by rfl, ?hg2_5⟩) (by assumption) ?rg2_5
  case hg2_5 => (intro w hSw; (try dsimp only at hSw); first | (go_simp; done) | (go_simp; with_reducible rfl))
  (try simp only [Act.put, List.setIfInBounds_toArray, List.set_cons_zero, List.set_cons_succ])
  refine wpAnyT_take (i := 6) (oi := ⟨some 35, _, _, _, _, _⟩) (v := ?vg2_6) rfl (by kernel_rfl) (by kernel_rfl) (by kernel_rfl) (by kernel_rfl) (fun _ _ _ h => h) (Or.inl ⟨by rfl, ?hg2_6⟩) (by assumption) ?rg2_6
  case hg2_6 => (intro w hSw; (try dsimp only at hSw); first | (go_simp; done) | (go_simp; with_reducible rfl))
  (try simp only [Act.put, List.setIfInBounds_toArray, List.set_cons_zero, List.set_cons_succ])
  refine wpAnyT_take (i := 7) (oi := ⟨some 36, _, _, _, _, _⟩) (v := ?vg2_7) rfl (by kernel_rfl) (by kernel_rfl) (by kernel_rfl) (by kernel_rfl) (fun _ _ _ h => h) (Or.inl ⟨by rfl, ?hg2_7⟩) (by assumption) ?rg2_7
  case hg2_7 => (intro w hSw; (try dsimp only at hSw); first | (go_simp; done) | (go_simp; with_reducible rfl))
  (try simp only [Act.put, List.setIfInBounds_toArray, List.set_cons_zero, List.set_cons_succ])
  refine wpAnyT_take (i := 8) (oi := ⟨some 37, _, _, _, _, _⟩) (v := _) rfl (by kernel_rfl) (by kernel_rfl) (by kernel_rfl) (by kernel_rfl) (fun _ _ _ h => h) (yieldsIf_load_mid (by rfl) 33 _ rfl g (k * 4) rfl (kidc h y) _ (fun w hw => hw.2) Try.underlying33 rfl rnode_size) (by assumption) ?_
  (try simp only [Act.put, List.setIfInBounds_toArray, List.set_cons_zero, List.set_cons_succ])
  refine wpAnyT_take (i := 9) (oi := ⟨some 38, _, _, _, _, _⟩) (v := ?vg2_9) rfl (by kernel_rfl) (by kernel_rfl) (by kernel_rfl) (by kernel_rfl) (fun _ _ _ h => h) (Or.inl ⟨by rfl, ?hg2_9⟩) (by assumption) ?rg2_9
  case hg2_9 => (intro w hSw; (try dsimp only at hSw); first | (go_simp; done) | (go_simp; with_reducible rfl))
  (try simp only [Act.put, List.setIfInBounds_toArray, List.set_cons_zero, List.set_cons_succ])
  refine wpAnyT_take (i := 10) (oi := ⟨some 39, _, _, _, _, _⟩) (v := ?vg2_10) rfl (by kernel_rfl) (by kernel_rfl) (by kernel_rfl) (by kernel_rfl) (fun _ _ _ h => h) (Or.inl ⟨by rfl, ?hg2_10⟩) (by assumption) ?rg2_10
  case hg2_10 => (intro w hSw; (try dsimp only at hSw); first | (go_simp; done) | (go_simp; with_reducible rfl))
  (try simp only [Act.put, List.setIfInBounds_toArray, List.set_cons_zero, List.set_cons_succ])
  refine wpAnyT_take (i := 12) (oi := ⟨some 41, _, _, _, _, _⟩) (v := ?vg2_12) rfl (by kernel_rfl) (by kernel_rfl) (by kernel_rfl) (by kernel_rfl) (fun _ _ _ h => h) (Or.inl ⟨by rfl, ?hg2_12⟩) (by assumption) ?rg2_12
  case hg2_12 => (intro w hSw; (try dsimp only at hSw); first | (go_simp; done) | (go_simp; with_reducible rfl))
  (try simp only [Act.put, List.setIfInBounds_toArray, List.set_cons_zero, List.set_cons_succ])
  refine wpAnyT_take (i := 13) (oi := ⟨some 42, _, _, _, _, _⟩) (v := ?vg2_13) rfl (by kernel_rfl) (by kernel_rfl) (by kernel_rfl) (by kernel_rfl) (fun _ _ _ h => h) (Or.inl ⟨by rfl, ?hg2_13⟩) (by assumption) ?rg2_13
  case hg2_13 => (intro w hSw; (try dsimp only at hSw); first | (go_simp; done) | (go_simp; with_reducible rfl))
  (try simp only [Act.put, List.setIfInBounds_toArray, List.set_cons_zero, List.set_cons_succ])
  refine wpAnyT_take (i := 14) (oi := ⟨some 43, _, _, _, _, _⟩) (v := ?vg2_14) rfl (by kernel_rfl) (by kernel_rfl) (by kernel_rfl) (by kernel_rfl) (fun _ _ _ h => h) (Or.inl ⟨by rfl, ?hg2_14⟩) (by assumption) ?rg2_14
  case hg2_14 => (intro w hSw; (try dsimp only at hSw); first | (go_simp; done) | (go_simp; with_reducible rfl))
  (try simp only [Act.put, List.setIfInBounds_toArray, List.set_cons_zero, List.set_cons_succ])
  refine wpAnyT_take (i := 15) (oi := ⟨some 44, _, _, _, _, _⟩) (v := ?vg2_15) rfl (by kernel_rfl) (by kernel_rfl) (by kernel_rfl) (by kernel_rfl) (fun _ _ _ h => h) (Or.inl ⟨by rfl, ?hg2_15⟩) (by assumption) ?rg2_15
  case hg2_15 => (intro w hSw; (try dsimp only at hSw); first | (go_simp; done) | (go_simp; with_reducible rfl))
  (try simp only [Act.put, List.setIfInBounds_toArray, List.set_cons_zero, List.set_cons_succ])
  refine wpAnyT_take (i := 16) (oi := ⟨some 45, _, _, _, _, _⟩) (v := ?vg2_16) rfl (by kernel_rfl) (by kernel_rfl) (by kernel_rfl) (by kernel_rfl) (fun _ _ _ h => h) (Or.inl ⟨by rfl, ?hg2_16⟩) (by assumption) ?rg2_16
  case hg2_16 => (intro w hSw; (try dsimp only at hSw); first | (go_simp; done) | (go_simp; with_reducible rfl))
  (try simp only [Act.put, List.setIfInBounds_toArray, List.set_cons_zero, List.set_cons_succ])
  refine wpAnyT_one (i := 11) (o := ⟨some 40, _, _, _, _, _⟩) (by kernel_rfl) rfl (fun K hK => ?_)
  go_simp
  go_at_call 38
  refine HREC.out.mono ?_
  rintro e w4 ⟨v4, rfl, k4, hn4, hc4, hl4, hx4, hb4⟩
  obtain ⟨a4, n4, rfl, _⟩ := hn4.1.shape
  have HK4 := Lib.hid (show _ ∧ _ from ⟨((hb4).cell (p := ⟨W.heap.size, 2, none⟩) (World.block_lt_of_cell? _ _ HK3.out.1)).trans HK3.out.1, range_later HK3.out.2 hb4⟩)
  have HB4 := Lib.hid (HB3.out.trans (hb4.mono HB3.out.size))
  have HN4 := Lib.hid hn4
  have HC4 := Lib.hid hc4
  have HL4 := Lib.hid (And.intro hl4 hx4)
  clear hb4 hn4 hc4 hl4 hx4
  (try dsimp only)
  refine hK.out _ _ (by first | exact HK3.out | exact HK4.out | exact HK5.out | exact HK6.out) (fun hHeld => ?_)
  clear hK K
  (try simp only [Act.put, List.setIfInBounds_toArray, List.set_cons_zero, List.set_cons_succ])
  refine wpAnyT_one (i := 17) (o := ⟨some 46, _, _, _, _, _⟩) (by kernel_rfl) rfl (fun K hK => ?_)
  go_simp
  have hb5 := Below.newly' w4 (.cells #[.slice a1 k c1, .slice a4 k4.length n4, .slice a2 (n - k1) c2] 30)
  have HK5 := Lib.hid (show _ ∧ _ from ⟨((hb5).cell (p := ⟨W.heap.size, 2, none⟩) (World.block_lt_of_cell? _ _ HK4.out.1)).trans HK4.out.1, range_later HK4.out.2 hb5⟩)
  clear hb5
  (try dsimp only)
  refine hK.out _ _ (by first | exact HK3.out | exact HK4.out | exact HK5.out | exact HK6.out) (fun hHeld => ?_)
  clear hK K
  (try simp only [Act.put, List.setIfInBounds_toArray, List.set_cons_zero, List.set_cons_succ])
  refine wpAnyT_one (i := 18) (o := ⟨some 47, _, _, _, _, _⟩) (by kernel_rfl) rfl (fun K hK => ?_)
  go_simp
  go_at_call 45
  refine (inners_new (S := fun g => S g ∨ W.heap.size ≤ g) w4 h [(.slice a1 k c1, ks.take k), (.slice a4 k4.length n4, k4), (.slice a2 (n - k1) c2, ks.drop k1)] ?_ (ks.take k ++ (k4 ++ ks.drop k1)) (by simp [catE]) ?_ ?_ (by simp)).mono ?_
  · intro z hz
    have hbw := HBW3.out
    simp only [List.mem_cons, List.not_mem_nil, or_false] at hz
    rcases hz with rfl | rfl | rfl
    · exact ((HC1.out.later HB4.out).weak fun g hg => .inl hg)
    · exact HN4.out.1.weak fun g hg => hg.imp (fun h => h.1) fun h => Nat.le_trans hbw h
    · exact ((HC2.out.later HB4.out).weak fun g hg => .inl hg)
  · intro z hz
    have hbw := HBW3.out
    rcases List.mem_append.1 hz with hz | hz
    · exact ⟨(HKS.out z (List.mem_of_mem_take hz)).1, ((HKS.out z (List.mem_of_mem_take hz)).2.later HB4.out).weak fun g hg => .inl hg⟩
    · rcases List.mem_append.1 hz with hz | hz
      · exact ⟨(HL4.out.2 z hz).1, (HN4.out.2 z hz).weak fun g hg => hg.imp (fun h => h.1) fun h => Nat.le_trans hbw h⟩
      · exact ⟨(HKS.out z (List.mem_of_mem_drop hz)).1, ((HKS.out z (List.mem_of_mem_drop hz)).2.later HB4.out).weak fun g hg => .inl hg⟩
  · rw [catK_app, catK_app, HC4.out, ← List.append_assoc, ← HCAT.out, insL_len]
    have := HLN.out
    omega
  rintro e w6 ⟨v6, rfl, kn, hn6, hc6, hf6, hb6⟩
  have HK6 := Lib.hid (show _ ∧ _ from ⟨((hb6).cell (p := ⟨W.heap.size, 2, none⟩) (World.block_lt_of_cell? _ _ HK4.out.1)).trans HK4.out.1, range_later HK4.out.2 hb6⟩)
  have HN6 := Lib.hid hn6
  have HC6 := Lib.hid hc6
  have HF6 := Lib.hid hf6
  have HB6 := Lib.hid (HB4.out.trans (hb6.mono HB4.out.size))
  clear hb6 hn6 hc6 hf6
  (try dsimp only)
  refine hK.out _ _ (by first | exact HK3.out | exact HK4.out | exact HK5.out | exact HK6.out) (fun hHeld => ?_)
  clear hK K
  (try simp only [Act.put, List.setIfInBounds_toArray, List.set_cons_zero, List.set_cons_succ])
  refine wpAnyT_last (i := 19) (o := ⟨some 6, _, _, _, _, _⟩) (by kernel_rfl) (by decide) rfl (fun K hK => ?_)
  go_simp
  refine hK.out _ _ ?_
  clear hK K
  (try simp only [Act.put, List.setIfInBounds_toArray, List.set_cons_zero, List.set_cons_succ])
  refine wpAnyT_done (by kernel_rfl) ?_ _
  go_wp2_with fail
  go_ret
  obtain ⟨k1, k2, k3, k4', k5, k6, k7⟩ := HP.out
  have hl4 := HL4.out.1
  have hf := HF6.out
  rw [HXL.out k4] at hf
  have he := fit_ends hf (by omega) (by omega) k6 (by omega)
  refine ⟨_, rfl, kn, HN6.out.weak fun g hg => hg.elim id fun h => .inr (Nat.le_trans HB4.out.size h), ?_, he.1, he.2, HB6.out⟩
  rw [HC6.out, catK_app, catK_app, HC4.out, HCAT.out, List.append_assoc]
theorem ins_zero : InsDoes 0 := by
  intro S W p i x m hp hi hN hm8 hm
  obtain ⟨hpa, hpk, hp1, hp16, hph⟩ := hp
  rw [hpk] at hph
  have h := ins_leaf 1 S W p.b p.l i x hph (by omega) hi
  have e : ((kidc 0 p).toArray : Array Value) = #[.int .i64 (p.l.length : Int), .int .i64 ((1 : Nat) : Int), .slice none 0 0, p.b] := by simp [kidc, hpa]
  rw [e]
  refine h.mono ?_
  rintro e W' ⟨v, rfl, ks, h1, h2, h3, h4⟩
  have he := fit_ends h3 (by omega) (by omega) hm8 (by omega)
  exact ⟨v, rfl, ks, h1.weak fun g hg => .inr hg, h2, he.1, he.2, h4⟩
theorem rp_insert : ∀ h, InsDoes h
  | 0 => ins_zero
  | h + 1 => ins_inner h (rp_insert h)
end Go.Proofs.Ytldemoflgahdgaa
