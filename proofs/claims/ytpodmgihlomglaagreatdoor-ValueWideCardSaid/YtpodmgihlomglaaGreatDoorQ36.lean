import Derived.Test.YtpodmgihlomglaaGreatDoorQ23
import Derived.Test.YtpodmgihlomglaaGreatDoorQ29
namespace Go.Proofs.YtpodmgihlomglaaGreatDoor
open Go.RowKit
set_option maxRecDepth 1000000
set_option linter.unusedSimpArgs false
theorem inners_new (w : World) {S : Nat → Prop} (h : Nat) (ls : List (Value × List Kid)) (hcut : ∀ p ∈ ls, CutAt S w 4 p.1 (en (kidc h) p.2) p.2.length)
  (xs : List Kid) (hxs : catE ls ls.length = xs) (hx : ∀ q ∈ xs, 8 ≤ q.k ∧ NodeR S w h q) (hN : (catK xs).length ≤ 100000) (hl : ls.length ≤ 1000) :
  Calls Tryz.prog 125 #[.slice (some ⟨w.heap.size, 0, none⟩) ls.length ls.length] (w.alloc (.cells (ls.map (·.1)).toArray 108)) fun e w' => ∃ v, e = .returned v ∧ ∃ ks, NodesR (fun g => S g ∨ w.heap.size ≤ g) w' (h + 1) v ks ∧ catK ks = catK xs ∧ Fit xs.length ks ∧ Below w.heap.size w w' := by
 have hb := Below.newly' w (.cells (ls.map (·.1)).toArray 108)
 refine (rp_inners (S := S) _ h w.heap.size ls (lists_new w ls _) (fun p hp => (hcut p hp).later hb) xs hxs (fun q hq => ⟨(hx q hq).1, (hx q hq).2.later hb⟩) hN hl).mono ?_
 rintro e w' ⟨v, rfl, ks, h1, h2, h3, h4⟩
 exact ⟨v, rfl, ks, h1.weak fun g hg => hg.imp_right fun h => (by simp at h; omega), h2, h3, hb.trans (h4.mono hb.size)⟩
theorem fit_ends {N m : Nat} {ks : List Kid} (hf : Fit N ks) (h0 : 1 ≤ N) (h1 : N ≤ 32) (hm : m ≤ 8) (hN : m ≤ N) : (1 ≤ ks.length ∧ ks.length ≤ 2) ∧ ∀ x ∈ ks, m ≤ x.k ∧ (2 ≤ ks.length → 8 ≤ x.k) := by
 have hl : 1 ≤ ks.length ∧ ks.length ≤ 2 := by rw [hf.1]; unfold cntN; omega
 refine ⟨hl, fun x hx => ⟨?_, (hf.2 x hx).1⟩⟩
 by_cases h2 : 2 ≤ ks.length
 ·have := (hf.2 x hx).1 h2; omega
 ·have := (hf.2 x hx).2 (by omega); omega
theorem nodes_some (p : Addr) (n c : Nat) (w : World) : (binOp .eql 108 (.slice (some p) n c) (.slice none 0 0)).run Tryz.prog w = .ok (.bool false) w := by
 have hu := run_underlying (w := w) Tryz.underlying108
 have hm : Op.maxDepth = (Op.maxDepth - 1) + 1 := by decide
 unfold binOp
 simp only []
 unfold Op.equal
 rw [hm]
 unfold Op.equalIn
 simp [Sem.run_bind, hu, Result.andThen]
theorem nodes_none (w : World) : (binOp .eql 108 (.slice none 0 0) (.slice none 0 0)).run Tryz.prog w = .ok (.bool true) w := by
 have hu := run_underlying (w := w) Tryz.underlying108
 have hm : Op.maxDepth = (Op.maxDepth - 1) + 1 := by decide
 unfold binOp
 simp only []
 unfold Op.equal
 rw [hm]
 unfold Op.equalIn
 simp [Sem.run_bind, hu, Result.andThen]
def insL (l : List Cel) (i : Nat) (x : Cel) : List Cel := l.take i ++ x :: l.drop i
theorem insL_len {l : List Cel} {i : Nat} {x : Cel} : (insL l i x).length = l.length + 1 := by
 unfold insL
 rw [List.length_append, List.length_cons, List.length_take, List.length_drop]
 omega
theorem insL_mid {A B C : List Cel} {r : Nat} {x : Cel} (hr : r ≤ B.length) : insL (A ++ B ++ C) (A.length + r) x = A ++ insL B r x ++ C := by
 unfold insL
 rw [List.append_assoc A B C, List.take_append, List.take_of_length_le (by omega), List.drop_append, List.drop_of_length_le (by omega), Nat.add_sub_cancel_left, List.take_append_of_le_length hr, List.drop_append_of_le_length hr]
 simp
def LeafIns (hv : Nat) : Prop := ∀ (S : Nat → Prop) (W : World) (b : Value) (l : List Cel) (i : Nat) (x : Cel), HeadAt S W 35 4 b (ivV l) l.length → l.length ≤ 16 → i ≤ l.length →
  Calls Tryz.prog 99 #[.agg #[.int .i64 (l.length : Int), .int .i64 (hv : Int), .slice none 0 0, b], .int .i64 (i : Int), .agg (celC x)] W fun e W' => ∃ v, e = .returned v ∧ ∃ ks, NodesR (fun g => W.heap.size ≤ g) W' 0 v ks ∧ catK ks = insL l i x ∧ Fit (l.length + 1) ks ∧ Below W.heap.size W W'
def InsDoes (h : Nat) : Prop := ∀ (S : Nat → Prop) (W : World) (p : Kid) (i : Nat) (x : Cel) (m : Nat), NodeR S W h p → i ≤ p.l.length → p.l.length ≤ 50000 → m ≤ 8 → m ≤ p.k →
  Calls Tryz.prog 99 #[.agg (kidc h p).toArray, .int .i64 (i : Int), .agg (celC x)] W fun e W' => ∃ v, e = .returned v ∧ ∃ ks, NodesR (fun g => S g ∨ W.heap.size ≤ g) W' h v ks ∧ catK ks = insL p.l i x ∧ (1 ≤ ks.length ∧ ks.length ≤ 2) ∧
   (∀ y ∈ ks, m ≤ y.k ∧ (2 ≤ ks.length → 8 ≤ y.k)) ∧ Below W.heap.size W W'
set_option maxHeartbeats 8000000 in
theorem ins_leaf (hv : Nat) : LeafIns hv := by
 intro S W b l i x hb hl hi
 obtain ⟨q, c, rfl, _⟩ := hb.shape
 obtain ⟨w2, hw2⟩ : ∃ w2, (W.alloc (.cells #[.int .i64 (l.length : Int), .int .i64 (hv : Int), .slice none 0 0, .slice q l.length c] 110)).alloc (.cells (celC x) 35) = w2 := ⟨_, rfl⟩
 obtain ⟨hb2, hx2, hv2, hs2⟩ := two_new hw2
 have HB2 := Lib.hid hb2
 have ca2 : w2.cell? ⟨W.heap.size, 2, none⟩ = some (.slice none 0 0) := cell_in hx2 rfl
 have HK2 : Hid (w2.drew.cell? ⟨W.heap.size, 3, none⟩ = some (.slice q l.length c) ∧ w2.drew.heap[W.heap.size + 1]? = some (.cells (celC x) 35 (0, 0))) := ⟨cell_in (W := w2) hx2 rfl, hv2⟩
 have hcut := hb.cut.weak (S' := fun _ => True) (fun _ _ => trivial)
 obtain ⟨a1, c1, hc1, hr1⟩ := cut_h 55 tv_sl tv_size hcut (hi := i) hi
 obtain ⟨a2, c2, hc2, hr2⟩ := cut_l 55 tv_sl tv_size hcut (lo := i) hi
 rw [en_take enV_len] at hc1
 rw [en_drop enV_len] at hc2
 have HC1 : Hid (CutAt (fun _ => True) W 4 (.slice a1 i c1) (ivV (l.take i)) (l.take i).length) := by
  show CutAt _ _ _ _ _ _
  rwa [show (l.take i).length = i by rw [List.length_take]; omega]
 have HC2 : Hid (CutAt (fun _ => True) W 4 (.slice a2 (l.length - i) c2) (ivV (l.drop i)) (l.drop i).length) := by
  show CutAt _ _ _ _ _ _
  rwa [show (l.drop i).length = l.length - i by rw [List.length_drop]]
 have HL := Lib.hid hl
 have hnil := nodes_none
 clear hb hl hi hb2 hx2 hv2 hs2 hcut hc1 hc2
 go_enter Tryz.func99, Tryz.ntmps99
 go_upto_region 1 with fail
 clear hw2
 go_upto_region 2 with fail
 refine wp_region_T (S := fun V => V.cell? ⟨W.heap.size, 3, none⟩ = some (.slice q l.length c) ∧ V.heap[W.heap.size + 1]? = some (.cells (celC x) 35 (0, 0))) [12] (by kernel_rfl) (by first | exact HK2.out | exact HK3.out | exact HK4.out | exact HK5.out) (fun hHeld => ?_)
 refine tkA 0 11 (h := ?_)
 refine tkA 1 12 (h := ?_)
 (try simp only [pq])
 refine tkA 2 13 (h := ?_)
 refine tkA 3 14 (h := ?_)
 (try simp only [pq])
 refine tyA 4 15 (hy := yieldsIf_load_row (by rfl) 35 _ rfl (W.heap.size + 1) rfl (celC x) 35 (0, 0) _ (fun w hw => hw.2) Tryz.underlying35 rfl val_size) (h := ?_)
 refine tkA 6 17 (h := ?_)
 (try simp only [pq])
 refine tkA 7 18 (h := ?_)
 refine tkA 8 19 (h := ?_)
 (try simp only [pq])
 refine tkA 9 20 (h := ?_)
 (try simp only [pq])
 refine tkO 5 (some 16) (h := fun K hK => ?_)
 refine bs_wp 55 35 _ rfl (celC x) 4 (.agg (celC zeroV)) rfl rfl (by decide) (by decide) Tryz.underlying55 (by kernel_rfl) ?_
 intro w3 h3 hb3 hs3
 have HK3 := Lib.hid (show _ ∧ _ from ⟨((hb3).cell (p := ⟨W.heap.size, 3, none⟩) (World.block_lt_of_cell? _ _ HK2.out.1)).trans HK2.out.1, (hb3.block _ (Array.getElem?_eq_some_iff.1 HK2.out.2).1).trans HK2.out.2⟩)
 have HO3 : Hid (CutAt (fun _ => True) w3 4 (.slice (some ⟨w2.drew.heap.size, 0, none⟩) 1 1) (ivV [x]) 1) := ⟨_, 1, rfl, Nat.le_refl _, rfl, .inr ⟨_, 0, rfl, trivial, by omega, fun j u hu => by rw [Nat.zero_add]; exact cell_in h3 (by rw [← Array.getElem?_toList]; exact hu)⟩⟩
 have HB3 : Hid (Below W.heap.size W w3) := HB2.out.trans ((drawn_below w2 |>.trans hb3).mono HB2.out.size)
 clear hb3 h3 hs3
 (try dsimp only)
 refine hK.out _ _ (by first | exact HK2.out | exact HK3.out | exact HK4.out | exact HK5.out) (fun hHeld => ?_)
 clear hK K
 (try simp only [pq])
 refine tkO 10 (some 21) (h := fun K hK => ?_)
 go_simp
 have hb4 := Below.newly' w3 (.cells #[.slice a1 i c1, .slice (some ⟨w2.drew.heap.size, 0, none⟩) 1 1, .slice a2 (l.length - i) c2] 55)
 have HK4 := Lib.hid (show _ ∧ _ from ⟨((hb4).cell (p := ⟨W.heap.size, 3, none⟩) (World.block_lt_of_cell? _ _ HK3.out.1)).trans HK3.out.1, (hb4.block _ (Array.getElem?_eq_some_iff.1 HK3.out.2).1).trans HK3.out.2⟩)
 clear hb4
 (try dsimp only)
 refine hK.out _ _ (by first | exact HK2.out | exact HK3.out | exact HK4.out | exact HK5.out) (fun hHeld => ?_)
 clear hK K
 (try simp only [pq])
 refine tkO 11 (some 22) (h := fun K hK => ?_)
 go_simp
 go_at_call 126
 refine (leaves_new (S := fun _ => True) w3 [(.slice a1 i c1, l.take i), (.slice (some ⟨w2.drew.heap.size, 0, none⟩) 1 1, [x]), (.slice a2 (l.length - i) c2, l.drop i)] ?_ (insL l i x) (by simp [catE, insL]) (by rw [insL_len]; have := HL.out; omega) (by simp)).mono ?_
 ·intro y hy
  simp only [List.mem_cons, List.not_mem_nil, or_false] at hy
  rcases hy with rfl | rfl | rfl
  ·exact HC1.out.later HB3.out
  ·exact HO3.out
  ·exact HC2.out.later HB3.out
 rintro e w5 ⟨v5, rfl, kn, hn5, hc5, hf5, hb5⟩
 have HK5 := Lib.hid (show _ ∧ _ from ⟨((hb5).cell (p := ⟨W.heap.size, 3, none⟩) (World.block_lt_of_cell? _ _ HK3.out.1)).trans HK3.out.1, (hb5.block _ (Array.getElem?_eq_some_iff.1 HK3.out.2).1).trans HK3.out.2⟩)
 have HN5 := Lib.hid hn5
 have HC5 := Lib.hid hc5
 have HF5 := Lib.hid hf5
 have HB5 := Lib.hid (HB3.out.trans (hb5.mono HB3.out.size))
 clear hb5 hn5 hc5 hf5
 (try dsimp only)
 refine hK.out _ _ (by first | exact HK2.out | exact HK3.out | exact HK4.out | exact HK5.out) (fun hHeld => ?_)
 clear hK K
 (try simp only [pq])
 refine tkU 12 (some 6) (h := fun K hK => ?_)
 go_simp
 refine hK.out _ _ ?_
 clear hK K
 (try simp only [pq])
 refine wpAnyT_done (by kernel_rfl) ?_ _
 go_wp2_with fail
 go_ret
 refine ⟨_, rfl, kn, HN5.out.weak fun g hg => Nat.le_trans HB3.out.size hg, HC5.out, ?_, HB5.out⟩
 have hf := HF5.out
 rwa [insL_len] at hf
set_option maxHeartbeats 8000000 in
theorem ins_inner (h : Nat) (ih : InsDoes h) : InsDoes (h + 1) := by
 intro S W p i x m hp hi hN hm8 hm
 obtain ⟨w2, hw2⟩ : ∃ w2, (W.alloc (.cells (kidc (h + 1) p).toArray 110)).alloc (.cells (celC x) 35) = w2 := ⟨_, rfl⟩
 obtain ⟨hb2, hx2, hv2, hs2⟩ := two_new hw2
 have HV2 := Lib.hid hv2
 have HB2 := Lib.hid hb2
 have HX2 := Lib.hid hx2
 have HS2 := Lib.hid hs2
 obtain ⟨hpb, hk1, hk16, ks, hh, hkl, hl, hks⟩ := hp
 obtain ⟨n, hn⟩ : ∃ n, n = p.k := ⟨_, rfl⟩
 rw [← hn] at hk1 hk16 hh hkl hm
 have HWAY := Lib.hid (rp_way w2 h n i p ks (hh.later hb2) hkl hk1 hk16 (by rw [← hl]; omega) (by rw [← hl]; omega))
 have HHO := Lib.hid hh.cut
 obtain ⟨g, c, cur, fr, hpa, hcap, hS, hg, hcs⟩ := hh.pos hk1
 rw [hpa] at HHO
 have ca2 : w2.cell? ⟨W.heap.size, 2, none⟩ = some (.slice (some ⟨g, 0, none⟩) n c) := by rw [← hpa]; exact cell_in hx2 rfl
 have HRG : Hid (∀ k (hk : k < ks.length), w2.rangeAt g (k * 4) (kidc h ks[k])) := fun k hk => range_later (en_range (h := h) hg hcs hk) hb2
 have HP := Lib.hid (And.intro hk1 (And.intro hk16 (And.intro hkl (And.intro hl (And.intro hi (And.intro hm8 hm))))))
 have HKS := Lib.hid hks
 have HLN := Lib.hid hN
 have hnil := fun w => nodes_some ⟨g, 0, none⟩ n c w
 have hn16 : (n : Int) ≤ 16 := by omega
 clear hb2 hx2 hv2 hs2 hpb hk1 hk16 hh hkl hl hks hn hpa hcap hS hg hcs hi hN hm8 hm
 go_enter Tryz.func99, Tryz.ntmps99
 go_upto_region 1 with fail
 clear hw2
 go_upto_region 4 with (first
  | (refine ld_if rfl 110 _ rfl W.heap.size rfl 110 _ _ _ HX2.out Tryz.underlying110 rfl rnode_size ?_)
  | (go_at_call 115; refine HWAY.out.mono ?_; rintro e w3 ⟨k, r, rfl, hwy, hb3⟩; have HWYY := Lib.hid hwy; have HBB3 := Lib.hid hb3; clear hwy hb3))
 obtain ⟨hkk, hir, hr1, hr2⟩ := HWYY.out
 have hpp := HP.out
 have hb3 : Below w2.heap.size w2 w3.drew := HBB3.out.trans ((drawn_below w3).mono HBB3.out.size)
 have HK3 : Hid (w3.drew.cell? ⟨W.heap.size, 2, none⟩ = some (.slice (some ⟨g, 0, none⟩) n c) ∧ w3.drew.rangeAt g (k * 4) (kidc h ks[k]) ∧ w3.drew.heap[W.heap.size + 1]? = some (.cells (celC x) 35 (0, 0))) :=
  ⟨(hb3.cell (p := ⟨W.heap.size, 2, none⟩) (World.block_lt_of_cell? _ _ ca2)).trans ca2, range_later (HRG.out k hkk) hb3, (hb3.block _ (by have := HS2.out; omega)).trans HV2.out⟩
 have HB3 := Lib.hid (HB2.out.trans (hb3.mono HB2.out.size))
 have HBW3 : Hid (W.heap.size ≤ w3.drew.heap.size) := HB3.out.size
 have hyl : ks[k].l.length ≤ p.l.length := by
  have h1 := congrArg List.length (cat_split hkk)
  rw [List.length_append, List.length_append, ← hpp.2.2.2.1] at h1
  omega
 have HREC := Lib.hid (ih (fun g => S g ∧ g < W.heap.size) w3.drew ks[k] r x 8 ((HKS.out _ (List.getElem_mem hkk)).2.old.later HB3.out) hr1 (by have := HLN.out; omega) (Nat.le_refl _) (HKS.out _ (List.getElem_mem hkk)).1)
 obtain ⟨k1, hk1⟩ : ∃ k1, k1 = k + 1 := ⟨_, rfl⟩
 have HCAT : Hid (insL p.l i x = catK (ks.take k) ++ insL ks[k].l r x ++ catK (ks.drop k1)) := by
  show _ = _
  rw [hpp.2.2.2.1, hir, cat_split hkk, hk1]
  exact insL_mid hr1
 obtain ⟨a1, c1, hc1, hrun1⟩ := cut_h 108 tn_sl tn_size HHO.out (hi := k) (by omega)
 have hkw : IntKind.i64.wrap ((k : Int) + 1) = (k1 : Int) := by rw [IntKind.wrap_i64]; omega
 obtain ⟨a2, c2, hc2, hrun2⟩ := cut_l 108 tn_sl tn_size HHO.out (lo := k1) (by omega)
 rw [en_take (kidc_len h)] at hc1
 rw [en_drop (kidc_len h)] at hc2
 have HC1 : Hid (CutAt S W 4 (.slice a1 k c1) (en (kidc h) (ks.take k)) (ks.take k).length) := by
  show CutAt _ _ _ _ _ _
  rwa [show (ks.take k).length = k by rw [List.length_take]; omega]
 have HC2 : Hid (CutAt S W 4 (.slice a2 (n - k1) c2) (en (kidc h) (ks.drop k1)) (ks.drop k1).length) := by
  show CutAt _ _ _ _ _ _
  rwa [show (ks.drop k1).length = n - k1 by rw [List.length_drop]; omega]
 have HXL : Hid (∀ k4 : List Kid, (ks.take k ++ (k4 ++ ks.drop k1)).length = n - 1 + k4.length) := by
  intro k4
  rw [List.length_append, List.length_append, List.length_take, List.length_drop]
  omega
 obtain ⟨y, hy⟩ : ∃ y, y = ks[k] := ⟨_, rfl⟩
 rw [← hy] at HK3 HREC HCAT
 have hkn : (k : Int) < (n : Int) := by omega
 have hkn' : k < n := by omega
 clear hkk hir hr1 hr2 hpp hb3 hyl hy ca2 hc1 hc2 hk1
 refine wp_region_T (S := fun V => V.cell? ⟨W.heap.size, 2, none⟩ = some (.slice (some ⟨g, 0, none⟩) n c) ∧ V.rangeAt g (k * 4) (kidc h y) ∧ V.heap[W.heap.size + 1]? = some (.cells (celC x) 35 (0, 0))) [19] (by kernel_rfl) (by first | exact HK3.out | exact HK4.out | exact HK5.out | exact HK6.out) (fun hHeld => ?_)
 refine tkA 0 29 (h := ?_)
 refine tkA 1 30 (h := ?_)
 (try simp only [pq])
 refine tkA 2 31 (h := ?_)
 refine tkA 3 32 (h := ?_)
 (try simp only [pq])
 refine tkA 4 33 (h := ?_)
 refine tkA 5 34 (h := ?_)
 (try simp only [pq])
 refine tkA 6 35 (h := ?_)
 refine tkA 7 36 (h := ?_)
 (try simp only [pq])
 refine tyA 8 37 (hy := yieldsIf_load_mid (by rfl) 110 _ rfl g (k * 4) rfl (kidc h y) _ (fun w hw => hw.2.1) Tryz.underlying110 rfl rnode_size) (h := ?_)
 refine tkA 9 38 (h := ?_)
 (try simp only [pq])
 refine tyA 10 39 (hy := yieldsIf_load_row (by rfl) 35 _ rfl (W.heap.size + 1) rfl (celC x) 35 (0, 0) _ (fun w hw => hw.2.2) Tryz.underlying35 rfl val_size) (h := ?_)
 refine tkA 12 41 (h := ?_)
 (try simp only [pq])
 refine tkA 13 42 (h := ?_)
 refine tkA 14 43 (h := ?_)
 (try simp only [pq])
 refine tkA 15 44 (h := ?_)
 refine tkA 16 45 (h := ?_)
 (try simp only [pq])
 refine tkO 11 (some 40) (h := fun K hK => ?_)
 go_simp
 go_at_call 99
 refine HREC.out.mono ?_
 rintro e w4 ⟨v4, rfl, k4, hn4, hc4, hl4, hx4, hb4⟩
 obtain ⟨a4, n4, rfl, _⟩ := hn4.1.shape
 have HK4 := Lib.hid (show _ ∧ _ ∧ _ from ⟨((hb4).cell (p := ⟨W.heap.size, 2, none⟩) (World.block_lt_of_cell? _ _ HK3.out.1)).trans HK3.out.1, range_later HK3.out.2.1 hb4, (hb4.block _ (Array.getElem?_eq_some_iff.1 HK3.out.2.2).1).trans HK3.out.2.2⟩)
 have HB4 := Lib.hid (HB3.out.trans (hb4.mono HB3.out.size))
 have HN4 := Lib.hid hn4
 have HC4 := Lib.hid hc4
 have HL4 := Lib.hid (And.intro hl4 hx4)
 clear hb4 hn4 hc4 hl4 hx4
 (try dsimp only)
 refine hK.out _ _ (by first | exact HK3.out | exact HK4.out | exact HK5.out | exact HK6.out) (fun hHeld => ?_)
 clear hK K
 (try simp only [pq])
 refine tkO 17 (some 46) (h := fun K hK => ?_)
 go_simp
 have hb5 := Below.newly' w4 (.cells #[.slice a1 k c1, .slice a4 k4.length n4, .slice a2 (n - k1) c2] 108)
 have HK5 := Lib.hid (show _ ∧ _ ∧ _ from ⟨((hb5).cell (p := ⟨W.heap.size, 2, none⟩) (World.block_lt_of_cell? _ _ HK4.out.1)).trans HK4.out.1, range_later HK4.out.2.1 hb5, (hb5.block _ (Array.getElem?_eq_some_iff.1 HK4.out.2.2).1).trans HK4.out.2.2⟩)
 clear hb5
 (try dsimp only)
 refine hK.out _ _ (by first | exact HK3.out | exact HK4.out | exact HK5.out | exact HK6.out) (fun hHeld => ?_)
 clear hK K
 (try simp only [pq])
 refine tkO 18 (some 47) (h := fun K hK => ?_)
 go_simp
 go_at_call 125
 refine (inners_new (S := fun g => S g ∨ W.heap.size ≤ g) w4 h [(.slice a1 k c1, ks.take k), (.slice a4 k4.length n4, k4), (.slice a2 (n - k1) c2, ks.drop k1)] ?_ (ks.take k ++ (k4 ++ ks.drop k1)) (by simp [catE]) ?_ ?_ (by simp)).mono ?_
 ·intro z hz
  have hbw := HBW3.out
  simp only [List.mem_cons, List.not_mem_nil, or_false] at hz
  rcases hz with rfl | rfl | rfl
  ·exact ((HC1.out.later HB4.out).weak fun g hg => .inl hg)
  ·exact HN4.out.1.weak fun g hg => hg.imp (fun h => h.1) fun h => Nat.le_trans hbw h
  ·exact ((HC2.out.later HB4.out).weak fun g hg => .inl hg)
 ·intro z hz
  have hbw := HBW3.out
  rcases List.mem_append.1 hz with hz | hz
  ·exact ⟨(HKS.out z (List.mem_of_mem_take hz)).1, ((HKS.out z (List.mem_of_mem_take hz)).2.later HB4.out).weak fun g hg => .inl hg⟩
  ·rcases List.mem_append.1 hz with hz | hz
   ·exact ⟨(HL4.out.2 z hz).1, (HN4.out.2 z hz).weak fun g hg => hg.imp (fun h => h.1) fun h => Nat.le_trans hbw h⟩
   ·exact ⟨(HKS.out z (List.mem_of_mem_drop hz)).1, ((HKS.out z (List.mem_of_mem_drop hz)).2.later HB4.out).weak fun g hg => .inl hg⟩
 ·rw [catK_app, catK_app, HC4.out, ← List.append_assoc, ← HCAT.out, insL_len]
  have := HLN.out
  omega
 rintro e w6 ⟨v6, rfl, kn, hn6, hc6, hf6, hb6⟩
 have HK6 := Lib.hid (show _ ∧ _ ∧ _ from ⟨((hb6).cell (p := ⟨W.heap.size, 2, none⟩) (World.block_lt_of_cell? _ _ HK4.out.1)).trans HK4.out.1, range_later HK4.out.2.1 hb6, (hb6.block _ (Array.getElem?_eq_some_iff.1 HK4.out.2.2).1).trans HK4.out.2.2⟩)
 have HN6 := Lib.hid hn6
 have HC6 := Lib.hid hc6
 have HF6 := Lib.hid hf6
 have HB6 := Lib.hid (HB4.out.trans (hb6.mono HB4.out.size))
 clear hb6 hn6 hc6 hf6
 (try dsimp only)
 refine hK.out _ _ (by first | exact HK3.out | exact HK4.out | exact HK5.out | exact HK6.out) (fun hHeld => ?_)
 clear hK K
 (try simp only [pq])
 refine tkU 19 (some 6) (h := fun K hK => ?_)
 go_simp
 refine hK.out _ _ ?_
 clear hK K
 (try simp only [pq])
 refine wpAnyT_done (by kernel_rfl) ?_ _
 go_wp2_with fail
 go_ret
 obtain ⟨k1, k2, k3, k4', k5, k6, k7⟩ := HP.out
 have hl4 := HL4.out.1
 have hf := HF6.out
 rw [HXL.out k4] at hf
 have he := fit_ends hf (by omega) (by omega) k6 (by omega)
 refine ⟨_, rfl, kn, HN6.out.weak fun g hg => hg.elim id fun h => .inr (Nat.le_trans HB4.out.size h), ?_, he.1, he.2, HB6.out⟩
 rw [HC6.out, catK_app, catK_app, HC4.out, HCAT.out, List.append_assoc]
theorem ins_zero : InsDoes 0 := by
 intro S W p i x m hp hi hN hm8 hm
 obtain ⟨hpa, hpk, hp1, hp16, hph⟩ := hp
 rw [hpk] at hph
 have h := ins_leaf 1 S W p.b p.l i x hph (by omega) hi
 have e : ((kidc 0 p).toArray : Array Value) = #[.int .i64 (p.l.length : Int), .int .i64 ((1 : Nat) : Int), .slice none 0 0, p.b] := by simp [kidc, hpa]
 rw [e]
 refine h.mono ?_
 rintro e W' ⟨v, rfl, ks, h1, h2, h3, h4⟩
 have he := fit_ends h3 (by omega) (by omega) hm8 (by omega)
 exact ⟨v, rfl, ks, h1.weak fun g hg => .inr hg, h2, he.1, he.2, h4⟩
theorem rp_insert : ∀ h, InsDoes h
 | 0 => ins_zero
 | h + 1 => ins_inner h (rp_insert h)
theorem ins_root {S : Nat → Prop} {c : Array Value} {l : List Cel} (W : World) (h : RootR S W c l) (i : Nat) (x : Cel) (hi : i ≤ l.length) (hN : l.length ≤ 50000) :
  Calls Tryz.prog 99 #[.agg c, .int .i64 (i : Int), .agg (celC x)] W fun e W' => ∃ v, e = .returned v ∧ ∃ (hh : Nat) (ks : List Kid), NodesR (fun g => S g ∨ W.heap.size ≤ g) W' hh v ks ∧ catK ks = insL l i x ∧ Wide hh ks ∧ Below W.heap.size W W' := by
 rcases h with ⟨rfl, rfl⟩ | ⟨h, p, rfl, rfl, h3, h4⟩
 ·refine (ins_leaf 0 S W (.slice none 0 0) [] i x ⟨rfl, .inl ⟨rfl, rfl⟩⟩ (by simp) hi).mono ?_
  rintro e W' ⟨v, rfl, ks, h1, h2, h3, h4⟩
  exact ⟨v, rfl, 0, ks, h1.weak fun g hg => .inr hg, h2, fun p hp => ⟨(h3.2 p hp).1, fun _ => .inl rfl⟩, h4⟩
 ·refine (rp_insert h S W p i x (min 2 p.k) h3 hi hN (by omega) (by omega)).mono ?_
  rintro e W' ⟨v, rfl, ks, h1, h2, h5, h6, h7⟩
  exact ⟨v, rfl, h, ks, h1, h2, fun y hy => ⟨(h6 y hy).2, fun _ => h4.imp_right fun h4 => by have := (h6 y hy).1; omega⟩, h7⟩
set_option maxHeartbeats 8000000 in
theorem rp_Insert_mid {S : Nat → Prop} {c : Array Value} {l : List Cel} (W : World) (h : RootR S W c l) (i : Nat) (x : Cel) (hi : i < l.length) (hN : l.length ≤ 50000) :
    Calls Tryz.prog 67 #[.agg c, .int .i64 (i : Int), .agg (celC x)] W fun e W' => ∃ c', e = .returned (.tuple #[.agg c', .int .i64 0]) ∧ RootR (fun g => S g ∨ W.heap.size ≤ g) W' c' (insL l i x) ∧ Below W.heap.size W W' := by
  obtain ⟨w2, hw2⟩ : ∃ w2, ((W.alloc (.cells c 112)).alloc (.cells (celC x) 35)).alloc (.cells #[.int .i64 0, .int .i64 0, .slice none 0 0, .slice none 0 0] 112) = w2 := ⟨_, rfl⟩
  obtain ⟨hb2, hx2, hv2, hy2, hs2⟩ := three_newV hw2
  have HV2 := Lib.hid hv2
  have HX2 := Lib.hid hx2
  have HY2 := Lib.hid hy2
  have HB2 := Lib.hid hb2
  have HS2 := Lib.hid hs2
  have HS := Lib.hid h.size
  have HH := Lib.hid (rp_has w2 (h.later hb2) (i : Int))
  rw [show decide (0 ≤ (i : Int) ∧ (i : Int) < l.length) = true by simp; omega] at HH
  have HINS := Lib.hid (fun V (hV : Below W.heap.size W V) => ins_root V (h.old.later hV) i x (by omega) hN)
  have HLL : Hid ((insL l i x).length ≤ 100000) := by show _ ≤ _; unfold insL; rw [List.length_append, List.length_take, List.length_cons, List.length_drop]; omega
  obtain ⟨l', hl'⟩ : ∃ l', l' = insL l i x := ⟨_, rfl⟩
  rw [← hl'] at HINS HLL ⊢
  clear hb2 hx2 hv2 hy2 hs2 h hi hN hl'
  go_enter Tryz.func67, Tryz.ntmps67
  go_upto_region 1 with fail
  clear hw2
  go_wp2_with (first
    | (refine ld_if rfl 35 _ rfl (W.heap.size + 1) rfl 35 _ _ _ HV3.out Tryz.underlying35 rfl val_size ?_)
    | (refine ld_if rfl 112 _ rfl W.heap.size rfl 112 _ _ _ HX2.out Tryz.underlying112 rfl (by rw [HS.out]; exact rope_size) ?_)
    | (go_at_call 97
       refine HH.out.mono ?_
       rintro e w3 ⟨rfl, hb3⟩
       have HX3 := Lib.hid ((hb3.block W.heap.size (by have := HS2.out; omega)).trans HX2.out)
       have HV3 := Lib.hid ((hb3.block (W.heap.size + 1) (by have := HS2.out; omega)).trans HV2.out)
       have HY3 := Lib.hid ((hb3.block (W.heap.size + 2) (by have := HS2.out; omega)).trans HY2.out)
       have HB3 := Lib.hid (HB2.out.trans (hb3.mono HB2.out.size))
       have HS3 : Hid (W.heap.size + 3 ≤ w3.heap.size) := (by have h1 := HS2.out; have h2 := hb3.size; show _ ≤ _; omega)
       clear hb3)
    | (refine ld_if rfl 110 _ rfl W.heap.size rfl 112 _ _ _ HX3.out Tryz.underlying110 rfl (by rw [HS.out]; exact rnode_size) ?_)
    | (go_at_call 99
       refine (HINS.out _ HB3.out).mono ?_
       rintro e w4 ⟨v4, rfl, hh4, ks, hn4, hc4, hf4, hb4⟩
       have HT := Lib.hid (rp_top w4 hh4 v4 ks hn4 hf4 (by rw [hc4]; exact HLL.out))
       rw [hc4] at HT
       obtain ⟨a4, cap4, rfl, _⟩ := hn4.1.shape
       have HY4 := Lib.hid ((hb4.block (W.heap.size + 2) (by have := HS3.out; omega)).trans HY3.out)
       have HB4 := Lib.hid hb4
       clear hn4 hc4 hf4 hb4)
    | (go_at_call 98
       refine HT.out.mono ?_
       rintro e w7 ⟨c7, rfl, hr7, hb7⟩
       obtain ⟨y0, y1, q1, n1, c1, q2, n2, c2, rfl⟩ := hr7.four
       have HR7 := Lib.hid hr7
       have HB7 := Lib.hid hb7
       have HY7 := Lib.hid ((hb7.block (W.heap.size + 2) (by have := HS3.out; have := HB4.out.size; omega)).trans HY4.out)
       clear hr7 hb7)
    | (refine st_agg rfl 112 _ _ rfl (W.heap.size + 2) _ rfl rfl 112 _ HY7.out rope_size rfl (one4 rfl rfl rfl rfl) ?_; intro w5 h5 k5))
  refine bodyPost_ret (results_cell_row1 rfl _ _ (W.heap.size + 2) 112 _ (0, 0) _ rfl h5 Tryz.underlying112 rfl rope_size) rfl ⟨_, rfl, ?_, ?_⟩
  · have hs3 := HS3.out
    have hs4 := HB4.out.size
    refine (HR7.out.kept k5.by_ (fun X e => by cases e; rintro ((⟨_, h⟩ | h) | h) <;> omega)).weak fun g hg => ?_
    rcases hg with (hg | hg) | hg
    · exact .inl hg.1
    · exact .inr (by omega)
    · exact .inr (by omega)
  · have hs3 := HS3.out
    have hs4 := HB4.out.size
    exact ((HB3.out.trans (HB4.out.mono (by omega))).trans (HB7.out.mono (by omega))).trans (k5.below (by omega))
set_option maxHeartbeats 8000000 in
theorem rp_Insert_end {S : Nat → Prop} {c : Array Value} {l : List Cel} (W : World) (h : RootR S W c l) (i : Nat) (x : Cel) (hi : i = l.length) (hN : l.length ≤ 50000) :
    Calls Tryz.prog 67 #[.agg c, .int .i64 (i : Int), .agg (celC x)] W fun e W' => ∃ c', e = .returned (.tuple #[.agg c', .int .i64 0]) ∧ RootR (fun g => S g ∨ W.heap.size ≤ g) W' c' (insL l i x) ∧ Below W.heap.size W W' := by
  obtain ⟨w2, hw2⟩ : ∃ w2, ((W.alloc (.cells c 112)).alloc (.cells (celC x) 35)).alloc (.cells #[.int .i64 0, .int .i64 0, .slice none 0 0, .slice none 0 0] 112) = w2 := ⟨_, rfl⟩
  obtain ⟨hb2, hx2, hv2, hy2, hs2⟩ := three_newV hw2
  have HV2 := Lib.hid hv2
  have HX2 := Lib.hid hx2
  have HY2 := Lib.hid hy2
  have HB2 := Lib.hid hb2
  have HS2 := Lib.hid hs2
  have HS := Lib.hid h.size
  have HH := Lib.hid (rp_has w2 (h.later hb2) (i : Int))
  rw [show decide (0 ≤ (i : Int) ∧ (i : Int) < l.length) = false by simp; omega] at HH
  have HLEN := Lib.hid (fun V (hV : Below W.heap.size W V) => rp_Len V (h.later hV))
  rw [← hi] at HLEN
  have HINS := Lib.hid (fun V (hV : Below W.heap.size W V) => ins_root V (h.old.later hV) i x (by omega) hN)
  have HLL : Hid ((insL l i x).length ≤ 100000) := by show _ ≤ _; unfold insL; rw [List.length_append, List.length_take, List.length_cons, List.length_drop]; omega
  obtain ⟨l', hl'⟩ : ∃ l', l' = insL l i x := ⟨_, rfl⟩
  rw [← hl'] at HINS HLL ⊢
  clear hb2 hx2 hv2 hy2 hs2 h hi hN hl'
  go_enter Tryz.func67, Tryz.ntmps67
  go_upto_region 1 with fail
  clear hw2
  go_wp2_with (first
    | (refine ld_if rfl 35 _ rfl (W.heap.size + 1) rfl 35 _ _ _ HV6.out Tryz.underlying35 rfl val_size ?_)
    | (refine ld_if rfl 112 _ rfl W.heap.size rfl 112 _ _ _ HX2.out Tryz.underlying112 rfl (by rw [HS.out]; exact rope_size) ?_)
    | (go_at_call 97
       refine HH.out.mono ?_
       rintro e w3 ⟨rfl, hb3⟩
       have HX3 := Lib.hid ((hb3.block W.heap.size (by have := HS2.out; omega)).trans HX2.out)
       have HV3 := Lib.hid ((hb3.block (W.heap.size + 1) (by have := HS2.out; omega)).trans HV2.out)
       have HY3 := Lib.hid ((hb3.block (W.heap.size + 2) (by have := HS2.out; omega)).trans HY2.out)
       have HB3 := Lib.hid (HB2.out.trans (hb3.mono HB2.out.size))
       have HS3 : Hid (W.heap.size + 3 ≤ w3.heap.size) := (by have h1 := HS2.out; have h2 := hb3.size; show _ ≤ _; omega)
       clear hb3)
    | (refine ld_if rfl 112 _ rfl W.heap.size rfl 112 _ _ _ HX3.out Tryz.underlying112 rfl (by rw [HS.out]; exact rope_size) ?_)
    | (go_at_call 65
       refine (HLEN.out _ HB3.out).mono ?_
       rintro e w6 ⟨rfl, hw6⟩
       have HX6 : Hid (w6.heap[W.heap.size]? = some (.cells c 112 (0, 0))) := (by show _ = _; rw [hw6]; exact ((Below.newly' w3 _).block W.heap.size (by have := HS3.out; omega)).trans HX3.out)
       have HV6 : Hid (w6.heap[W.heap.size + 1]? = some (.cells (celC x) 35 (0, 0))) := (by show _ = _; rw [hw6]; exact ((Below.newly' w3 _).block (W.heap.size + 1) (by have := HS3.out; omega)).trans HV3.out)
       have HY6 : Hid (w6.heap[W.heap.size + 2]? = some (.cells #[.int .i64 0, .int .i64 0, .slice none 0 0, .slice none 0 0] 112 (0, 0))) := (by show _ = _; rw [hw6]; exact ((Below.newly' w3 _).block (W.heap.size + 2) (by have := HS3.out; omega)).trans HY3.out)
       have HB6 : Hid (Below W.heap.size W w6) := (by show Below _ _ _; rw [hw6]; exact HB3.out.trans ((Below.newly' w3 _).mono HB3.out.size))
       have HS6 : Hid (W.heap.size + 3 ≤ w6.heap.size) := (by have := HS3.out; show _ ≤ _; rw [hw6]; simp; omega)
       clear hw6)
    | (refine ld_if rfl 110 _ rfl W.heap.size rfl 112 _ _ _ HX6.out Tryz.underlying110 rfl (by rw [HS.out]; exact rnode_size) ?_)
    | (go_at_call 99
       refine (HINS.out _ HB6.out).mono ?_
       rintro e w4 ⟨v4, rfl, hh4, ks, hn4, hc4, hf4, hb4⟩
       have HT := Lib.hid (rp_top w4 hh4 v4 ks hn4 hf4 (by rw [hc4]; exact HLL.out))
       rw [hc4] at HT
       obtain ⟨a4, cap4, rfl, _⟩ := hn4.1.shape
       have HY4 := Lib.hid ((hb4.block (W.heap.size + 2) (by have := HS6.out; omega)).trans HY6.out)
       have HB4 := Lib.hid hb4
       clear hn4 hc4 hf4 hb4)
    | (go_at_call 98
       refine HT.out.mono ?_
       rintro e w7 ⟨c7, rfl, hr7, hb7⟩
       obtain ⟨y0, y1, q1, n1, c1, q2, n2, c2, rfl⟩ := hr7.four
       have HR7 := Lib.hid hr7
       have HB7 := Lib.hid hb7
       have HY7 := Lib.hid ((hb7.block (W.heap.size + 2) (by have := HS6.out; have := HB4.out.size; omega)).trans HY4.out)
       clear hr7 hb7)
    | (refine st_agg rfl 112 _ _ rfl (W.heap.size + 2) _ rfl rfl 112 _ HY7.out rope_size rfl (one4 rfl rfl rfl rfl) ?_; intro w5 h5 k5))
  refine bodyPost_ret (results_cell_row1 rfl _ _ (W.heap.size + 2) 112 _ (0, 0) _ rfl h5 Tryz.underlying112 rfl rope_size) rfl ⟨_, rfl, ?_, ?_⟩
  · have hs3 := HS6.out
    have hs4 := HB4.out.size
    refine (HR7.out.kept k5.by_ (fun X e => by cases e; rintro ((⟨_, h⟩ | h) | h) <;> omega)).weak fun g hg => ?_
    rcases hg with (hg | hg) | hg
    · exact .inl hg.1
    · exact .inr (by omega)
    · exact .inr (by omega)
  · have hs3 := HS6.out
    have hs4 := HB4.out.size
    exact ((HB6.out.trans (HB4.out.mono (by omega))).trans (HB7.out.mono (by omega))).trans (k5.below (by omega))
set_option maxHeartbeats 8000000 in
theorem rp_Insert_out {S : Nat → Prop} {c : Array Value} {l : List Cel} (W : World) (h : RootR S W c l) (i : Int) (x : Cel) (hi : ¬ (0 ≤ i ∧ i ≤ l.length)) :
    Calls Tryz.prog 67 #[.agg c, .int .i64 i, .agg (celC x)] W fun e W' => e = .returned (.tuple #[.agg zeroR, .int .i64 4]) ∧ Below W.heap.size W W' := by
  obtain ⟨w2, hw2⟩ : ∃ w2, ((W.alloc (.cells c 112)).alloc (.cells (celC x) 35)).alloc (.cells #[.int .i64 0, .int .i64 0, .slice none 0 0, .slice none 0 0] 112) = w2 := ⟨_, rfl⟩
  obtain ⟨hb2, hx2, hv2, hy2, hs2⟩ := three_newV hw2
  have HV2 := Lib.hid hv2
  have HX2 := Lib.hid hx2
  have HY2 := Lib.hid hy2
  have HB2 := Lib.hid hb2
  have HS2 := Lib.hid hs2
  have HS := Lib.hid h.size
  have HH := Lib.hid (rp_has w2 (h.later hb2) i)
  rw [show decide (0 ≤ i ∧ i < l.length) = false by simp; omega] at HH
  have HLEN := Lib.hid (fun V (hV : Below W.heap.size W V) => rp_Len V (h.later hV))
  obtain ⟨n, hn⟩ : ∃ n, n = l.length := ⟨_, rfl⟩
  rw [← hn] at HLEN hi
  have hne : (i == (n : Int)) = false := beq_eq_false_iff_ne.2 (by omega)
  have hne' : ¬ i = (n : Int) := by omega
  clear hb2 hx2 hv2 hy2 hs2 h hi hn
  go_enter Tryz.func67, Tryz.ntmps67
  go_upto_region 1 with fail
  clear hw2
  go_wp2_with (first
    | (refine ld_if rfl 112 _ rfl W.heap.size rfl 112 _ _ _ HX2.out Tryz.underlying112 rfl (by rw [HS.out]; exact rope_size) ?_)
    | (go_at_call 97
       refine HH.out.mono ?_
       rintro e w3 ⟨rfl, hb3⟩
       have HX3 := Lib.hid ((hb3.block W.heap.size (by have := HS2.out; omega)).trans HX2.out)
       have HV3 := Lib.hid ((hb3.block (W.heap.size + 1) (by have := HS2.out; omega)).trans HV2.out)
       have HY3 := Lib.hid ((hb3.block (W.heap.size + 2) (by have := HS2.out; omega)).trans HY2.out)
       have HB3 := Lib.hid (HB2.out.trans (hb3.mono HB2.out.size))
       have HS3 : Hid (W.heap.size + 3 ≤ w3.heap.size) := (by have h1 := HS2.out; have h2 := hb3.size; show _ ≤ _; omega)
       clear hb3)
    | (refine ld_if rfl 112 _ rfl W.heap.size rfl 112 _ _ _ HX3.out Tryz.underlying112 rfl (by rw [HS.out]; exact rope_size) ?_)
    | (go_at_call 65
       refine (HLEN.out _ HB3.out).mono ?_
       rintro e w6 ⟨rfl, hw6⟩
       have HX6 : Hid (w6.heap[W.heap.size]? = some (.cells c 112 (0, 0))) := (by show _ = _; rw [hw6]; exact ((Below.newly' w3 _).block W.heap.size (by have := HS3.out; omega)).trans HX3.out)
       have HV6 : Hid (w6.heap[W.heap.size + 1]? = some (.cells (celC x) 35 (0, 0))) := (by show _ = _; rw [hw6]; exact ((Below.newly' w3 _).block (W.heap.size + 1) (by have := HS3.out; omega)).trans HV3.out)
       have HY6 : Hid (w6.heap[W.heap.size + 2]? = some (.cells #[.int .i64 0, .int .i64 0, .slice none 0 0, .slice none 0 0] 112 (0, 0))) := (by show _ = _; rw [hw6]; exact ((Below.newly' w3 _).block (W.heap.size + 2) (by have := HS3.out; omega)).trans HY3.out)
       have HB6 : Hid (Below W.heap.size W w6) := (by show Below _ _ _; rw [hw6]; exact HB3.out.trans ((Below.newly' w3 _).mono HB3.out.size))
       have HS6 : Hid (W.heap.size + 3 ≤ w6.heap.size) := (by have := HS3.out; show _ ≤ _; rw [hw6]; simp; omega)
       clear hw6)
    | (refine st_agg rfl 112 _ _ rfl (W.heap.size + 2) zeroR rfl rfl 112 _ HY6.out rope_size rfl (one4 rfl rfl rfl rfl) ?_; intro w5 h5 k5))
  exact bodyPost_ret (results_cell_row1 rfl _ _ (W.heap.size + 2) 112 _ (0, 0) _ rfl h5 Tryz.underlying112 rfl rope_size) rfl ⟨rfl, HB6.out.trans (k5.below (by omega))⟩
theorem rp_Insert {S : Nat → Prop} {c : Array Value} {l : List Cel} (W : World) (h : RootR S W c l) (i : Nat) (x : Cel) (hi : i ≤ l.length) (hN : l.length ≤ 50000) :
  Calls Tryz.prog 67 #[.agg c, .int .i64 (i : Int), .agg (celC x)] W fun e W' => ∃ c', e = .returned (.tuple #[.agg c', .int .i64 0]) ∧ RootR (fun g => S g ∨ W.heap.size ≤ g) W' c' (insL l i x) ∧ Below W.heap.size W W' := by
 rcases Nat.lt_or_ge i l.length with h1 | h1
 ·exact rp_Insert_mid W h i x h1 hN
 ·exact rp_Insert_end W h i x (by omega) hN
theorem inner_size : (Tryz.prog.info? 123).map (·.size) = some 12 := by kernel_rfl
theorem innC_one {rc mc : Array Value} {d : Value} {n : Nat} (hr : rc.all (·.oneCell') = true) (hm : mc.all (·.oneCell') = true) (hd : d.oneCell' = true) : (innC rc mc d n).all (·.oneCell') = true := by
 rw [innC, Array.all_append, Array.all_append, hr, hm]
 show ((true && true) && (#[d, .int .i64 (n : Int)] : Array Value).all (·.oneCell')) = true
 rw [Bool.true_and, Bool.true_and, Array.all_eq_true_iff_forall_mem]
 intro u hu
 simp only [List.mem_toArray, List.mem_cons, List.not_mem_nil, or_false] at hu
 rcases hu with rfl | rfl
 ·exact hd
 ·rfl
theorem innC_cnt {rc mc : Array Value} (hr : rc.size = 4) (hm : mc.size = 6) (d0 d : Value) (n0 n : Nat) : ((innC rc mc d0 n0).toList.take 10 ++ (#[d, .int .i64 (n : Int)] : Array Value).toList ++ (innC rc mc d0 n0).toList.drop (10 + (#[d, .int .i64 (n : Int)] : Array Value).size)).toArray = innC rc mc d n := by
 have h1 : (rc ++ mc).toList.length = 10 := by simp [hr, hm]
 have h2 : (innC rc mc d0 n0).toList = (rc ++ mc).toList ++ [d0, .int .i64 (n0 : Int)] := by simp [innC]
 rw [h2, ← h1, List.take_left]
 have h3 : (#[d, .int .i64 (n : Int)] : Array Value).size = 2 := rfl
 have h4 : List.drop ((rc ++ mc).toList.length + 2) ((rc ++ mc).toList ++ [d0, .int .i64 (n0 : Int)]) = [] := List.drop_eq_nil_of_le (by simp; omega)
 rw [h3, h4]
 simp [innC]
def Chgs (S : Nat → Prop) (w : World) (rc mc : Array Value) (d0 : Value) (N0 : Nat) (lr : List Cel) (sd : Nat) (nn : Int) (lm : List Ent) (fnum : Nat) (lb : Array Value) : Prop :=
 ∀ W X, Below w.heap.size w W → w.heap.size ≤ X → W.heap[X]? = some (.cells (innC rc mc d0 N0) 123 (0, 0)) → Calls Tryz.prog fnum (#[.pointer (some ⟨X, 0, none⟩)] ++ lb) W fun r W' => r = .returned (.tuple #[]) ∧ ∃ rc' mc', W'.heap[X]? = some (.cells (innC rc' mc' d0 N0) 123 (0, 0)) ∧ RootR (fun g => (S g ∧ g < w.heap.size) ∨ W.heap.size ≤ g) W' rc' lr ∧ MapAt (fun g => (S g ∧ g < w.heap.size) ∨ W.heap.size ≤ g) W' sd nn lm mc' ∧ ∃ W1, Below W.heap.size W W1 ∧ Only X W1 W'
set_option maxHeartbeats 8000000 in
theorem va_changed {S : Nat → Prop} (w : World) (x : Cel) (b : Nat) (hp : x.p = some ⟨b, 0, none⟩) (rc mc : Array Value) (d0 : Value) (N0 : Nat) (fr : Nat × Nat) (hbk : w.heap[b]? = some (.cells (innC rc mc d0 N0) 123 fr)) (hrs : rc.size = 4) (hms : mc.size = 6)
    (h1r : rc.all (·.oneCell') = true) (h1m : mc.all (·.oneCell') = true) (h1d : d0.oneCell' = true) (lr : List Cel) (sd : Nat) (nn : Int) (lm : List Ent) (fnum : Nat) (lb : Array Value) (hent : ∀ args w, (callFunc fnum args).run Tryz.prog w = .ok (.enter fnum args) w)
    (hchg : Chgs S w rc mc d0 N0 lr sd nn lm fnum lb) (da : Option Addr) (dc : Nat) (l : List Int) (n : Nat) (hl : l.length ≤ 100) (hn : n ≤ 100000) :
    Calls Tryz.prog 68 #[.agg (celC x), .agg #[.slice da l.length dc, .int .i64 (n : Int)], .func (.func fnum) #[] lb] w fun r w' => Below w.heap.size w w' ∧
      ((63 < l.length ∧ r = .returned (.tuple #[.agg (celC zeroV), .int .i64 7])) ∨ (l.length ≤ 63 ∧ 16383 < n ∧ r = .returned (.tuple #[.agg (celC zeroV), .int .i64 8])) ∨
       (l.length ≤ 63 ∧ n ≤ 16383 ∧ ∃ X rc' mc', r = .returned (.tuple #[.agg (celC ⟨x.k, x.n, x.t, some ⟨X, 0, none⟩⟩), .int .i64 0]) ∧ w.heap.size ≤ X ∧ w'.heap[X]? = some (.cells (innC rc' mc' (.slice da l.length dc) n) 123 (0, 0)) ∧ RootR (fun g => S g ∨ w.heap.size ≤ g) w' rc' lr ∧ MapAt (fun g => S g ∨ w.heap.size ≤ g) w' sd nn lm mc')) := by
  obtain ⟨w1, hw1⟩ : ∃ w1, ((w.alloc (.cells (celC x) 35)).alloc (.cells #[.slice da l.length dc, .int .i64 (n : Int)] 107)).alloc (.cells #[.int .i64 0, .int .i64 0, .string ⟨#[]⟩, .pointer none] 35) = w1 := ⟨_, rfl⟩
  obtain ⟨hb1, hx1, ht1, hy1, hs1⟩ := three_newV hw1
  have HX1 := Lib.hid hx1
  have HT1 := Lib.hid ht1
  have HY1 := Lib.hid hy1
  have HB1 := Lib.hid hb1
  have HS1 := Lib.hid hs1
  have HDP := Lib.hid (tl_depth w1 da l.length dc (n : Int) (by omega))
  have HN := Lib.hid (And.intro hl hn)
  have hl' : (l.length : Int) ≤ 100 := by omega
  have hn' : (n : Int) ≤ 100000 := by omega
  have hn0 : (0 : Int) ≤ (n : Int) := by omega
  have HPX : Hid ((celC x)[3]? = some (.pointer (some ⟨b, 0, none⟩))) := by show _ = _; rw [← hp]; rfl
  have HBK := Lib.hid ((hb1.block _ (Array.getElem?_eq_some_iff.1 hbk).1).trans hbk)
  have HZ := Lib.hid (And.intro hrs (And.intro hms (innC_one (n := N0) h1r h1m h1d)))
  have HCH := Lib.hid hchg
  clear hx1 ht1 hy1 hs1 hb1 hl hn hbk hrs hms h1r h1m h1d hchg
  rcases Nat.lt_or_ge 63 l.length with h63 | h63
  · have c1 : ((l.length + 1 : Nat) : Int) > 64 := by omega
    have HH := Lib.hid h63
    clear h63
    go_enter Tryz.func68, Tryz.ntmps68
    go_upto_region 1 with fail
    clear hw1
    go_wp2_with (first
      | (refine ld_if rfl 107 _ rfl (w.heap.size + 1) rfl 107 _ _ _ HT1.out Tryz.underlying107 rfl tally_size ?_)
      | (go_at_call 64; refine HDP.out.mono ?_; rintro r w2 ⟨rfl, hb2⟩; have HB2 := Lib.hid (HB1.out.trans (hb2.mono HB1.out.size)); have HY2 := Lib.hid ((hb2.block _ (Array.getElem?_eq_some_iff.1 HY1.out).1).trans HY1.out); clear hb2)
      | (refine st_agg rfl 35 _ _ rfl (w.heap.size + 2) #[.int .i64 0, .int .i64 0, .string ⟨#[]⟩, .pointer none] rfl rfl 35 _ HY2.out val_size rfl (by simp [Value.oneCell']) ?_; intro w5 h5 k5))
    exact bodyPost_ret (results_cell_row1 rfl _ _ (w.heap.size + 2) 35 _ (0, 0) _ rfl h5 Tryz.underlying35 rfl val_size) rfl ⟨HB2.out.trans (k5.below (by omega)), .inl ⟨HH.out, rfl⟩⟩
  have c1 : ¬ ((l.length + 1 : Nat) : Int) > 64 := by omega
  have H63 := Lib.hid h63
  clear h63
  rcases Nat.lt_or_ge 16383 n with h16 | h16
  · have c2 : (n : Int) + 1 > 16384 := by omega
    have HH := Lib.hid h16
    clear h16
    go_enter Tryz.func68, Tryz.ntmps68
    go_upto_region 1 with fail
    clear hw1
    have cn : w1.cell? ⟨w.heap.size + 1, 1, none⟩ = some (.int .i64 (n : Int)) := cell_in HT1.out rfl
    go_wp2_with (first
      | (refine ld_if rfl 107 _ rfl (w.heap.size + 1) rfl 107 _ _ _ HT1.out Tryz.underlying107 rfl tally_size ?_)
      | (go_at_call 64; refine HDP.out.mono ?_; rintro r w2 ⟨rfl, hb2⟩; have cn2 := keep_cell cn hb2; have HB2 := Lib.hid (HB1.out.trans (hb2.mono HB1.out.size)); have HY2 := Lib.hid ((hb2.block _ (Array.getElem?_eq_some_iff.1 HY1.out).1).trans HY1.out); clear hb2)
      | (refine st_agg rfl 35 _ _ rfl (w.heap.size + 2) #[.int .i64 0, .int .i64 0, .string ⟨#[]⟩, .pointer none] rfl rfl 35 _ HY2.out val_size rfl (by simp [Value.oneCell']) ?_; intro w5 h5 k5))
    exact bodyPost_ret (results_cell_row1 rfl _ _ (w.heap.size + 2) 35 _ (0, 0) _ rfl h5 Tryz.underlying35 rfl val_size) rfl ⟨HB2.out.trans (k5.below (by omega)), .inr (.inl ⟨H63.out, HH.out, rfl⟩)⟩
  have c2 : ¬ (n : Int) + 1 > 16384 := by omega
  have H16 := Lib.hid h16
  clear h16
  go_enter Tryz.func68, Tryz.ntmps68
  go_upto_region 1 with fail
  clear hw1
  have cn : w1.cell? ⟨w.heap.size + 1, 1, none⟩ = some (.int .i64 (n : Int)) := cell_in HT1.out rfl
  have cp : w1.cell? ⟨w.heap.size, 3, none⟩ = some (.pointer (some ⟨b, 0, none⟩)) := cell_in HX1.out HPX.out
  go_upto_region 6 with (first
    | (refine ld_if rfl 107 _ rfl (w.heap.size + 1) rfl 107 _ _ _ HT1.out Tryz.underlying107 rfl tally_size ?_)
    | (go_at_call 64; refine HDP.out.mono ?_; rintro r w2 ⟨rfl, hb2⟩; replace cn := keep_cell cn hb2; replace cp := keep_cell cp hb2; have HB2 := Lib.hid (HB1.out.trans (hb2.mono HB1.out.size)); have HX2 := Lib.hid ((hb2.block _ (Array.getElem?_eq_some_iff.1 HX1.out).1).trans HX1.out); have HT2 := Lib.hid ((hb2.block _ (Array.getElem?_eq_some_iff.1 HT1.out).1).trans HT1.out); have HY2 := Lib.hid ((hb2.block _ (Array.getElem?_eq_some_iff.1 HY1.out).1).trans HY1.out); have HK2 := Lib.hid ((hb2.block _ (Array.getElem?_eq_some_iff.1 HBK.out).1).trans HBK.out); have HL2 : Hid (w.heap.size + 3 ≤ w2.heap.size) := (by have := HS1.out; have := hb2.size; show _ ≤ _; omega); clear hb2)
    | (refine ld_if rfl 123 _ rfl b rfl 123 _ _ _ HK2.out Tryz.underlying123 rfl (by rw [innC_size HZ.out.1 HZ.out.2.1]; exact inner_size) ?_)
    | (refine st_agg rfl 123 _ _ rfl w2.heap.size (innC rc mc d0 N0) rfl rfl 123 _ (heap_alloc_last _ _) (by rw [innC_size HZ.out.1 HZ.out.2.1]; exact inner_size) (by rw [innC_size HZ.out.1 HZ.out.2.1]; rfl) HZ.out.2.2 ?_; intro w4 h4 k4))
  have ha := Below.newly' w2 (.cells #[.int .i64 0, .int .i64 0, .slice none 0 0, .slice none 0 0, .int .u64 0, .int .i64 0, .int .i64 0, .int .u32 0, .slice none 0 0, .slice none 0 0, .slice none 0 0, .int .i64 0] 123)
  have HB4 := Lib.hid ((HB2.out.trans (ha.mono HB2.out.size)).trans (k4.below HB2.out.size))
  have hl2 := HL2.out
  have HX4 := Lib.hid (k4.other ((ha.block _ (Array.getElem?_eq_some_iff.1 HX2.out).1).trans HX2.out) (by omega))
  have HT4 := Lib.hid (k4.other ((ha.block _ (Array.getElem?_eq_some_iff.1 HT2.out).1).trans HT2.out) (by omega))
  have HY4 := Lib.hid (k4.other ((ha.block _ (Array.getElem?_eq_some_iff.1 HY2.out).1).trans HY2.out) (by omega))
  obtain ⟨X, hX⟩ : ∃ X, X = w2.heap.size := ⟨_, rfl⟩
  rw [← hX] at h4 hl2 ⊢
  have HXX := Lib.hid hl2
  have HCC := Lib.hid (HCH.out w4 X HB4.out (by omega) h4)
  have HSX : Hid (X < w4.heap.size) := (Array.getElem?_eq_some_iff.1 h4).1
  clear ha hl2 h4 k4 HX1 HT1 HY1 HX2 HT2 HY2 HK2 HBK HCH cn cp hX HDP
  go_upto_region 7 with (first
    | ((with_reducible refine HCC.out.mono ?_); rintro r w5 ⟨rfl, rc', mc', h5, hr5, hm5, W1, hb5, k5⟩))
  have hsx := HSX.out
  have hxx := HXX.out
  have hkb : ∀ (g : Nat) (o : Obj), g < w4.heap.size → g ≠ X → w4.heap[g]? = some o → w5.heap[g]? = some o := fun g o hg hne h => k5.other ((hb5.block g hg).trans h) hne
  have HX5 := Lib.hid (hkb _ _ (by omega) (by omega) HX4.out)
  have HT5 := Lib.hid (hkb _ _ (by omega) (by omega) HT4.out)
  have HY5 := Lib.hid (hkb _ _ (by omega) (by omega) HY4.out)
  have HI5 := Lib.hid h5
  have HZ5 := Lib.hid (And.intro hr5.size hm5.size)
  have HR5 := Lib.hid hr5
  have HM5 := Lib.hid hm5
  have HW5 := Lib.hid ((HB4.out.trans (hb5.mono HB4.out.size)).trans (k5.below (by omega)))
  have HL5 : Hid (w4.heap.size ≤ w5.heap.size) := by have := hb5.size; rw [← k5.size] at this; exact this
  clear hsx hxx hkb h5 hr5 hm5 hb5 k5 HCC HX4 HT4 HY4
  have HRX : Hid (w5.rangeAt w.heap.size 0 [.int .i64 x.k, .int .i64 x.n, .string x.t]) := fun j u hu => cell_in HX5.out (by
    have hj : j < 3 := (List.getElem?_eq_some_iff.1 hu).1
    match j, hj with
    | 0, _ => exact hu
    | 1, _ => exact hu
    | 2, _ => exact hu)
  go_wp2_with (first
    | (refine ld_if rfl 107 _ rfl (w.heap.size + 1) rfl 107 _ _ _ HT5.out Tryz.underlying107 rfl tally_size ?_)
    | (refine st_mid rfl 107 _ _ rfl X 10 #[.slice da l.length dc, .int .i64 (n : Int)] rfl rfl 123 _ HI5.out tally_size (by rw [innC_size HZ5.out.1 HZ5.out.2]; exact Nat.le_refl _) (by simp [Value.oneCell']) _ (innC_cnt HZ5.out.1 HZ5.out.2 _ _ _ _) ?_; intro w6 h6 k6; have HI6 := Lib.hid h6; have HK6 := Lib.hid k6; clear h6 k6)
    | (refine wpList_load_mid rfl 32 _ rfl w.heap.size 0 rfl [.int .i64 x.k, .int .i64 x.n, .string x.t] _ (fun j u hu => cell_in (HK6.out.other HX5.out (by have := HXX.out; omega)) (by
        have hj : j < 3 := (List.getElem?_eq_some_iff.1 hu).1
        match j, hj with
        | 0, _ => exact hu
        | 1, _ => exact hu
        | 2, _ => exact hu)) Tryz.underlying32 rfl scalar_size ?_)
    | (refine st_agg rfl 35 _ _ rfl (w.heap.size + 2) (celC ⟨x.k, x.n, x.t, some ⟨X, 0, none⟩⟩) rfl rfl 35 _ (HK6.out.other HY5.out (by have := HXX.out; omega)) val_size rfl (celC_one _) ?_; intro w7 h7 k7))
  have hsx := HSX.out
  have hxx := HXX.out
  have hl5 := HL5.out
  have hkk : ∀ g : Nat, ((S g ∧ g < w.heap.size) ∨ w4.heap.size ≤ g) → g ≠ X ∧ g ≠ w.heap.size + 2 := fun g hg => by rcases hg with ⟨_, hg⟩ | hg <;> constructor <;> omega
  have hq : Kq (fun g => (S g ∧ g < w.heap.size) ∨ w4.heap.size ≤ g) w5 w7 := fun g o hg h => k7.other (HK6.out.other h (hkk g hg).1) (hkk g hg).2
  exact bodyPost_ret (results_cell_row1 rfl _ _ (w.heap.size + 2) 35 _ (0, 0) _ rfl h7 Tryz.underlying35 rfl val_size) rfl ⟨(HW5.out.trans (HK6.out.below (by omega))).trans (k7.below (by omega)), .inr (.inr ⟨H63.out, by have := H16.out; omega, X, rc', mc', rfl, by omega, k7.other HI6.out (by omega),
    HR5.out.imp hq fun g hg _ => hg.elim (fun h => .inl h.1) (fun h => .inr (by omega)), HM5.out.imp hq.kp fun g hg _ => hg.elim (fun h => .inl h.1) (fun h => .inr (by omega))⟩)⟩
section
variable {S : Nat → Prop} {w : World} {rc mc : Array Value} {d0 : Value} {N0 : Nat} {sd : Nat} {nn : Int} {lr : List Cel} {L : List Ent}
set_option maxHeartbeats 8000000 in
theorem chg_ins (l : List Cel) (rc1 : Array Value) (hr : RootR S w rc1 l) (hm : MapAt S w sd nn L mc) (p : Nat) (fp : Nat × Nat) (hp : w.heap[p]? = some (.cells rc1 112 fp)) (hrs : rc.size = 4) (hms : mc.size = 6) : Chgs S w rc mc d0 N0 l sd nn L 71 #[.pointer (some ⟨p, 0, none⟩)] := by
 intro W X hW hwX hX
 have HP := Lib.hid ((hW.block _ (Array.getElem?_eq_some_iff.1 hp).1).trans hp)
 have HR := Lib.hid (hr.old.later hW)
 have HM := Lib.hid (hm.old.later hW)
 have HX := Lib.hid hwX
 have HZ := Lib.hid (And.intro hrs (And.intro hms hr.size))
 have HXI := Lib.hid hX
 have HO := Lib.hid hr.one
 clear hr hm hp hX hwX hW
 show Calls Tryz.prog 71 #[.pointer (some ⟨X, 0, none⟩), .pointer (some ⟨p, 0, none⟩)] W _
 go_enter Tryz.func71, Tryz.ntmps71
 go_wp2_with (first
  | (refine ld_if rfl 112 _ rfl p rfl 112 _ _ _ HP.out Tryz.underlying112 rfl (by rw [HZ.out.2.2]; exact rope_size) ?_)
  | (refine st_mid rfl 112 _ _ rfl X 0 rc1 rfl rfl 123 _ HXI.out (by rw [HZ.out.2.2]; exact rope_size) (by rw [innC_size HZ.out.1 HZ.out.2.1, HZ.out.2.2]; decide) HO.out _ (innC_rp HZ.out.1 HZ.out.2.2 _ _) ?_; intro w6 h6 k6))
 go_end0
 have hq : Kq (fun g => S g ∧ g < w.heap.size) W w6 := Kq.only k6 (fun h => by have := h.2; have := HX.out; omega)
 exact ⟨rfl, rc1, mc, h6, HR.out.imp hq (fun _ h _ => .inl h), HM.out.imp hq.kp (fun _ h _ => .inl h), W, Below.refl _ _, k6⟩
end
end Go.Proofs.YtpodmgihlomglaaGreatDoor
namespace Go.Proofs.YtpodmgihlomglaaGreatDoor
namespace Tr
open Go.RowKit
set_option linter.unusedSimpArgs false
end Tr
theorem good_null : Good nullT := by
 rw [good_iff]
 refine ⟨fun x hx => ?_, Or.inl ⟨by decide, by decide, by decide, inr0, rfl, rfl⟩⟩
 exact absurd hx List.not_mem_nil
end Go.Proofs.YtpodmgihlomglaaGreatDoor
namespace Go.Proofs.YtpodmgihlomglaaGreatDoor
open Go.RowKit
set_option linter.unusedSimpArgs false
set_option maxRecDepth 1000000
def withinT (a : Tr) : Tr × Int := if 64 < depT a then (nullT, 7) else if 16384 < nodT a then (nullT, 8) else (a, 0)
theorem val_null : ValT nullT := ⟨good_null, by simp [depT, depL], by simp [nodT, nodL]⟩
def putN {β : Type} (n : Nat) (l : List β) (x : β) : List β := l.take n ++ x :: l.drop n
theorem putN_perm {β : Type} (n : Nat) (l : List β) (x : β) : (putN n l x).Perm (x :: l) := by
 unfold putN
 refine List.perm_middle.trans ?_
 rw [List.take_append_drop]
def insT (a : Tr) (i : Int) (x : Tr) : Tr × Int :=
 if a.k ≠ 4 then (nullT, 3) else if i < 0 ∨ (a.xs.length : Int) < i then (nullT, 4)
 else withinT (.nd 4 0 ⟨#[]⟩ [] (putN i.toNat a.xs x))
theorem txt_null (B : Nat) : TxtT B nullT := txtT_iff.2 ⟨Nat.zero_le _, fun _ h => (by cases h), fun _ h => (by cases h)⟩
theorem valB_null : ValB nullT := ⟨val_null, txt_null _⟩
theorem ValB.inner {a : Tr} (h : ValB a) (h4 : 4 ≤ a.k) : a.n = 0 ∧ a.t = ⟨#[]⟩ := by
 rcases (good_iff.1 h.1.1).2 with h | ⟨h1, h2, _⟩
 ·omega
 ·exact ⟨h1, h2⟩
theorem tal_le {a : Tr} (h : ValB a) : (tal a.xs).length ≤ 63 := by rw [tal_len]; exact h.depL
theorem tal_rng {a : Tr} (h : ValB a) : RngI (tal a.xs) := rng_tal (Nat.le_trans h.len (by omega))
theorem VAt.two {S : Nat → Prop} {w : World} {a : Tr} {x : Cel} (h : VAt S w a x) (ha : ValB a) (h4 : 4 ≤ a.k) : x.n = 0 ∧ x.t = ⟨#[]⟩ := by
 have := ha.inner h4
 rw [h.n, h.t, this.1, this.2]
 exact ⟨rfl, rfl⟩
theorem nd_ks (k n : Int) (t : ByteArray) (ks : List ByteArray) (xs : List Tr) : (Tr.nd k n t ks xs).ks = ks := rfl
theorem nd_xs (k n : Int) (t : ByteArray) (ks : List ByteArray) (xs : List Tr) : (Tr.nd k n t ks xs).xs = xs := rfl
theorem dep_tal (a : Tr) : depT a = (tal a.xs).length + 1 := by rw [depT_eq, tal_len]
theorem within_dep {a : Tr} (h : 63 < (tal a.xs).length) : withinT a = (nullT, 7) := by
 unfold withinT
 rw [if_pos (by rw [dep_tal]; omega)]
theorem within_nod {a : Tr} (h : (tal a.xs).length ≤ 63) (hn : 16383 < nodL a.xs) : withinT a = (nullT, 8) := by
 unfold withinT
 rw [if_neg (by rw [dep_tal]; omega), if_pos (by rw [nodT_eq]; omega)]
theorem within_in {a : Tr} (h : (tal a.xs).length ≤ 63) (hn : nodL a.xs ≤ 16383) : withinT a = (a, 0) := by
 unfold withinT
 rw [if_neg (by rw [dep_tal]; omega), if_neg (by rw [nodT_eq]; omega)]
theorem va_changedT {S : Nat → Prop} (w : World) (x : Cel) (b : Nat) (hp : x.p = some ⟨b, 0, none⟩) (rc mc : Array Value) (d0 : Value) (N0 : Nat) (fr : Nat × Nat) (hbk : w.heap[b]? = some (.cells (innC rc mc d0 N0) 123 fr)) (lr0 : List Cel) (hr0 : RootR S w rc lr0)
  (lm0 : List Ent) (sd : Nat) (nn : Int) (hm0 : MapAt S w sd nn lm0 mc) (hsd : sd < 18446744073709551616) (t0 : List Int) (hd0 : CutAt S w 1 d0 (iv t0) t0.length) (fnum : Nat) (lb : Array Value) (hent : ∀ args w, (callFunc fnum args).run Tryz.prog w = .ok (.enter fnum args) w)
  (a' : Tr) (h4 : 4 ≤ a'.k) (hk : x.k = a'.k) (hn : x.n = 0 ∧ a'.n = 0) (ht : x.t = ⟨#[]⟩ ∧ a'.t = ⟨#[]⟩) (l' : List Cel) (hl' : VAtL S w a'.xs l')
  (hchg : Chgs S w rc mc d0 N0 (itemE a'.k l') sd nn (mapE a'.k a'.ks a'.xs l') fnum lb) (d : Value) (hd : CutAt S w 1 d (iv (tal a'.xs)) (tal a'.xs).length) (hl : (tal a'.xs).length ≤ 100) (hnl : nodL a'.xs ≤ 100000) :
  Calls Tryz.prog 68 #[.agg (celC x), .agg #[d, .int .i64 (nodL a'.xs : Int)], .func (.func fnum) #[] lb] w fun r w' => ∃ y, r = .returned (.tuple #[.agg (celC y), .int .i64 (withinT a').2]) ∧ VAt (fun g => S g ∨ w.heap.size ≤ g) w' (withinT a').1 y ∧ Below w.heap.size w w' := by
 obtain ⟨da, dc, rfl, _⟩ := hd.shape
 have h1d : d0.oneCell' = true := by obtain ⟨_, _, rfl, _⟩ := hd0.shape; rfl
 refine (va_changed w x b hp rc mc d0 N0 fr hbk hr0.size hm0.size hr0.one hm0.one h1d _ sd nn _ fnum lb hent hchg da dc (tal a'.xs) (nodL a'.xs) hl hnl).mono fun r w' h => ?_
 obtain ⟨hb, ⟨h1, rfl⟩ | ⟨h1, h2, rfl⟩ | ⟨h1, h2, X, rc', mc', rfl, h3, h5, h6, h7⟩⟩ := h
 ·rw [within_dep h1]; exact ⟨zeroV, rfl, vAt_null _ _, hb⟩
 ·rw [within_nod h1 h2]; exact ⟨zeroV, rfl, vAt_null _ _, hb⟩
 ·rw [within_in h1 h2]
  refine ⟨_, rfl, ?_, hb⟩
  rw [hk, hn.1, ht.1, ← hn.2, ← ht.2]
  exact vAt_inner h4 (.inr h3) ((hl'.later hb).weak fun _ h => .inl h) ⟨rc', mc', _, _, sd, nn, h5, hsd, h6, h7, (hd.later hb).weak fun _ h => .inl h⟩
theorem put_perm2 {α : Type} (n : Nat) (l : List α) (y : α) : (l ++ [y]).Perm (putN n l y) := (List.perm_append_comm.trans (by rw [List.singleton_append])).trans (putN_perm n l y).symm
theorem vAtL_take {S : Nat → Prop} {W : World} {xs : List Tr} {l : List Cel} (h : VAtL S W xs l) (n : Nat) : VAtL S W (xs.take n) (l.take n) := by
 have hl := vAtL_len h
 refine vAtL_of (by rw [List.length_take, List.length_take, hl]) fun k hk hk2 => ?_
 rw [List.getElem_take, List.getElem_take]
 exact vAtL_at h _ _
theorem vAtL_drop {S : Nat → Prop} {W : World} {xs : List Tr} {l : List Cel} (h : VAtL S W xs l) (n : Nat) : VAtL S W (xs.drop n) (l.drop n) := by
 have hl := vAtL_len h
 refine vAtL_of (by rw [List.length_drop, List.length_drop, hl]) fun k hk hk2 => ?_
 rw [List.getElem_drop, List.getElem_drop]
 exact vAtL_at h _ _
theorem vAtL_put {S : Nat → Prop} {W : World} {xs : List Tr} {l : List Cel} (h : VAtL S W xs l) (n : Nat) {y : Tr} {c : Cel} (hy : VAt S W y c) : VAtL S W (putN n xs y) (putN n l c) := by
 unfold putN
 have h1 : VAtL S W (y :: xs.drop n) (c :: l.drop n) := by rw [VAtL]; exact ⟨c, _, rfl, hy, vAtL_drop h n⟩
 exact vAtL_app (vAtL_take h n) h1
def NotT (W : World) (g : Nat) : Prop := ∀ cs fr, W.heap[g]? ≠ some (.cells cs 112 fr)
theorem HeadAt.nott {S : Nat → Prop} {W : World} {T : TypeId} {s n : Nat} {v : Value} {cs : List Value} (h : HeadAt S W T s v cs n) (hT : T ≠ 112) : HeadAt (fun g => S g ∧ NotT W g) W T s v cs n := by
 obtain ⟨h1, h2⟩ := h
 refine ⟨h1, h2.imp_right ?_⟩
 rintro ⟨h3, g, c, cur, fr, h4, h5, h6, h7, h8⟩
 refine ⟨h3, g, c, cur, fr, h4, h5, ⟨h6, fun cs' fr' e => ?_⟩, h7, h8⟩
 rw [h7] at e
 simp only [Option.some.injEq, Obj.cells.injEq] at e
 exact hT e.2.1
theorem NodeR.nott {S : Nat → Prop} {W : World} : ∀ {h : Nat} {p : Kid}, NodeR S W h p → NodeR (fun g => S g ∧ NotT W g) W h p
 | 0, _, ⟨h1, h2, h3, h4, h5⟩ => ⟨h1, h2, h3, h4, h5.nott (by decide)⟩
 | h + 1, p, ⟨h1, h2, h3, ks, h4, h5, h6, h7⟩ => ⟨h1, h2, h3, ks, h4.nott (by decide), h5, h6, fun q hq => ⟨(h7 q hq).1, (h7 q hq).2.nott⟩⟩
theorem RootR.nott {S : Nat → Prop} {W : World} {c : Array Value} {l : List Cel} (hn : RootR S W c l) : RootR (fun g => S g ∧ NotT W g) W c l := by
 rcases hn with hn | ⟨h, p, h1, h2, h3, h4⟩
 ·exact .inl hn
 ·exact .inr ⟨h, p, h1, h2, h3.nott, h4⟩
theorem insL_put (l : List Cel) (i : Nat) (c : Cel) : insL l i c = putN i l c := by
 first | rfl | (unfold insL putN; simp)
set_option maxHeartbeats 8000000 in
theorem va_Insert {S : Nat → Prop} (w : World) (a : Tr) (xa : Cel) (ha : ValB a) (hva : VAt S w a xa) (ii : Int) (yt : Tr) (cy : Cel) (hyb : ValB yt) (hvy : VAt S w yt cy) :
  Calls Tryz.prog 34 #[.agg (celC xa), .int .i64 ii, .agg (celC cy)] w fun r w' => ∃ y, r = .returned (.tuple #[.agg (celC y), .int .i64 (insT a ii yt).2]) ∧ VAt (fun g => S g ∨ w.heap.size ≤ g) w' (insT a ii yt).1 y ∧ Below w.heap.size w w' := by
 obtain ⟨w1, hw1⟩ : ∃ w1, ((w.alloc (.cells (celC xa) 35)).alloc (.cells (celC cy) 35)).alloc (.cells #[.int .i64 0, .int .i64 0, .string ⟨#[]⟩, .pointer none] 35) = w1 := ⟨_, rfl⟩
 obtain ⟨hb1, hx1, hy1, hr1, hs1⟩ := three_newV hw1
 have HX1 := Lib.hid hx1
 have HY1 := Lib.hid hy1
 have HR1 := Lib.hid hr1
 have HB1 := Lib.hid hb1
 have HS1 := Lib.hid hs1
 have HKA := Lib.hid (fun W => va_Kind W xa)
 rw [hva.k] at HKA
 by_cases h4 : a.k = 4
 ·rw [h4] at HKA
  obtain ⟨ba, la, hpa, hSa, hla, rca, mca, da0, fra, sda, nna, hba, hsda, hra, hma, hda⟩ := hva.old.parts (by omega)
  have hza : rca.size = 4 ∧ mca.size = 6 := ⟨hra.size, hma.size⟩
  have cpa : w1.cell? ⟨w.heap.size, 3, none⟩ = some (.pointer (some ⟨ba, 0, none⟩)) := cell_in hx1 (by rw [← hpa]; rfl)
  have hba1 := (hb1.block _ (Array.getElem?_eq_some_iff.1 hba).1).trans hba
  have HC := Lib.hid (And.intro cpa (And.intro (innC_rope hza.1 hba1) (And.intro (innC_tal hza.1 hza.2 hba1) hy1)))
  have hal := vAtL_len hla
  have hle := ha.len
  have ht1 := tal_le ha
  have hn1 := ha.nodL
  have hdy := hyb.dep
  have hny := hyb.nod
  have hra' := hra
  rw [item_vec h4] at hra'
  have hma' := hma
  rw [mapE_vec h4] at hma'
  have HZ := Lib.hid hza
  have HTY := Lib.hid (fun W (hb : Below w1.heap.size w1 W) => va_tallyOf W yt cy hyb (hvy.later (hb1.trans (hb.mono hb1.size))))
  obtain ⟨Kd, hKd⟩ : ∃ Kd : Nat → Prop, Kd = fun g => (S g ∧ g < w.heap.size) ∨ w1.heap.size ≤ g := ⟨_, rfl⟩
  by_cases hin : 0 ≤ ii ∧ ii ≤ (a.xs.length : Int)
  ·obtain ⟨i, rfl⟩ : ∃ i : Nat, ii = (i : Int) := ⟨ii.toNat, by omega⟩
   have e : insT a (i : Int) yt = withinT (Tr.nd 4 0 ⟨#[]⟩ [] (putN i a.xs yt)) := by unfold insT; rw [if_neg (by omega), if_neg (by omega), Int.toNat_natCast]
   rw [e]
   obtain ⟨lst, hlst⟩ : ∃ lst, lst = putN i la cy := ⟨_, rfl⟩
   obtain ⟨er, her⟩ : ∃ er : Int, er = 0 := ⟨_, rfl⟩
   have hset := put_perm2 i a.xs yt
   have i1 := tal_len (putN i a.xs yt)
   have i2 := nodL_perm hset
   have i3 := depL_perm hset
   rw [nodL_app] at i2
   rw [depL_app] at i3
   simp only [depL, nodL] at i2 i3
   have HIN1 : ∀ W, Below w1.heap.size w1 W → Calls Tryz.prog 67 #[.agg rca, .int .i64 (i : Int), .agg (celC cy)] W fun r W' => ∃ c', r = .returned (.tuple #[.agg c', .int .i64 er]) ∧ RootR Kd W' c' lst ∧ Below W.heap.size W W' := fun W hW =>
    (rp_Insert W (hra'.later (hb1.trans (hW.mono hb1.size))) i cy (by omega) (by omega)).mono fun r W' ⟨c', h1, h2, h3⟩ => ⟨c', by rw [her]; exact h1, by rw [hlst, hKd, ← insL_put]; exact h2.weak fun g hg => hg.elim .inl fun hg => .inr (Nat.le_trans hW.size hg), h3⟩
   have HPL : Hid (∀ W dt, Below w1.heap.size w1 W → CutAt (fun _ => True) W 1 dt (iv (tal [yt])) (tal [yt]).length → Calls Tryz.prog 69 #[.agg #[da0, .int .i64 (nodL a.xs : Int)], .agg #[dt, .int .i64 ((nodT yt : Nat) : Int)]] W fun r W' => ∃ dn, r = .returned (.agg #[dn, .int .i64 ((nodL (putN i a.xs yt) : Nat) : Int)]) ∧ CutAt (fun g => W.heap.size ≤ g) W' 1 dn (iv (tal (putN i a.xs yt))) (tal (putN i a.xs yt)).length ∧ Below W.heap.size W W') := fun W dt hW hdt => by
    have h := tl_plus (S := fun _ => True) W da0 dt (tal a.xs) (tal [yt]) (nodL a.xs) (nodT yt) ((hda.later (hb1.trans (hW.mono hb1.size))).weak fun _ _ => trivial) hdt (by omega) (by rw [tal_len]; simp only [depL]; omega) (tal_rng ha) (rng_tal (by simp)) (by omega) (by omega)
    rw [plus_tal, show nodL a.xs + nodT yt = nodL (a.xs ++ [yt]) by rw [nodL_app]; simp [nodL], tal_perm hset, nodL_perm hset] at h
    exact h
   rw [tal_len] at ht1
   have HCH1 : ∀ X rc1 wa, Below w1.heap.size w1 wa → RootR (fun g => (S g ∧ g < w.heap.size) ∨ w1.heap.size ≤ g) wa rc1 lst → wa.heap[X]? = some (.cells rc1 112 (0, 0)) → ∀ W dn, Below wa.heap.size wa W → CutAt (fun g => w1.heap.size ≤ g) W 1 dn (iv (tal (putN i a.xs yt))) (tal (putN i a.xs yt)).length → Calls Tryz.prog 68 #[.agg (celC xa), .agg #[dn, .int .i64 ((nodL (putN i a.xs yt) : Nat) : Int)], .func (.func 71) #[] #[.pointer (some ⟨X, 0, none⟩)]] W fun r W' => ∃ y, r = .returned (.tuple #[.agg (celC y), .int .i64 (withinT (Tr.nd 4 0 ⟨#[]⟩ [] (putN i a.xs yt))).2]) ∧ VAt (fun g => ((S g ∧ g < w.heap.size) ∨ w1.heap.size ≤ g) ∨ W.heap.size ≤ g) W' (withinT (Tr.nd 4 0 ⟨#[]⟩ [] (putN i a.xs yt))).1 y ∧ Below W.heap.size W W' := fun X rc1 wa hwa hrX hX W dn hW hdn => by
    have hbW := hb1.trans ((hwa.trans (hW.mono hwa.size)).mono hb1.size)
    exact va_changedT (S := (fun g => (S g ∧ g < w.heap.size) ∨ w1.heap.size ≤ g)) W xa ba hpa rca mca da0 (nodL a.xs) fra ((hbW.block _ (Array.getElem?_eq_some_iff.1 hba).1).trans hba) _ ((hra.later hbW).weak fun _ h => .inl h) _ sda nna ((hma.later hbW).weak fun _ h => .inl h) hsda (tal a.xs) ((hda.later hbW).weak fun _ h => .inl h) 71 #[.pointer (some ⟨X, 0, none⟩)] (enters_of Tryz.func71 (by kernel_rfl) rfl)
     (Tr.nd 4 0 ⟨#[]⟩ [] (putN i a.xs yt)) (by rw [nd_k]; omega) (hva.k.trans h4) ⟨(hva.two ha (by omega)).1, rfl⟩ ⟨(hva.two ha (by omega)).2, rfl⟩ (putN i la cy) (vAtL_put ((hla.later hbW).weak fun _ h => .inl h) _ ((hvy.old.later hbW).weak fun _ h => .inl h))
     (by
      rw [nd_k, nd_ks, nd_xs, item_vec rfl, mapE_vec rfl, ← hlst]
      exact chg_ins lst rc1 (hrX.later hW) ((hma'.later hbW).weak fun _ h => .inl h) X (0, 0) ((hW.block _ (Array.getElem?_eq_some_iff.1 hX).1).trans hX) hza.1 hza.2)
     dn (hdn.weak fun _ h => .inr h) (by rw [nd_xs]; omega) (by rw [nd_xs]; omega)
   rw [← hKd] at HCH1
   obtain ⟨ns, hns⟩ : ∃ ns, ns = putN i a.xs yt := ⟨_, rfl⟩
   obtain ⟨A', hA'⟩ : ∃ t, t = (Tr.nd 4 0 ⟨#[]⟩ [] (putN i a.xs yt)) := ⟨_, rfl⟩
   rw [← hA'] at HCH1 ⊢
   rw [← hns] at HCH1 HPL
   obtain ⟨R1, hR1⟩ : ∃ t, t = (withinT A').1 := ⟨_, rfl⟩
   obtain ⟨R2, hR2⟩ : ∃ t, t = (withinT A').2 := ⟨_, rfl⟩
   rw [← hR1, ← hR2] at HCH1 ⊢
   have HIN0 := Lib.hid HIN1
   have HCH0 := Lib.hid HCH1
   have HKD := Lib.hid hKd
   have HER := Lib.hid her
   clear hA' hns hR1 hR2 hx1 hy1 hr1 hs1 hb1 ha hva hyb hvy h4 e hSa hla hba hra hma hda hba1 hal hle ht1 hn1 hdy hny hpa hsda cpa hza hset i1 i2 i3 hra' hma' HIN1 HCH1 hKd hin her hlst
   go_enter Tryz.func34, Tryz.ntmps34
   go_upto_region 1 with fail
   clear hw1
   go_upto_region 3 with (first
    | (refine ld_if rfl 35 _ rfl w.heap.size rfl 35 _ _ _ HX1.out Tryz.underlying35 rfl val_size ?_)
    | (go_at_call 37; (with_reducible refine (HKA.out _).mono ?_); rintro r w2 ⟨rfl, hb2⟩; have HB2 := Lib.hid hb2; clear hb2))
   obtain ⟨wg, hwg⟩ : ∃ wg, wg = w2.drew := ⟨_, rfl⟩
   have HLG : Hid (Below w1.heap.size w1 wg) := by show Below _ _ _; rw [hwg]; exact HB2.out.trans ((drawn_below w2).mono HB2.out.size)
   have HIN := Lib.hid (fun W (hW : Below wg.heap.size wg W) => HIN0.out W (HLG.out.trans (hW.mono HLG.out.size)))
   have HSK : Hid (∀ A B, (A.cell? ⟨w.heap.size, 3, none⟩ = some (.pointer (some ⟨ba, 0, none⟩)) ∧ A.rangeAt ba 0 rca.toList ∧ A.heap[w.heap.size + 1]? = some (.cells (celC cy) 35 (0, 0))) → Below A.heap.size A B → (B.cell? ⟨w.heap.size, 3, none⟩ = some (.pointer (some ⟨ba, 0, none⟩)) ∧ B.rangeAt ba 0 rca.toList ∧ B.heap[w.heap.size + 1]? = some (.cells (celC cy) 35 (0, 0)))) := fun A B h hb => ⟨keep_cell h.1 hb, keep_range h.2.1 hb, (hb.block _ (Array.getElem?_eq_some_iff.1 h.2.2).1).trans h.2.2⟩
   have HKS : Hid (∀ V, Below wg.heap.size wg V → (V.cell? ⟨w.heap.size, 3, none⟩ = some (.pointer (some ⟨ba, 0, none⟩)) ∧ V.rangeAt ba 0 rca.toList ∧ V.heap[w.heap.size + 1]? = some (.cells (celC cy) 35 (0, 0)))) := fun V hV => HSK.out _ _ ⟨keep_cell HC.out.1 HLG.out, keep_range HC.out.2.1 HLG.out, (HLG.out.block _ (Array.getElem?_eq_some_iff.1 HC.out.2.2.2).1).trans HC.out.2.2.2⟩ hV
   have HW : Hid (Below wg.heap.size wg wg) := Below.refl _ _
   have HS3' : Hid (wg.cell? ⟨w.heap.size, 3, none⟩ = some (.pointer (some ⟨ba, 0, none⟩)) ∧ wg.rangeAt ba 0 rca.toList ∧ wg.heap[w.heap.size + 1]? = some (.cells (celC cy) 35 (0, 0))) := ⟨keep_cell HC.out.1 HLG.out, keep_range HC.out.2.1 HLG.out, (HLG.out.block _ (Array.getElem?_eq_some_iff.1 HC.out.2.2.2).1).trans HC.out.2.2.2⟩
   refine wp_region_T (S := (fun V => V.cell? ⟨w.heap.size, 3, none⟩ = some (.pointer (some ⟨ba, 0, none⟩)) ∧ V.rangeAt ba 0 rca.toList ∧ V.heap[w.heap.size + 1]? = some (.cells (celC cy) 35 (0, 0)))) [10, 12, 13] (by kernel_rfl) (by rw [← hwg]; exact HS3'.out) (fun hHeld => ?_)
   rw [← hwg] at hHeld ⊢
   clear hwg
   refine tkL 0 15 (h := ?_)
   refine tkL 1 16 (h := ?_)
   (try simp only [pq])
   refine tkL 2 17 (h := ?_)
   refine tkL 3 18 (h := ?_)
   (try simp only [pq])
   refine tyL 4 19 (hy := yieldsIf_arr (by rfl) 112 _ rfl ba 0 rfl rca _ (fun w hw => hw.2.1) Tryz.underlying112 rfl (by rw [HZ.out.1]; exact rope_size)) (h := ?_)
   refine tkL 5 20 (h := ?_)
   (try simp only [pq])
   refine tyL 6 21 (hy := yieldsIf_load_row (by rfl) 35 _ rfl (w.heap.size + 1) rfl (celC cy) 35 (0, 0) _ (fun w hw => hw.2.2) Tryz.underlying35 rfl (by exact val_size)) (h := ?_)
   (try simp only [pq])
   refine wpAnyT_ready (rs := [7, 11]) (by kernel_rfl) (by simp) (AllT.cons (o := ⟨some 22, _, _, _, _, _⟩) rfl (fun K hK => ?_) (AllT.cons (o := ⟨some 8, _, _, _, _, _⟩) rfl (fun K hK => ?_) AllT.nil))
   ·go_simp
    go_at_call 67
    (with_reducible refine (HIN.out _ (by exact HW.out)).mono ?_)
    rintro r wc ⟨c1, rfl, hr, hb⟩
    have HRN := Lib.hid hr
    replace HW := Lib.hid (HW.out.trans (hb.mono HW.out.size))
    clear hb hr
    dsimp only
    refine hK.out _ _ (by exact HKS.out _ HW.out) (fun hHeld => ?_)
    clear hK K
    (try simp only [pq])
    refine tkL 8 14 (h := ?_)
    refine tkP 10 24 (h := ?_)
    (try simp only [pq])
    refine tkL 9 23 (h := ?_)
    (try simp only [pq])
    refine tkO 11 (some 8) (h := fun K hK => ?_)
    go_simp
    have HZX : Hid ((wc.alloc (.cells #[.int .i64 0, .int .i64 0, .slice none 0 0, .slice none 0 0] 112)).heap[wc.heap.size]? = some (.cells #[.int .i64 0, .int .i64 0, .slice none 0 0, .slice none 0 0] 112 (0, 0))) := heap_alloc_last _ _
    have HGX : Hid (w1.heap.size ≤ wc.heap.size) := Nat.le_trans HLG.out.size HW.out.size
    replace HW := Lib.hid (HW.out.trans ((Below.newly' wc (.cells #[.int .i64 0, .int .i64 0, .slice none 0 0, .slice none 0 0] 112)).mono HW.out.size))
    obtain ⟨X, hX⟩ : ∃ X, X = wc.heap.size := ⟨_, rfl⟩
    obtain ⟨wx, hwx⟩ : ∃ wx, wx = wc.alloc (.cells #[.int .i64 0, .int .i64 0, .slice none 0 0, .slice none 0 0] 112) := ⟨_, rfl⟩
    rw [← hwx, ← hX] at HZX
    rw [← hX] at HGX
    rw [← hwx] at HW ⊢
    rw [← hX]
    have HRX1 := Lib.hid (HRN.out.later (show Below wc.heap.size wc wx by rw [hwx]; exact Below.newly' _ _))
    clear hwx hX
    refine hK.out _ _ (by exact HKS.out _ HW.out) (fun hHeld => ?_)
    clear hK K
    (try simp only [pq])
    have HZ2 := HZX
    have HRR := Lib.hid HRX1.out.nott
    have HW3 := HW
    have HWX : Hid (X < wx.heap.size) := (Array.getElem?_eq_some_iff.1 HZX.out).1
    refine tkU 12 none (h := fun K hK => ?_)
    refine st_agg_wp 112 _ _ rfl X c1 rfl rfl 112 #[.int .i64 0, .int .i64 0, .slice none 0 0, .slice none 0 0] HZ2.out (by rw [RootR.size HRR.out]; exact rope_size) (by rw [RootR.size HRR.out]; rfl) (RootR.one HRR.out) ?_
    intro wa hwa kwa
    refine hK.out _ _ ?_
    clear hK K
    (try simp only [pq])
    refine tkU 13 (some 9) (h := fun K hK => ?_)
    go_simp
    refine hK.out _ _ ?_
    clear hK K
    (try simp only [pq])
    refine wpAnyT_done (by kernel_rfl) ?_ _
    have hg1 := HGX.out
    have hs1 := HS1.out
    have hlg := HLG.out.size
    have HLW : Hid (Below w1.heap.size w1 wa) := (HLG.out.trans (HW.out.mono HLG.out.size)).trans (kwa.below (by omega))
    have HRX : Hid (RootR (fun g => (S g ∧ g < w.heap.size) ∨ w1.heap.size ≤ g) wa c1 lst) := by
     have h := HRR.out.imp (Kq.only kwa (fun h => h.2 _ _ HZ2.out)) (S' := Kd) (fun g h _ => h.1)
     rw [HKD.out] at h
     exact h
    have HXX := Lib.hid hwa
    have hl1 : ∀ g, g < w1.heap.size → g ≠ X := fun g hg => by omega
    have HX9 := Lib.hid (kwa.other (((HLG.out.trans (HW.out.mono HLG.out.size)).block _ (Array.getElem?_eq_some_iff.1 HX1.out).1).trans HX1.out) (hl1 _ (by omega)))
    have HY9 := Lib.hid (kwa.other (((HLG.out.trans (HW.out.mono HLG.out.size)).block _ (Array.getElem?_eq_some_iff.1 HY1.out).1).trans HY1.out) (hl1 _ (by omega)))
    have HR9 := Lib.hid (kwa.other (((HLG.out.trans (HW.out.mono HLG.out.size)).block _ (Array.getElem?_eq_some_iff.1 HR1.out).1).trans HR1.out) (hl1 _ (by omega)))
    have HCH := Lib.hid (HCH0.out X c1 wa HLW.out (by rw [HKD.out]; exact HRX.out) HXX.out)
    have HC9 : Hid (wa.cell? ⟨w.heap.size, 3, none⟩ = some (.pointer (some ⟨ba, 0, none⟩)) ∧ wa.rangeAt ba 10 [da0, .int .i64 (nodL a.xs : Int)]) := ⟨keep_cell HC.out.1 HLW.out, keep_range HC.out.2.2.1 HLW.out⟩
    rw [HER.out]
    clear hHeld HW HKS hg1 hs1 hlg hwa kwa HZX HZ2 HRR HX1 HY1 HR1 HSK HS3' HIN HIN0 HCH0 HC HGX
    go_upto_region 6 with fail
    have HKS : Hid (∀ V, Below wa.heap.size wa V → V.heap[w.heap.size]? = some (.cells (celC xa) 35 (0, 0)) ∧ V.cell? ⟨w.heap.size, 3, none⟩ = some (.pointer (some ⟨ba, 0, none⟩)) ∧ V.rangeAt ba 10 [da0, .int .i64 (nodL a.xs : Int)] ∧ V.heap[w.heap.size + 1]? = some (.cells (celC cy) 35 (0, 0))) := fun V hV => ⟨(hV.block _ (Array.getElem?_eq_some_iff.1 HX9.out).1).trans HX9.out, keep_cell HC9.out.1 hV, keep_range HC9.out.2 hV, (hV.block _ (Array.getElem?_eq_some_iff.1 HY9.out).1).trans HY9.out⟩
    have HW : Hid (Below wa.heap.size wa wa.drew) := drawn_below wa
    refine wp_region_T (S := (fun V => V.heap[w.heap.size]? = some (.cells (celC xa) 35 (0, 0)) ∧ V.cell? ⟨w.heap.size, 3, none⟩ = some (.pointer (some ⟨ba, 0, none⟩)) ∧ V.rangeAt ba 10 [da0, .int .i64 (nodL a.xs : Int)] ∧ V.heap[w.heap.size + 1]? = some (.cells (celC cy) 35 (0, 0)))) [13, 14] (by kernel_rfl) (by exact HKS.out _ HW.out) (fun hHeld => ?_)
    refine tyL 0 29 (hy := yieldsIf_load_row (by rfl) 35 _ rfl w.heap.size rfl (celC xa) 35 (0, 0) _ (fun w hw => hw.1) Tryz.underlying35 rfl (by exact val_size)) (h := ?_)
    refine tkL 1 30 (h := ?_)
    (try simp only [pq])
    refine tkL 2 31 (h := ?_)
    refine tkL 3 32 (h := ?_)
    (try simp only [pq])
    refine tkL 4 33 (h := ?_)
    refine tyL 5 34 (hy := yieldsIf_arr (by rfl) 107 _ rfl ba 10 rfl #[da0, .int .i64 (nodL a.xs : Int)] _ (fun w hw => hw.2.2.1) Tryz.underlying107 rfl (by exact tally_size)) (h := ?_)
    (try simp only [pq])
    refine tyL 6 35 (hy := yieldsIf_load_row (by rfl) 35 _ rfl (w.heap.size + 1) rfl (celC cy) 35 (0, 0) _ (fun w hw => hw.2.2.2) Tryz.underlying35 rfl (by exact val_size)) (h := ?_)
    refine tkL 9 38 (h := ?_)
    (try simp only [pq])
    refine tkO 7 (some 36) (h := fun K hK => ?_)
    go_simp
    go_at_call 70
    (with_reducible refine (HTY.out _ (by exact HLW.out.trans (HW.out.mono HLW.out.size))).mono ?_)
    rintro r wA ⟨dt, rfl, hd, hb⟩
    have HDT := Lib.hid hd
    replace HW := Lib.hid (HW.out.trans (hb.mono HW.out.size))
    clear hb hd
    dsimp only
    refine hK.out _ _ (by exact HKS.out _ HW.out) (fun hHeld => ?_)
    clear hK K
    (try simp only [pq])
    refine tkO 8 (some 37) (h := fun K hK => ?_)
    go_simp
    go_at_call 69
    (with_reducible refine (HPL.out _ dt (by exact HLW.out.trans (HW.out.mono HLW.out.size)) (by exact HDT.out.weak fun _ _ => trivial)).mono ?_)
    rintro r wB ⟨dn, rfl, hd, hb⟩
    have HDN := Lib.hid hd
    have HSW := Lib.hid HW.out.size
    replace HW := Lib.hid (HW.out.trans (hb.mono HW.out.size))
    clear hb hd
    dsimp only
    refine hK.out _ _ (by exact HKS.out _ HW.out) (fun hHeld => ?_)
    clear hK K
    (try simp only [pq])
    refine tkO 10 (some 39) (h := fun K hK => ?_)
    have HWC : Hid (w1.heap.size ≤ wB.heap.size) := Nat.le_trans HLW.out.size HW.out.size
    go_simp
    go_at_call 68
    (with_reducible refine (HCH.out _ dn (by exact HW.out) (by exact HDN.out.weak fun g hg => Nat.le_trans (Nat.le_trans HLW.out.size HSW.out) hg)).mono ?_)
    rintro r wC ⟨y, rfl, hy, hb⟩
    have HYY := Lib.hid hy
    replace HW := Lib.hid (HW.out.trans (hb.mono HW.out.size))
    clear hb hy
    dsimp only
    refine hK.out _ _ (by exact HKS.out _ HW.out) (fun hHeld => ?_)
    clear hK K
    (try simp only [pq])
    refine tkL 11 40 (h := ?_)
    refine tkL 12 41 (h := ?_)
    (try simp only [pq])
    refine tkU 13 none (h := fun K hK => ?_)
    refine st_agg_wp 35 _ _ rfl (w.heap.size + 2) (celC y) rfl rfl 35 _ ((HW.out.block _ (by exact (Array.getElem?_eq_some_iff.1 HR9.out).1)).trans HR9.out) val_size rfl (celC_one y) ?_
    intro w8 h8 k8
    refine hK.out _ _ ?_
    clear hK K
    (try simp only [pq])
    refine tkU 14 (some 7) (h := fun K hK => ?_)
    go_simp
    refine hK.out _ _ ?_
    clear hK K
    (try simp only [pq])
    refine wpAnyT_done (by kernel_rfl) ?_ _
    clear hHeld
    go_wp2_with fail
    have hs1 := HS1.out
    have hl := HLW.out.size
    have hw5 := HW.out.size
    refine bodyPost_ret (results_cell_row1 rfl _ _ (w.heap.size + 2) 35 _ (0, 0) _ rfl h8 Tryz.underlying35 rfl val_size) rfl ⟨y, rfl, (HYY.out.imp (Kq.only k8 ?_) ?_), (HB1.out.trans ((HLW.out.trans (HW.out.mono HLW.out.size)).mono HB1.out.size)).trans (k8.below (by omega))⟩
    ·exact fun h => by have := HWC.out; rcases h with (h | h) | h <;> omega
    ·exact fun g h _ => by have := HWC.out; rcases h with (h | h) | h <;> first | exact .inl h.1 | exact .inr (by omega)
   ·go_simp
    have HZX : Hid ((wg.alloc (.cells #[.int .i64 0, .int .i64 0, .slice none 0 0, .slice none 0 0] 112)).heap[wg.heap.size]? = some (.cells #[.int .i64 0, .int .i64 0, .slice none 0 0, .slice none 0 0] 112 (0, 0))) := heap_alloc_last _ _
    have HGX : Hid (w1.heap.size ≤ wg.heap.size) := Nat.le_trans HLG.out.size HW.out.size
    replace HW := Lib.hid (HW.out.trans ((Below.newly' wg (.cells #[.int .i64 0, .int .i64 0, .slice none 0 0, .slice none 0 0] 112)).mono HW.out.size))
    obtain ⟨X, hX⟩ : ∃ X, X = wg.heap.size := ⟨_, rfl⟩
    obtain ⟨wx, hwx⟩ : ∃ wx, wx = wg.alloc (.cells #[.int .i64 0, .int .i64 0, .slice none 0 0, .slice none 0 0] 112) := ⟨_, rfl⟩
    rw [← hwx, ← hX] at HZX
    rw [← hX] at HGX
    rw [← hwx] at HW ⊢
    rw [← hX]
    clear hwx hX
    refine hK.out _ _ (by exact HKS.out _ HW.out) (fun hHeld => ?_)
    clear hK K
    (try simp only [pq])
    refine tkO 7 (some 22) (h := fun K hK => ?_)
    go_simp
    go_at_call 67
    (with_reducible refine (HIN.out _ (by exact HW.out)).mono ?_)
    rintro r wc ⟨c1, rfl, hr, hb⟩
    have HRN := Lib.hid hr
    have HZ2 := Lib.hid ((hb.block _ (Array.getElem?_eq_some_iff.1 HZX.out).1).trans HZX.out)
    replace HW := Lib.hid (HW.out.trans (hb.mono HW.out.size))
    clear hb hr
    dsimp only
    refine hK.out _ _ (by exact HKS.out _ HW.out) (fun hHeld => ?_)
    clear hK K
    (try simp only [pq])
    refine tkL 8 14 (h := ?_)
    refine tkP 10 24 (h := ?_)
    (try simp only [pq])
    refine tkL 9 23 (h := ?_)
    (try simp only [pq])
    have HRR := Lib.hid HRN.out.nott
    refine tkU 12 none (h := fun K hK => ?_)
    refine st_agg_wp 112 _ _ rfl X c1 rfl rfl 112 #[.int .i64 0, .int .i64 0, .slice none 0 0, .slice none 0 0] HZ2.out (by rw [RootR.size HRR.out]; exact rope_size) (by rw [RootR.size HRR.out]; rfl) (RootR.one HRR.out) ?_
    intro wa hwa kwa
    refine hK.out _ _ ?_
    clear hK K
    (try simp only [pq])
    refine tkU 13 (some 9) (h := fun K hK => ?_)
    go_simp
    refine hK.out _ _ ?_
    clear hK K
    (try simp only [pq])
    refine wpAnyT_done (by kernel_rfl) ?_ _
    have hg1 := HGX.out
    have hs1 := HS1.out
    have hlg := HLG.out.size
    have HLW : Hid (Below w1.heap.size w1 wa) := (HLG.out.trans (HW.out.mono HLG.out.size)).trans (kwa.below (by omega))
    have HRX : Hid (RootR (fun g => (S g ∧ g < w.heap.size) ∨ w1.heap.size ≤ g) wa c1 lst) := by
     have h := HRR.out.imp (Kq.only kwa (fun h => h.2 _ _ HZ2.out)) (S' := Kd) (fun g h _ => h.1)
     rw [HKD.out] at h
     exact h
    have HXX := Lib.hid hwa
    have hl1 : ∀ g, g < w1.heap.size → g ≠ X := fun g hg => by omega
    have HX9 := Lib.hid (kwa.other (((HLG.out.trans (HW.out.mono HLG.out.size)).block _ (Array.getElem?_eq_some_iff.1 HX1.out).1).trans HX1.out) (hl1 _ (by omega)))
    have HY9 := Lib.hid (kwa.other (((HLG.out.trans (HW.out.mono HLG.out.size)).block _ (Array.getElem?_eq_some_iff.1 HY1.out).1).trans HY1.out) (hl1 _ (by omega)))
    have HR9 := Lib.hid (kwa.other (((HLG.out.trans (HW.out.mono HLG.out.size)).block _ (Array.getElem?_eq_some_iff.1 HR1.out).1).trans HR1.out) (hl1 _ (by omega)))
    have HCH := Lib.hid (HCH0.out X c1 wa HLW.out (by rw [HKD.out]; exact HRX.out) HXX.out)
    have HC9 : Hid (wa.cell? ⟨w.heap.size, 3, none⟩ = some (.pointer (some ⟨ba, 0, none⟩)) ∧ wa.rangeAt ba 10 [da0, .int .i64 (nodL a.xs : Int)]) := ⟨keep_cell HC.out.1 HLW.out, keep_range HC.out.2.2.1 HLW.out⟩
    rw [HER.out]
    clear hHeld HW HKS hg1 hs1 hlg hwa kwa HZX HZ2 HRR HX1 HY1 HR1 HSK HS3' HIN HIN0 HCH0 HC HGX
    go_upto_region 6 with fail
    have HKS : Hid (∀ V, Below wa.heap.size wa V → V.heap[w.heap.size]? = some (.cells (celC xa) 35 (0, 0)) ∧ V.cell? ⟨w.heap.size, 3, none⟩ = some (.pointer (some ⟨ba, 0, none⟩)) ∧ V.rangeAt ba 10 [da0, .int .i64 (nodL a.xs : Int)] ∧ V.heap[w.heap.size + 1]? = some (.cells (celC cy) 35 (0, 0))) := fun V hV => ⟨(hV.block _ (Array.getElem?_eq_some_iff.1 HX9.out).1).trans HX9.out, keep_cell HC9.out.1 hV, keep_range HC9.out.2 hV, (hV.block _ (Array.getElem?_eq_some_iff.1 HY9.out).1).trans HY9.out⟩
    have HW : Hid (Below wa.heap.size wa wa.drew) := drawn_below wa
    refine wp_region_T (S := (fun V => V.heap[w.heap.size]? = some (.cells (celC xa) 35 (0, 0)) ∧ V.cell? ⟨w.heap.size, 3, none⟩ = some (.pointer (some ⟨ba, 0, none⟩)) ∧ V.rangeAt ba 10 [da0, .int .i64 (nodL a.xs : Int)] ∧ V.heap[w.heap.size + 1]? = some (.cells (celC cy) 35 (0, 0)))) [13, 14] (by kernel_rfl) (by exact HKS.out _ HW.out) (fun hHeld => ?_)
    refine tyL 0 29 (hy := yieldsIf_load_row (by rfl) 35 _ rfl w.heap.size rfl (celC xa) 35 (0, 0) _ (fun w hw => hw.1) Tryz.underlying35 rfl (by exact val_size)) (h := ?_)
    refine tkL 1 30 (h := ?_)
    (try simp only [pq])
    refine tkL 2 31 (h := ?_)
    refine tkL 3 32 (h := ?_)
    (try simp only [pq])
    refine tkL 4 33 (h := ?_)
    refine tyL 5 34 (hy := yieldsIf_arr (by rfl) 107 _ rfl ba 10 rfl #[da0, .int .i64 (nodL a.xs : Int)] _ (fun w hw => hw.2.2.1) Tryz.underlying107 rfl (by exact tally_size)) (h := ?_)
    (try simp only [pq])
    refine tyL 6 35 (hy := yieldsIf_load_row (by rfl) 35 _ rfl (w.heap.size + 1) rfl (celC cy) 35 (0, 0) _ (fun w hw => hw.2.2.2) Tryz.underlying35 rfl (by exact val_size)) (h := ?_)
    refine tkL 9 38 (h := ?_)
    (try simp only [pq])
    refine tkO 7 (some 36) (h := fun K hK => ?_)
    go_simp
    go_at_call 70
    (with_reducible refine (HTY.out _ (by exact HLW.out.trans (HW.out.mono HLW.out.size))).mono ?_)
    rintro r wA ⟨dt, rfl, hd, hb⟩
    have HDT := Lib.hid hd
    replace HW := Lib.hid (HW.out.trans (hb.mono HW.out.size))
    clear hb hd
    dsimp only
    refine hK.out _ _ (by exact HKS.out _ HW.out) (fun hHeld => ?_)
    clear hK K
    (try simp only [pq])
    refine tkO 8 (some 37) (h := fun K hK => ?_)
    go_simp
    go_at_call 69
    (with_reducible refine (HPL.out _ dt (by exact HLW.out.trans (HW.out.mono HLW.out.size)) (by exact HDT.out.weak fun _ _ => trivial)).mono ?_)
    rintro r wB ⟨dn, rfl, hd, hb⟩
    have HDN := Lib.hid hd
    have HSW := Lib.hid HW.out.size
    replace HW := Lib.hid (HW.out.trans (hb.mono HW.out.size))
    clear hb hd
    dsimp only
    refine hK.out _ _ (by exact HKS.out _ HW.out) (fun hHeld => ?_)
    clear hK K
    (try simp only [pq])
    refine tkO 10 (some 39) (h := fun K hK => ?_)
    have HWC : Hid (w1.heap.size ≤ wB.heap.size) := Nat.le_trans HLW.out.size HW.out.size
    go_simp
    go_at_call 68
    (with_reducible refine (HCH.out _ dn (by exact HW.out) (by exact HDN.out.weak fun g hg => Nat.le_trans (Nat.le_trans HLW.out.size HSW.out) hg)).mono ?_)
    rintro r wC ⟨y, rfl, hy, hb⟩
    have HYY := Lib.hid hy
    replace HW := Lib.hid (HW.out.trans (hb.mono HW.out.size))
    clear hb hy
    dsimp only
    refine hK.out _ _ (by exact HKS.out _ HW.out) (fun hHeld => ?_)
    clear hK K
    (try simp only [pq])
    refine tkL 11 40 (h := ?_)
    refine tkL 12 41 (h := ?_)
    (try simp only [pq])
    refine tkU 13 none (h := fun K hK => ?_)
    refine st_agg_wp 35 _ _ rfl (w.heap.size + 2) (celC y) rfl rfl 35 _ ((HW.out.block _ (by exact (Array.getElem?_eq_some_iff.1 HR9.out).1)).trans HR9.out) val_size rfl (celC_one y) ?_
    intro w8 h8 k8
    refine hK.out _ _ ?_
    clear hK K
    (try simp only [pq])
    refine tkU 14 (some 7) (h := fun K hK => ?_)
    go_simp
    refine hK.out _ _ ?_
    clear hK K
    (try simp only [pq])
    refine wpAnyT_done (by kernel_rfl) ?_ _
    clear hHeld
    go_wp2_with fail
    have hs1 := HS1.out
    have hl := HLW.out.size
    have hw5 := HW.out.size
    refine bodyPost_ret (results_cell_row1 rfl _ _ (w.heap.size + 2) 35 _ (0, 0) _ rfl h8 Tryz.underlying35 rfl val_size) rfl ⟨y, rfl, (HYY.out.imp (Kq.only k8 ?_) ?_), (HB1.out.trans ((HLW.out.trans (HW.out.mono HLW.out.size)).mono HB1.out.size)).trans (k8.below (by omega))⟩
    ·exact fun h => by have := HWC.out; rcases h with (h | h) | h <;> omega
    ·exact fun g h _ => by have := HWC.out; rcases h with (h | h) | h <;> first | exact .inl h.1 | exact .inr (by omega)
  ·have e : insT a ii yt = (nullT, 4) := by unfold insT; rw [if_neg (by omega), if_pos (by omega)]
   rw [e]
   obtain ⟨lst, hlst⟩ : ∃ lst : List Cel, lst = [] := ⟨_, rfl⟩
   obtain ⟨er, her⟩ : ∃ er : Int, er = 4 := ⟨_, rfl⟩
   have HIN1 : ∀ W, Below w1.heap.size w1 W → Calls Tryz.prog 67 #[.agg rca, .int .i64 ii, .agg (celC cy)] W fun r W' => ∃ c', r = .returned (.tuple #[.agg c', .int .i64 er]) ∧ RootR Kd W' c' lst ∧ Below W.heap.size W W' := fun W hW =>
    (rp_Insert_out W (hra'.later (hb1.trans (hW.mono hb1.size))) ii cy (by rw [hal]; exact hin)).mono fun r W' ⟨h1, h3⟩ => ⟨zeroR, by rw [her]; exact h1, by rw [hlst]; exact .inl ⟨rfl, rfl⟩, h3⟩
   have HIN0 := Lib.hid HIN1
   have HER := Lib.hid her
   clear hx1 hy1 hr1 hs1 hb1 ha hva hyb hvy h4 e hSa hla hba hra hma hda hba1 hal hle ht1 hn1 hdy hny hpa hsda cpa hza hra' hma' HIN1 hKd hin her hlst HTY
   go_enter Tryz.func34, Tryz.ntmps34
   go_upto_region 1 with fail
   clear hw1
   go_upto_region 3 with (first
    | (refine ld_if rfl 35 _ rfl w.heap.size rfl 35 _ _ _ HX1.out Tryz.underlying35 rfl val_size ?_)
    | (go_at_call 37; (with_reducible refine (HKA.out _).mono ?_); rintro r w2 ⟨rfl, hb2⟩; have HB2 := Lib.hid hb2; clear hb2))
   obtain ⟨wg, hwg⟩ : ∃ wg, wg = w2.drew := ⟨_, rfl⟩
   have HLG : Hid (Below w1.heap.size w1 wg) := by show Below _ _ _; rw [hwg]; exact HB2.out.trans ((drawn_below w2).mono HB2.out.size)
   have HIN := Lib.hid (fun W (hW : Below wg.heap.size wg W) => HIN0.out W (HLG.out.trans (hW.mono HLG.out.size)))
   have HSK : Hid (∀ A B, (A.cell? ⟨w.heap.size, 3, none⟩ = some (.pointer (some ⟨ba, 0, none⟩)) ∧ A.rangeAt ba 0 rca.toList ∧ A.heap[w.heap.size + 1]? = some (.cells (celC cy) 35 (0, 0))) → Below A.heap.size A B → (B.cell? ⟨w.heap.size, 3, none⟩ = some (.pointer (some ⟨ba, 0, none⟩)) ∧ B.rangeAt ba 0 rca.toList ∧ B.heap[w.heap.size + 1]? = some (.cells (celC cy) 35 (0, 0)))) := fun A B h hb => ⟨keep_cell h.1 hb, keep_range h.2.1 hb, (hb.block _ (Array.getElem?_eq_some_iff.1 h.2.2).1).trans h.2.2⟩
   have HKS : Hid (∀ V, Below wg.heap.size wg V → (V.cell? ⟨w.heap.size, 3, none⟩ = some (.pointer (some ⟨ba, 0, none⟩)) ∧ V.rangeAt ba 0 rca.toList ∧ V.heap[w.heap.size + 1]? = some (.cells (celC cy) 35 (0, 0)))) := fun V hV => HSK.out _ _ ⟨keep_cell HC.out.1 HLG.out, keep_range HC.out.2.1 HLG.out, (HLG.out.block _ (Array.getElem?_eq_some_iff.1 HC.out.2.2.2).1).trans HC.out.2.2.2⟩ hV
   have HW : Hid (Below wg.heap.size wg wg) := Below.refl _ _
   have HS3' : Hid (wg.cell? ⟨w.heap.size, 3, none⟩ = some (.pointer (some ⟨ba, 0, none⟩)) ∧ wg.rangeAt ba 0 rca.toList ∧ wg.heap[w.heap.size + 1]? = some (.cells (celC cy) 35 (0, 0))) := ⟨keep_cell HC.out.1 HLG.out, keep_range HC.out.2.1 HLG.out, (HLG.out.block _ (Array.getElem?_eq_some_iff.1 HC.out.2.2.2).1).trans HC.out.2.2.2⟩
   refine wp_region_T (S := (fun V => V.cell? ⟨w.heap.size, 3, none⟩ = some (.pointer (some ⟨ba, 0, none⟩)) ∧ V.rangeAt ba 0 rca.toList ∧ V.heap[w.heap.size + 1]? = some (.cells (celC cy) 35 (0, 0)))) [10, 12, 13] (by kernel_rfl) (by rw [← hwg]; exact HS3'.out) (fun hHeld => ?_)
   rw [← hwg] at hHeld ⊢
   clear hwg
   refine tkL 0 15 (h := ?_)
   refine tkL 1 16 (h := ?_)
   (try simp only [pq])
   refine tkL 2 17 (h := ?_)
   refine tkL 3 18 (h := ?_)
   (try simp only [pq])
   refine tyL 4 19 (hy := yieldsIf_arr (by rfl) 112 _ rfl ba 0 rfl rca _ (fun w hw => hw.2.1) Tryz.underlying112 rfl (by rw [HZ.out.1]; exact rope_size)) (h := ?_)
   refine tkL 5 20 (h := ?_)
   (try simp only [pq])
   refine tyL 6 21 (hy := yieldsIf_load_row (by rfl) 35 _ rfl (w.heap.size + 1) rfl (celC cy) 35 (0, 0) _ (fun w hw => hw.2.2) Tryz.underlying35 rfl (by exact val_size)) (h := ?_)
   (try simp only [pq])
   refine wpAnyT_ready (rs := [7, 11]) (by kernel_rfl) (by simp) (AllT.cons (o := ⟨some 22, _, _, _, _, _⟩) rfl (fun K hK => ?_) (AllT.cons (o := ⟨some 8, _, _, _, _, _⟩) rfl (fun K hK => ?_) AllT.nil))
   ·go_simp
    go_at_call 67
    (with_reducible refine (HIN.out _ (by exact HW.out)).mono ?_)
    rintro r wc ⟨c1, rfl, hr, hb⟩
    have HRN := Lib.hid hr
    replace HW := Lib.hid (HW.out.trans (hb.mono HW.out.size))
    clear hb hr
    dsimp only
    refine hK.out _ _ (by exact HKS.out _ HW.out) (fun hHeld => ?_)
    clear hK K
    (try simp only [pq])
    refine tkL 8 14 (h := ?_)
    refine tkP 10 24 (h := ?_)
    (try simp only [pq])
    refine tkL 9 23 (h := ?_)
    (try simp only [pq])
    refine tkO 11 (some 8) (h := fun K hK => ?_)
    go_simp
    have HZX : Hid ((wc.alloc (.cells #[.int .i64 0, .int .i64 0, .slice none 0 0, .slice none 0 0] 112)).heap[wc.heap.size]? = some (.cells #[.int .i64 0, .int .i64 0, .slice none 0 0, .slice none 0 0] 112 (0, 0))) := heap_alloc_last _ _
    have HGX : Hid (w1.heap.size ≤ wc.heap.size) := Nat.le_trans HLG.out.size HW.out.size
    replace HW := Lib.hid (HW.out.trans ((Below.newly' wc (.cells #[.int .i64 0, .int .i64 0, .slice none 0 0, .slice none 0 0] 112)).mono HW.out.size))
    obtain ⟨X, hX⟩ : ∃ X, X = wc.heap.size := ⟨_, rfl⟩
    obtain ⟨wx, hwx⟩ : ∃ wx, wx = wc.alloc (.cells #[.int .i64 0, .int .i64 0, .slice none 0 0, .slice none 0 0] 112) := ⟨_, rfl⟩
    rw [← hwx, ← hX] at HZX
    rw [← hX] at HGX
    rw [← hwx] at HW ⊢
    rw [← hX]
    have HRX1 := Lib.hid (HRN.out.later (show Below wc.heap.size wc wx by rw [hwx]; exact Below.newly' _ _))
    clear hwx hX
    refine hK.out _ _ (by exact HKS.out _ HW.out) (fun hHeld => ?_)
    clear hK K
    (try simp only [pq])
    have HZ2 := HZX
    have HRR := Lib.hid HRX1.out.nott
    have HW3 := HW
    have HWX : Hid (X < wx.heap.size) := (Array.getElem?_eq_some_iff.1 HZX.out).1
    refine tkU 12 none (h := fun K hK => ?_)
    refine st_agg_wp 112 _ _ rfl X c1 rfl rfl 112 #[.int .i64 0, .int .i64 0, .slice none 0 0, .slice none 0 0] HZ2.out (by rw [RootR.size HRR.out]; exact rope_size) (by rw [RootR.size HRR.out]; rfl) (RootR.one HRR.out) ?_
    intro wa hwa kwa
    refine hK.out _ _ ?_
    clear hK K
    (try simp only [pq])
    refine tkU 13 (some 9) (h := fun K hK => ?_)
    go_simp
    refine hK.out _ _ ?_
    clear hK K
    (try simp only [pq])
    refine wpAnyT_done (by kernel_rfl) ?_ _
    have hg1 := HGX.out
    have hs1 := HS1.out
    have hlg := HLG.out.size
    have HLW : Hid (Below w1.heap.size w1 wa) := (HLG.out.trans (HW.out.mono HLG.out.size)).trans (kwa.below (by omega))
    have HR9 := Lib.hid (kwa.other (((HLG.out.trans (HW.out.mono HLG.out.size)).block _ (Array.getElem?_eq_some_iff.1 HR1.out).1).trans HR1.out) (by omega))
    rw [HER.out]
    clear hHeld HW HKS hg1 hs1 hlg hwa kwa
    go_wp2_with (first
     | (refine st_agg rfl 35 _ _ rfl (w.heap.size + 2) #[.int .i64 0, .int .i64 0, .string ⟨#[]⟩, .pointer none] rfl rfl 35 _ HR9.out val_size rfl (by simp [Value.oneCell']) ?_; intro w5 h5 k5))
    exact bodyPost_ret (results_cell_row1 rfl _ _ (w.heap.size + 2) 35 _ (0, 0) _ rfl h5 Tryz.underlying35 rfl val_size) rfl ⟨zeroV, rfl, vAt_null _ _, (HB1.out.trans (HLW.out.mono HB1.out.size)).trans (k5.below (by omega))⟩
   ·go_simp
    have HZX : Hid ((wg.alloc (.cells #[.int .i64 0, .int .i64 0, .slice none 0 0, .slice none 0 0] 112)).heap[wg.heap.size]? = some (.cells #[.int .i64 0, .int .i64 0, .slice none 0 0, .slice none 0 0] 112 (0, 0))) := heap_alloc_last _ _
    have HGX : Hid (w1.heap.size ≤ wg.heap.size) := Nat.le_trans HLG.out.size HW.out.size
    replace HW := Lib.hid (HW.out.trans ((Below.newly' wg (.cells #[.int .i64 0, .int .i64 0, .slice none 0 0, .slice none 0 0] 112)).mono HW.out.size))
    obtain ⟨X, hX⟩ : ∃ X, X = wg.heap.size := ⟨_, rfl⟩
    obtain ⟨wx, hwx⟩ : ∃ wx, wx = wg.alloc (.cells #[.int .i64 0, .int .i64 0, .slice none 0 0, .slice none 0 0] 112) := ⟨_, rfl⟩
    rw [← hwx, ← hX] at HZX
    rw [← hX] at HGX
    rw [← hwx] at HW ⊢
    rw [← hX]
    clear hwx hX
    refine hK.out _ _ (by exact HKS.out _ HW.out) (fun hHeld => ?_)
    clear hK K
    (try simp only [pq])
    refine tkO 7 (some 22) (h := fun K hK => ?_)
    go_simp
    go_at_call 67
    (with_reducible refine (HIN.out _ (by exact HW.out)).mono ?_)
    rintro r wc ⟨c1, rfl, hr, hb⟩
    have HRN := Lib.hid hr
    have HZ2 := Lib.hid ((hb.block _ (Array.getElem?_eq_some_iff.1 HZX.out).1).trans HZX.out)
    replace HW := Lib.hid (HW.out.trans (hb.mono HW.out.size))
    clear hb hr
    dsimp only
    refine hK.out _ _ (by exact HKS.out _ HW.out) (fun hHeld => ?_)
    clear hK K
    (try simp only [pq])
    refine tkL 8 14 (h := ?_)
    refine tkP 10 24 (h := ?_)
    (try simp only [pq])
    refine tkL 9 23 (h := ?_)
    (try simp only [pq])
    have HRR := Lib.hid HRN.out.nott
    refine tkU 12 none (h := fun K hK => ?_)
    refine st_agg_wp 112 _ _ rfl X c1 rfl rfl 112 #[.int .i64 0, .int .i64 0, .slice none 0 0, .slice none 0 0] HZ2.out (by rw [RootR.size HRR.out]; exact rope_size) (by rw [RootR.size HRR.out]; rfl) (RootR.one HRR.out) ?_
    intro wa hwa kwa
    refine hK.out _ _ ?_
    clear hK K
    (try simp only [pq])
    refine tkU 13 (some 9) (h := fun K hK => ?_)
    go_simp
    refine hK.out _ _ ?_
    clear hK K
    (try simp only [pq])
    refine wpAnyT_done (by kernel_rfl) ?_ _
    have hg1 := HGX.out
    have hs1 := HS1.out
    have hlg := HLG.out.size
    have HLW : Hid (Below w1.heap.size w1 wa) := (HLG.out.trans (HW.out.mono HLG.out.size)).trans (kwa.below (by omega))
    have HR9 := Lib.hid (kwa.other (((HLG.out.trans (HW.out.mono HLG.out.size)).block _ (Array.getElem?_eq_some_iff.1 HR1.out).1).trans HR1.out) (by omega))
    rw [HER.out]
    clear hHeld HW HKS hg1 hs1 hlg hwa kwa
    go_wp2_with (first
     | (refine st_agg rfl 35 _ _ rfl (w.heap.size + 2) #[.int .i64 0, .int .i64 0, .string ⟨#[]⟩, .pointer none] rfl rfl 35 _ HR9.out val_size rfl (by simp [Value.oneCell']) ?_; intro w5 h5 k5))
    exact bodyPost_ret (results_cell_row1 rfl _ _ (w.heap.size + 2) 35 _ (0, 0) _ rfl h5 Tryz.underlying35 rfl val_size) rfl ⟨zeroV, rfl, vAt_null _ _, (HB1.out.trans (HLW.out.mono HB1.out.size)).trans (k5.below (by omega))⟩
 ·have e : insT a ii yt = (nullT, 3) := by unfold insT; rw [if_pos h4]
  rw [e]
  obtain ⟨k1, hk1⟩ : ∃ k1, k1 = a.k := ⟨_, rfl⟩
  have h4' : ¬ k1 = (4 : Int) := by rw [hk1]; exact h4
  rw [← hk1] at HKA
  clear hx1 hy1 hr1 hs1 hb1 ha hva hyb hvy h4 e hk1
  go_enter Tryz.func34, Tryz.ntmps34
  go_upto_region 1 with fail
  clear hw1
  go_wp2_with (first
   | (refine ld_if rfl 35 _ rfl w.heap.size rfl 35 _ _ _ HX1.out Tryz.underlying35 rfl val_size ?_)
   | (go_at_call 37; (with_reducible refine (HKA.out _).mono ?_); rintro r w2 ⟨rfl, hb2⟩; have HB2 := Lib.hid hb2; have HR2 := Lib.hid ((hb2.block _ (Array.getElem?_eq_some_iff.1 HR1.out).1).trans HR1.out); clear hb2)
   | (refine st_agg rfl 35 _ _ rfl (w.heap.size + 2) #[.int .i64 0, .int .i64 0, .string ⟨#[]⟩, .pointer none] rfl rfl 35 _ HR2.out val_size rfl (by simp [Value.oneCell']) ?_; intro w5 h5 k5))
  exact bodyPost_ret (results_cell_row1 rfl _ _ (w.heap.size + 2) 35 _ (0, 0) _ rfl h5 Tryz.underlying35 rfl val_size) rfl ⟨zeroV, rfl, vAt_null _ _, (HB1.out.trans (HB2.out.mono HB1.out.size)).trans (k5.below (by omega))⟩
end Go.Proofs.YtpodmgihlomglaaGreatDoor
