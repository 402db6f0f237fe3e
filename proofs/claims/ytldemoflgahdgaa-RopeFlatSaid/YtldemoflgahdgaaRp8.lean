/- Package rope: node.set. (written by tools/gen08/set8.py) -/
import Derived.Test.YtldemoflgahdgaaRp7
import Derived.Test.YtldemoflgahdgaaRegionY
namespace Go.Proofs.Ytldemoflgahdgaa
open Go.RowKit
set_option maxRecDepth 1000000
set_option linter.unusedSimpArgs false

/-- One cell goes into a variable of many, as an operation by itself. -/
theorem st_cell_wp {o : Oper} {a : Act} {w : World} {K : Act → World → Prop} {Q : Exit → Act → World → Prop} (ty : TypeId) (x y : Operand) (ho : o.op = .store ty x y)
    (X k : Nat) (v : Value) (hx : a.eval x = .pointer (some ⟨X, k, none⟩)) (hy : a.eval y = v) (h1 : v.oneCell' = true) (T : TypeId) (c : Array Value) (hB : w.heap[X]? = some (.cells c T (0, 0)))
    (hi : (Try.prog.info? ty).map (·.size) = some 1) (hk : k < c.size)
    (h : ∀ w', w'.heap[X]? = some (.cells (c.setIfInBounds k v) T (0, 0)) → Only X w w' → K (a.put o.dst undef) w') : o.wp Try.prog a w K Q := by
  unfold Oper.wp execOp
  simp only [ho, hx, hy, Instr.storeAt, Instr.sureAddr, Sem.run_bind, Sem.run_pure, Result.andThen_ok, run_storeVar_cell w X k T ty c v hB hk hi h1]
  exact h _ (setRow_heap w X _ _ _ _ hB) (only_setRow _ _ _)
theorem nl_size : (Try.prog.info? 30).map (·.size) = some 1 := by kernel_rfl
theorem il_size : (Try.prog.info? 31).map (·.size) = some 1 := by kernel_rfl
theorem one4 {a b c d : Value} (h1 : a.oneCell' = true) (h2 : b.oneCell' = true) (h3 : c.oneCell' = true) (h4 : d.oneCell' = true) : (#[a, b, c, d] : Array Value).all (·.oneCell') = true := by simp [h1, h2, h3, h4]
theorem kid_set3 (h : Nat) (p : Kid) (v : Value) : (kidc h p).toArray.setIfInBounds 3 v = #[.int .i64 (p.l.length : Int), .int .i64 ((h + 1 : Nat) : Int), p.a, v] := by simp [kidc]
theorem kid_set2 (h : Nat) (p : Kid) (v : Value) : (kidc h p).toArray.setIfInBounds 2 v = #[.int .i64 (p.l.length : Int), .int .i64 ((h + 1 : Nat) : Int), v, p.b] := by simp [kidc]
theorem cat_set {ks : List Kid} {k r : Nat} {x : Int} (hk : k < ks.length) (y' : Kid) (hy : y'.l = ks[k].l.set r x) (hr : r < ks[k].l.length) : catK (ks.set k y') = (catK ks).set ((catK (ks.take k)).length + r) x := by
  have hk' : k < (ks.set k y').length := by rw [List.length_set]; exact hk
  rw [cat_split hk', cat_split hk, List.take_set_of_le (Nat.le_refl _), List.getElem_set_self, List.drop_set_of_lt (by omega), hy, List.append_assoc, List.append_assoc, List.set_append, if_neg (by omega), Nat.add_sub_cancel_left, List.set_append, if_pos hr]
/-- What node.set does at that height. -/
def SetDoes (h : Nat) : Prop := ∀ (S : Nat → Prop) (W : World) (p : Kid) (i : Nat) (x : Int), NodeR S W h p → i < p.l.length → p.l.length ≤ 200000 →
    Calls Try.prog 49 #[.agg (kidc h p).toArray, .int .i64 (i : Int), .int .i64 x] W fun e W' => ∃ c, e = .returned (.agg c) ∧ ∃ p' : Kid, c = (kidc h p').toArray ∧ p'.l = p.l.set i x ∧ p'.k = p.k ∧ NodeR (fun g => S g ∨ W.heap.size ≤ g) W' h p' ∧ Below W.heap.size W W'
set_option maxHeartbeats 1000000 in
theorem set_leaf : SetDoes 0 := by
  intro S W p i x hp hi hN
  obtain ⟨w2, hw2⟩ : ∃ w2, (W.alloc (.cells (kidc 0 p).toArray 33)).alloc (.cells #[.int .i64 0, .int .i64 0, .slice none 0 0, .slice none 0 0] 33) = w2 := ⟨_, rfl⟩
  obtain ⟨hb2, hx2, hy2, hs2⟩ := two_new hw2
  have HB2 := Lib.hid hb2
  have HY2 := Lib.hid hy2
  have HX2 := Lib.hid hx2
  have HS2 := Lib.hid hs2
  obtain ⟨hpa, hpk, hp1, hp16, hph⟩ := hp
  have hwi := wi_int w2 x (hph.later hb2) (by omega) (by omega) (i := i)
  obtain ⟨q, c, hpb, _⟩ := hph.shape
  have ca2 : w2.cell? ⟨W.heap.size, 2, none⟩ = some (.slice none 0 0) := by rw [← hpa]; exact cell_in hx2 rfl
  have ca3 : w2.cell? ⟨W.heap.size, 3, none⟩ = some (.slice q p.k c) := by rw [← hpb]; exact cell_in hx2 rfl
  rw [hpb] at hwi
  have HWI := Lib.hid hwi
  have HP := Lib.hid (And.intro hpa (And.intro hpk (And.intro hp1 (And.intro hp16 hi))))
  have hnil := nodes_none
  clear hb2 hx2 hy2 hs2 hpa hpk hp1 hp16 hph hpb hwi hi hN
  go_enter Try.func49, Try.ntmps49
  go_upto_region 1 with fail
  clear hw2
  go_wp2_with (first
    | (go_at_call 53; refine HWI.out.mono ?_; rintro e w3 ⟨v3, rfl, hh3, hb3⟩; obtain ⟨q3, c3, rfl, _⟩ := hh3.shape; have HH3 := Lib.hid hh3; have HX3 := Lib.hid ((hb3.block _ (by have := HS2.out; omega)).trans HX2.out); have HY3 := Lib.hid ((hb3.block _ (by have := HS2.out; omega)).trans HY2.out); have HB3 := Lib.hid hb3; clear hh3 hb3)
    | (refine st_cell rfl 31 _ _ rfl W.heap.size 3 (.slice q3 p.k c3) rfl rfl rfl 33 _ HX3.out il_size (show 3 < 4 by decide) ?_; intro w4 h4 k4; rw [kid_set3] at h4; have HX4 := Lib.hid h4; have HK4 := Lib.hid k4; have HY4 := Lib.hid (k4.other HY3.out (by omega)); clear h4 k4)
    | (refine ld_if rfl 33 _ rfl W.heap.size rfl 33 _ _ _ HX4.out Try.underlying33 rfl rnode_size ?_)
    | (refine st_agg rfl 33 _ _ rfl (W.heap.size + 1) #[.int .i64 (p.l.length : Int), .int .i64 ((0 + 1 : Nat) : Int), p.a, .slice q3 p.k c3] rfl rfl 33 _ HY4.out rnode_size rfl (one4 rfl rfl p.ha rfl) ?_; intro w5 h5 k5))
  obtain ⟨k1, k2, k3, k4, k5'⟩ := HP.out
  have hs2 := HS2.out
  refine bodyPost_ret (results_cell_row rfl _ _ (W.heap.size + 1) 33 _ (0, 0) _ rfl h5 Try.underlying33 rfl rnode_size) rfl ⟨_, rfl, ⟨.slice none 0 0, .slice q3 p.k c3, p.l.set i x, p.k, rfl, rfl⟩, ?_, rfl, rfl, ⟨rfl, by simpa using k2, k3, k4, ?_⟩, ((HB2.out.trans (HB3.out.mono HB2.out.size)).trans (HK4.out.below (Nat.le_refl _))).trans (k5.below (by omega))⟩
  · simp [kidc, k1]
  · exact (((HH3.out.kept HK4.out.by_ (fun X e => by cases e; omega)).kept k5.by_ (fun X e => by cases e; omega))).weak fun g hg => .inr (Nat.le_trans HB2.out.size hg)
set_option maxHeartbeats 400000 in
theorem set_inner (h : Nat) (ih : SetDoes h) : SetDoes (h + 1) := by
  intro S W p i x hp hi hN
  obtain ⟨w2, hw2⟩ : ∃ w2, (W.alloc (.cells (kidc (h + 1) p).toArray 33)).alloc (.cells #[.int .i64 0, .int .i64 0, .slice none 0 0, .slice none 0 0] 33) = w2 := ⟨_, rfl⟩
  obtain ⟨hb2, hx2, hy2, hs2⟩ := two_new hw2
  have HB2 := Lib.hid hb2
  have HY2 := Lib.hid hy2
  have HX2 := Lib.hid hx2
  have HS2 := Lib.hid hs2
  obtain ⟨hpb, hk1, hk16, ks, hh, hkl, hl, hks⟩ := hp
  obtain ⟨n, hn⟩ : ∃ n, n = p.k := ⟨_, rfl⟩
  rw [← hn] at hk1 hk16 hh hkl
  have HWAY := Lib.hid (rp_way w2 h n i p ks (hh.later hb2) hkl hk1 hk16 (by rw [← hl]; omega) (by rw [← hl]; omega))
  have HHO := Lib.hid (hh.old.later hb2)
  obtain ⟨g, c, cur, fr, hpa, hcap, hS, hg, hcs⟩ := hh.pos hk1
  rw [hpa] at HHO
  have ca2 : w2.cell? ⟨W.heap.size, 2, none⟩ = some (.slice (some ⟨g, 0, none⟩) n c) := by rw [← hpa]; exact cell_in hx2 rfl
  have HRG : Hid (∀ k (hk : k < ks.length), w2.rangeAt g (k * 4) (kidc h ks[k])) := fun k hk => range_later (en_range (h := h) hg hcs hk) hb2
  have HP := Lib.hid (And.intro hpb (And.intro hk1 (And.intro hk16 (And.intro hkl (And.intro hl hi)))))
  have HKS := Lib.hid hks
  have HNN := Lib.hid hn
  have HN16 : Hid (n ≤ 4096) := by show _ ≤ _; omega
  have HPA := Lib.hid hpa
  have HLN := Lib.hid hN
  have hnil := fun w => nodes_some ⟨g, 0, none⟩ n c w
  have hn16 : (n : Int) ≤ 16 := by omega
  clear hb2 hx2 hy2 hs2 hpb hk1 hk16 hh hkl hl hks hn hpa hcap hS hg hcs hi hN
  go_enter Try.func49, Try.ntmps49
  go_upto_region 1 with fail
  clear hw2
  go_upto_region 5 with (first
    | (refine ld_if rfl 33 _ rfl W.heap.size rfl 33 _ _ _ HX2.out Try.underlying33 rfl rnode_size ?_)
    | (go_at_call 29; refine HWAY.out.mono ?_; rintro e w3 ⟨k, r, rfl, hwy, hb3⟩; have HWYY := Lib.hid hwy; have HBB3 := Lib.hid hb3; clear hwy hb3))
  obtain ⟨hkk, hir, hr1, hr2⟩ := HWYY.out
  have hpp := HP.out
  have hrl := hr2 (by rw [← hpp.2.2.2.2.1]; exact hpp.2.2.2.2.2)
  have hb3 : Below w2.heap.size w2 w3.drew := HBB3.out.trans ((drawn_below w3).mono HBB3.out.size)
  have HK3 : Hid (w3.drew.cell? ⟨W.heap.size, 2, none⟩ = some (.slice (some ⟨g, 0, none⟩) n c) ∧ w3.drew.rangeAt g (k * 4) (kidc h ks[k])) :=
    ⟨(hb3.cell (p := ⟨W.heap.size, 2, none⟩) (World.block_lt_of_cell? _ _ ca2)).trans ca2, range_later (HRG.out k hkk) hb3⟩
  have HX3 := Lib.hid ((hb3.block _ (by have := HS2.out; omega)).trans HX2.out)
  have HY3 := Lib.hid ((hb3.block _ (by have := HS2.out; omega)).trans HY2.out)
  have HB3 := Lib.hid (HB2.out.trans (hb3.mono HB2.out.size))
  have HH3 := Lib.hid (HHO.out.later hb3)
  have hyl : ks[k].l.length ≤ p.l.length := by
    have h1 := congrArg List.length (cat_split hkk)
    rw [List.length_append, List.length_append, ← hpp.2.2.2.2.1] at h1
    omega
  have HREC := Lib.hid (ih (fun g => S g ∧ g < W.heap.size) w3.drew ks[k] r x ((HKS.out _ (List.getElem_mem hkk)).2.old.later HB3.out) hrl (by have := HLN.out; omega))
  have HCS := Lib.hid (fun (y' : Kid) (hy : y'.l = ks[k].l.set r x) => cat_set hkk y' hy hrl)
  have HYK := Lib.hid (HKS.out _ (List.getElem_mem hkk)).1
  obtain ⟨y, hy⟩ : ∃ y, y = ks[k] := ⟨_, rfl⟩
  rw [← hy] at HK3 HREC HCS HYK
  have HIR := Lib.hid hir
  have HWY : Hid (k < n) := by show _ < _; have := hpp.2.2.2.1; omega
  have hkn : (k : Int) < (n : Int) := by have := HWY.out; omega
  have hkn' : k < n := HWY.out
  clear hkk hir hr1 hr2 hpp hrl hb3 hyl hy ca2
  refine wp_region_T (S := fun V => V.cell? ⟨W.heap.size, 2, none⟩ = some (.slice (some ⟨g, 0, none⟩) n c) ∧ V.rangeAt g (k * 4) (kidc h y)) [13] (by kernel_rfl) (by first | exact HK3.out | exact HK4.out | exact HK5.out) (fun hHeld => ?_)
  refine wpAnyT_take (i := 0) (oi := ⟨some 24, _, _, _, _, _⟩) (v := ?vg1_0) rfl (by kernel_rfl) (by kernel_rfl) (by kernel_rfl) (by kernel_rfl) (fun _ _ _ h => h) (Or.inl ⟨by rfl, ?hg1_0⟩) (by assumption) ?rg1_0
  case hg1_0 => (intro w hSw; (try dsimp only at hSw); first | (go_simp; done) | (go_simp; with_reducible rfl))
  (try simp only [Act.put, List.setIfInBounds_toArray, List.set_cons_zero, List.set_cons_succ])
  refine wpAnyT_take (i := 1) (oi := ⟨some 25, _, _, _, _, _⟩) (v := ?vg1_1) rfl (by kernel_rfl) (by kernel_rfl) (by kernel_rfl) (by kernel_rfl) (fun _ _ _ h => h) (Or.inl ⟨by rfl, ?hg1_1⟩) (by assumption) ?rg1_1
  case hg1_1 => (intro w hSw; (try dsimp only at hSw); first | (go_simp; done) | (go_simp; with_reducible rfl))
  (try simp only [Act.put, List.setIfInBounds_toArray, List.set_cons_zero, List.set_cons_succ])
  refine wpAnyT_take (i := 2) (oi := ⟨some 26, _, _, _, _, _⟩) (v := ?vg1_2) rfl (by kernel_rfl) (by kernel_rfl) (by kernel_rfl) (by kernel_rfl) (fun _ _ _ h => h) (Or.inl ⟨by rfl, ?hg1_2⟩) (by assumption) ?rg1_2
  case hg1_2 => (intro w hSw; (try dsimp only at hSw); first | (go_simp; done) | (go_simp; with_reducible rfl))
  (try simp only [Act.put, List.setIfInBounds_toArray, List.set_cons_zero, List.set_cons_succ])
  refine wpAnyT_take (i := 3) (oi := ⟨some 27, _, _, _, _, _⟩) (v := ?vg1_3) rfl (by kernel_rfl) (by kernel_rfl) (by kernel_rfl) (by kernel_rfl) (fun _ _ _ h => h) (Or.inl ⟨by rfl, ?hg1_3⟩) (by assumption) ?rg1_3
  case hg1_3 => (intro w hSw; (try dsimp only at hSw); first | (go_simp; done) | (go_simp; with_reducible rfl))
  (try simp only [Act.put, List.setIfInBounds_toArray, List.set_cons_zero, List.set_cons_succ])
  refine wpAnyT_take (i := 4) (oi := ⟨some 28, _, _, _, _, _⟩) (v := ?vg1_4) rfl (by kernel_rfl) (by kernel_rfl) (by kernel_rfl) (by kernel_rfl) (fun _ _ _ h => h) (Or.inl ⟨by rfl, ?hg1_4⟩) (by assumption) ?rg1_4
  case hg1_4 => (intro w hSw; (try dsimp only at hSw); first | (go_simp; done) | (go_simp; with_reducible rfl))
  (try simp only [Act.put, List.setIfInBounds_toArray, List.set_cons_zero, List.set_cons_succ])
  refine wpAnyT_take (i := 5) (oi := ⟨some 29, _, _, _, _, _⟩) (v := ?vg1_5) rfl (by kernel_rfl) (by kernel_rfl) (by kernel_rfl) (by kernel_rfl) (fun _ _ _ h => h) (Or.inl ⟨by rfl, ?hg1_5⟩) (by assumption) ?rg1_5
  case hg1_5 => (intro w hSw; (try dsimp only at hSw); first | (go_simp; done) | (go_simp; with_reducible rfl))
  (try simp only [Act.put, List.setIfInBounds_toArray, List.set_cons_zero, List.set_cons_succ])
  refine wpAnyT_take (i := 6) (oi := ⟨some 30, _, _, _, _, _⟩) (v := ?vg1_6) rfl (by kernel_rfl) (by kernel_rfl) (by kernel_rfl) (by kernel_rfl) (fun _ _ _ h => h) (Or.inl ⟨by rfl, ?hg1_6⟩) (by assumption) ?rg1_6
  case hg1_6 => (intro w hSw; (try dsimp only at hSw); first | (go_simp; done) | (go_simp; with_reducible rfl))
  (try simp only [Act.put, List.setIfInBounds_toArray, List.set_cons_zero, List.set_cons_succ])
  refine wpAnyT_take (i := 7) (oi := ⟨some 31, _, _, _, _, _⟩) (v := _) rfl (by kernel_rfl) (by kernel_rfl) (by kernel_rfl) (by kernel_rfl) (fun _ _ _ h => h) (yieldsIf_load_mid (by rfl) 33 _ rfl g (k * 4) rfl (kidc h y) _ (fun w hw => hw.2) Try.underlying33 rfl rnode_size) (by assumption) ?_
  (try simp only [Act.put, List.setIfInBounds_toArray, List.set_cons_zero, List.set_cons_succ])
  refine wpAnyT_take (i := 8) (oi := ⟨some 32, _, _, _, _, _⟩) (v := ?vg1_8) rfl (by kernel_rfl) (by kernel_rfl) (by kernel_rfl) (by kernel_rfl) (fun _ _ _ h => h) (Or.inl ⟨by rfl, ?hg1_8⟩) (by assumption) ?rg1_8
  case hg1_8 => (intro w hSw; (try dsimp only at hSw); first | (go_simp; done) | (go_simp; with_reducible rfl))
  (try simp only [Act.put, List.setIfInBounds_toArray, List.set_cons_zero, List.set_cons_succ])
  refine wpAnyT_take (i := 9) (oi := ⟨some 33, _, _, _, _, _⟩) (v := ?vg1_9) rfl (by kernel_rfl) (by kernel_rfl) (by kernel_rfl) (by kernel_rfl) (fun _ _ _ h => h) (Or.inl ⟨by rfl, ?hg1_9⟩) (by assumption) ?rg1_9
  case hg1_9 => (intro w hSw; (try dsimp only at hSw); first | (go_simp; done) | (go_simp; with_reducible rfl))
  (try simp only [Act.put, List.setIfInBounds_toArray, List.set_cons_zero, List.set_cons_succ])
  refine wpAnyT_one (i := 10) (o := ⟨some 34, _, _, _, _, _⟩) (by kernel_rfl) rfl (fun K hK => ?_)
  go_simp
  go_at_call 49
  refine HREC.out.mono ?_
  rintro e w4 ⟨c4, rfl, y4, hc4, hl4, hk4, hn4, hb4⟩
  have HK4 := Lib.hid (show _ ∧ _ from ⟨((hb4).cell (p := ⟨W.heap.size, 2, none⟩) (World.block_lt_of_cell? _ _ HK3.out.1)).trans HK3.out.1, range_later HK3.out.2 hb4⟩)
  have HX4 := Lib.hid (((hb4).block _ (Array.getElem?_eq_some_iff.1 HX3.out).1).trans HX3.out)
  have HY4 := Lib.hid (((hb4).block _ (Array.getElem?_eq_some_iff.1 HY3.out).1).trans HY3.out)
  have HB4 := Lib.hid (HB3.out.trans (hb4.mono HB3.out.size))
  have HC4 := Lib.hid hc4
  have HL4 := Lib.hid (And.intro hl4 hk4)
  have HN4 := Lib.hid hn4
  have HBB4 := Lib.hid hb4
  have HWI := Lib.hid (wi_node (kidc_len h) (kidc_one h) w4 y4 (HH3.out.later hb4) HWY.out HN16.out c4 (by rw [hc4]))
  clear hb4 hc4 hl4 hk4 hn4
  (try dsimp only)
  refine hK.out _ _ (by first | exact HK3.out | exact HK4.out | exact HK5.out) (fun hHeld => ?_)
  clear hK K
  (try simp only [Act.put, List.setIfInBounds_toArray, List.set_cons_zero, List.set_cons_succ])
  refine wpAnyT_one (i := 11) (o := ⟨some 35, _, _, _, _, _⟩) (by kernel_rfl) rfl (fun K hK => ?_)
  go_simp
  go_at_call 54
  refine HWI.out.mono ?_
  rintro e w5 ⟨v5, rfl, hh5, hb5⟩
  obtain ⟨q5, c5, rfl, _⟩ := hh5.shape
  have HK5 := Lib.hid (show _ ∧ _ from ⟨((hb5).cell (p := ⟨W.heap.size, 2, none⟩) (World.block_lt_of_cell? _ _ HK4.out.1)).trans HK4.out.1, range_later HK4.out.2 hb5⟩)
  have HX5 := Lib.hid (((hb5).block _ (Array.getElem?_eq_some_iff.1 HX4.out).1).trans HX4.out)
  have HY5 := Lib.hid (((hb5).block _ (Array.getElem?_eq_some_iff.1 HY4.out).1).trans HY4.out)
  have HB5 := Lib.hid (HB4.out.trans (hb5.mono HB4.out.size))
  have HH5 := Lib.hid hh5
  have HBB5 := Lib.hid hb5
  clear hb5 hh5
  (try dsimp only)
  refine hK.out _ _ (by first | exact HK3.out | exact HK4.out | exact HK5.out) (fun hHeld => ?_)
  clear hK K
  (try simp only [Act.put, List.setIfInBounds_toArray, List.set_cons_zero, List.set_cons_succ])
  refine wpAnyT_take (i := 12) (oi := ⟨some 36, _, _, _, _, _⟩) (v := ?vg1_12) rfl (by kernel_rfl) (by kernel_rfl) (by kernel_rfl) (by kernel_rfl) (fun _ _ _ h => h) (Or.inl ⟨by rfl, ?hg1_12⟩) (by assumption) ?rg1_12
  case hg1_12 => (intro w hSw; (try dsimp only at hSw); first | (go_simp; done) | (go_simp; with_reducible rfl))
  (try simp only [Act.put, List.setIfInBounds_toArray, List.set_cons_zero, List.set_cons_succ])
  refine wpAnyT_last (i := 13) (o := ⟨none, _, _, _, _, _⟩) (by kernel_rfl) (by decide) rfl (fun K hK => ?_)
  refine st_cell_wp 30 _ _ rfl W.heap.size 2 (.slice q5 n c5) rfl rfl rfl 33 _ HX5.out nl_size (show 2 < 4 by decide) ?_
  intro w6 h6 k6
  refine hK.out _ _ ?_
  clear hK K
  (try simp only [Act.put, List.setIfInBounds_toArray, List.set_cons_zero, List.set_cons_succ])
  refine wpAnyT_done (by kernel_rfl) ?_ _
  rw [kid_set2] at h6
  have HX6 := Lib.hid h6
  have HY6 := Lib.hid (k6.other HY5.out (by omega))
  have HK6 := Lib.hid k6
  clear h6 k6
  go_wp2_with (first
    | (refine ld_if rfl 33 _ rfl W.heap.size rfl 33 _ _ _ HX6.out Try.underlying33 rfl rnode_size ?_)
    | (refine st_agg rfl 33 _ _ rfl (W.heap.size + 1) #[.int .i64 (p.l.length : Int), .int .i64 ((h + 1 + 1 : Nat) : Int), .slice q5 n c5, p.b] rfl rfl 33 _ HY6.out rnode_size rfl (one4 rfl rfl rfl p.hb) ?_; intro w7 h7 k7))
  obtain ⟨k1, k2, k3, k4, k5', k6'⟩ := HP.out
  have hs2 := HS2.out
  have hwb : w2.heap.size ≤ w3.heap.size := HBB3.out.size
  have hw4 : w3.heap.size ≤ w4.heap.size := HBB4.out.size
  have hnn := HNN.out
  refine bodyPost_ret (results_cell_row rfl _ _ (W.heap.size + 1) 33 _ (0, 0) _ rfl h7 Try.underlying33 rfl rnode_size) rfl ⟨_, rfl, ⟨.slice q5 n c5, .slice none 0 0, p.l.set i x, n, rfl, rfl⟩, ?_, rfl, hnn, ⟨rfl, k2, k3, ks.set k y4, ?_, ?_, ?_, fun q hq => ?_⟩, (HB5.out.trans (HK6.out.below (Nat.le_refl _))).trans (k7.below (by omega))⟩
  · simp [kidc, k1]
  · exact (((HH5.out.kept HK6.out.by_ (fun X e => by cases e; omega)).kept k7.by_ (fun X e => by cases e; omega))).weak fun g hg => .inr (by omega)
  · rw [List.length_set]; exact k4
  · rw [HCS.out y4 HL4.out.1, ← k5', ← HIR.out]
  · have hm := List.mem_or_eq_of_mem_set hq
    rcases hm with hm | rfl
    · refine ⟨(HKS.out q hm).1, ?_⟩
      exact ((((HKS.out q hm).2.old.later HB5.out).kept HK6.out.by_ (fun X e => by cases e; rintro ⟨_, h⟩; omega)).kept k7.by_ (fun X e => by cases e; rintro ⟨_, h⟩; omega)).weak fun g hg => .inl hg.1
    · refine ⟨by rw [HL4.out.2]; exact HYK.out, ?_⟩
      refine (((HN4.out.later HBB5.out).kept HK6.out.by_ (fun X e => by cases e; rintro (⟨_, h⟩ | h); omega; have h' : w3.heap.size ≤ W.heap.size := h; omega)).kept k7.by_ (fun X e => by cases e; rintro (⟨_, h⟩ | h); omega; have h' : w3.heap.size ≤ W.heap.size + 1 := h; omega)).weak fun g hg => ?_
      rcases hg with hg | hg
      · exact .inl hg.1
      · have h' : w3.heap.size ≤ g := hg
        exact .inr (by omega)
theorem rp_set : ∀ h, SetDoes h
  | 0 => set_leaf
  | h + 1 => set_inner h (rp_set h)
end Go.Proofs.Ytldemoflgahdgaa
