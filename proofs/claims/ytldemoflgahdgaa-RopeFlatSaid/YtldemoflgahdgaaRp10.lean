/- Package rope: node.slice. (written by tools/gen08/slice8.py) -/
import Derived.Test.YtldemoflgahdgaaRp9
namespace Go.Proofs.Ytldemoflgahdgaa
open Go.RowKit
set_option maxRecDepth 1000000
set_option linter.unusedSimpArgs false

/-- The piece of l from lo up to hi. -/
def pieceL (l : List Int) (lo hi : Nat) : List Int := (l.take hi).drop lo
theorem mid_one {A B C : List Int} {b e : Nat} (he : e ≤ B.length) : pieceL (A ++ B ++ C) (A.length + b) (A.length + e) = pieceL B b e := by
  unfold pieceL
  rw [List.append_assoc, List.take_append, List.take_of_length_le (by omega), Nat.add_sub_cancel_left, List.take_append_of_le_length he, List.drop_append, List.drop_of_length_le (by omega), Nat.add_sub_cancel_left, List.nil_append]
theorem mid_two {A B C D E : List Int} {b e : Nat} (hb : b ≤ B.length) (he : e ≤ D.length) : pieceL (A ++ B ++ C ++ D ++ E) (A.length + b) ((A ++ B ++ C).length + e) = pieceL B b B.length ++ C ++ pieceL D 0 e := by
  unfold pieceL
  rw [List.append_assoc (A ++ B ++ C), List.take_append, List.take_of_length_le (by omega), Nat.add_sub_cancel_left, List.take_append_of_le_length he, List.append_assoc A B C, List.append_assoc A, List.drop_append, List.drop_of_length_le (by omega), Nat.add_sub_cancel_left, List.nil_append, List.take_of_length_le (Nat.le_refl _), List.drop_zero,
    List.append_assoc, List.drop_append_of_le_length hb, List.append_assoc]
theorem piece_len {l : List Int} {lo hi : Nat} (h : hi ≤ l.length) : (pieceL l lo hi).length = hi - lo := by
  unfold pieceL
  rw [List.length_drop, List.length_take]
  omega
/-- Two kids' places. -/
theorem way_le {i j f b l e : Nat} {ks : List Kid} (h1 : WayAt i ks f b) (h2 : WayAt j ks l e) (hij : i ≤ j) (hj : j < (catK ks).length) : f ≤ l ∧ (f = l → b ≤ e) := by
  obtain ⟨hf, e1, _, _⟩ := h1
  obtain ⟨hl, e2, _, h3⟩ := h2
  have h3 := h3 hj
  have mono : ∀ a c, a ≤ c → (catK (ks.take a)).length ≤ (catK (ks.take c)).length := fun a c h => by
    have := cat_take_le (ks := ks.take c) a
    rwa [List.take_take, Nat.min_eq_left h] at this
  constructor
  · apply Nat.le_of_not_lt
    intro h
    have := mono (l + 1) f h
    have := cat_take_succ hl
    omega
  · rintro rfl
    omega
theorem way_split {ks : List Kid} {f l : Nat} (hfl : f < l) (hl : l < ks.length) : ks = ks.take f ++ [ks[f]] ++ (ks.take l).drop (f + 1) ++ [ks[l]] ++ ks.drop (l + 1) := by
  have e1 : ks.take f ++ [ks[f]] = ks.take (f + 1) := (List.take_succ_eq_append_getElem (by omega)).symm
  have e2 : (ks.take l).take (f + 1) = ks.take (f + 1) := by rw [List.take_take, Nat.min_eq_left (by omega)]
  rw [e1, ← e2, List.take_append_drop, ← List.take_succ_eq_append_getElem hl, List.take_append_drop]
theorem catK_split {ks : List Kid} {f l : Nat} (hfl : f < l) (hl : l < ks.length) :
    catK ks = catK (ks.take f) ++ ks[f].l ++ catK ((ks.take l).drop (f + 1)) ++ ks[l].l ++ catK (ks.drop (l + 1)) ∧ (catK (ks.take l)) = catK (ks.take f) ++ ks[f].l ++ catK ((ks.take l).drop (f + 1)) := by
  have e := congrArg catK (way_split hfl hl)
  rw [catK_app, catK_app, catK_app, catK_app, catK_one, catK_one] at e
  refine ⟨e, ?_⟩
  have e1 : ks.take f ++ [ks[f]] = ks.take (f + 1) := (List.take_succ_eq_append_getElem (by omega)).symm
  have e2 : (ks.take l).take (f + 1) = ks.take (f + 1) := by rw [List.take_take, Nat.min_eq_left (by omega)]
  rw [← catK_one ks[f], ← catK_app, ← catK_app, e1, ← e2, List.take_append_drop]
/-- What node.slice does at that height. -/
def SliDoes (h : Nat) : Prop := ∀ (S : Nat → Prop) (W : World) (p : Kid) (lo hi : Nat), NodeR S W h p → (h = 0 ∨ 2 ≤ p.k) → lo ≤ hi → hi ≤ p.l.length → p.l.length ≤ 50000 →
    Calls Try.prog 35 #[.agg (kidc h p).toArray, .int .i64 (lo : Int), .int .i64 (hi : Int)] W fun e W' => ∃ c, e = .returned (.agg c) ∧ RootR (fun g => S g ∨ W.heap.size ≤ g) W' c (pieceL p.l lo hi) ∧ Below W.heap.size W W'
set_option maxHeartbeats 1000000 in
/-- An empty piece of whatever node. -/
theorem sli_none (S : Nat → Prop) (W : World) (c : Array Value) (lo : Nat) :
    Calls Try.prog 35 #[.agg c, .int .i64 (lo : Int), .int .i64 (lo : Int)] W fun e W' => ∃ c', e = .returned (.agg c') ∧ RootR (fun g => S g ∨ W.heap.size ≤ g) W' c' [] ∧ Below W.heap.size W W' := by
  obtain ⟨w2, hw2⟩ : ∃ w2, (W.alloc (.cells c 33)).alloc (.cells #[.int .i64 0, .int .i64 0, .slice none 0 0, .slice none 0 0] 33) = w2 := ⟨_, rfl⟩
  obtain ⟨hb2, hx2, hy2, hs2⟩ := two_new hw2
  have HB2 := Lib.hid hb2
  have HY2 := Lib.hid hy2
  clear hb2 hx2 hy2 hs2
  go_enter Try.func35, Try.ntmps35
  go_upto_region 1 with fail
  clear hw2
  go_wp2_with (refine st_agg rfl 33 _ _ rfl (W.heap.size + 1) zeroR rfl rfl 33 _ HY2.out rnode_size rfl (one4 rfl rfl rfl rfl) ?_; intro w5 h5 k5)
  exact bodyPost_ret (results_cell_row rfl _ _ (W.heap.size + 1) 33 _ (0, 0) _ rfl h5 Try.underlying33 rfl rnode_size) rfl ⟨_, rfl, .inl ⟨rfl, rfl⟩, HB2.out.trans (k5.below (by omega))⟩
set_option maxHeartbeats 1000000 in
theorem sli_whole (h : Nat) (S : Nat → Prop) (W : World) (p : Kid) (lo hi : Nat) (hp : NodeR S W h p) (hr : h = 0 ∨ 2 ≤ p.k) (hlt : lo < hi) (hle : hi ≤ p.l.length) (hN : p.l.length ≤ 50000) (hw : hi - lo = p.l.length) :
    Calls Try.prog 35 #[.agg (kidc h p).toArray, .int .i64 (lo : Int), .int .i64 (hi : Int)] W fun e W' => ∃ c, e = .returned (.agg c) ∧ RootR (fun g => S g ∨ W.heap.size ≤ g) W' c (pieceL p.l lo hi) ∧ Below W.heap.size W W' := by
  obtain ⟨w2, hw2⟩ : ∃ w2, (W.alloc (.cells (kidc h p).toArray 33)).alloc (.cells #[.int .i64 0, .int .i64 0, .slice none 0 0, .slice none 0 0] 33) = w2 := ⟨_, rfl⟩
  obtain ⟨hb2, hx2, hy2, hs2⟩ := two_new hw2
  have HB2 := Lib.hid hb2
  have HY2 := Lib.hid hy2
  have HX2 := Lib.hid hx2
  have HS2 := Lib.hid hs2
  obtain ⟨N, hN'⟩ : ∃ N, N = p.l.length := ⟨_, rfl⟩
  have ca0 : w2.cell? ⟨W.heap.size, 0, none⟩ = some (.int .i64 (N : Int)) := by rw [hN']; exact cell_in hx2 rfl
  obtain ⟨d, hd⟩ : ∃ d, d = hi - lo := ⟨_, rfl⟩
  have hdi : (hi : Int) - (lo : Int) = (d : Int) := by omega
  have hne : ((lo : Int) == (hi : Int)) = false := beq_eq_false_iff_ne.2 (by omega)
  have hne' : ¬ ((lo : Int) = (hi : Int)) := by omega
  have hd5 : (d : Int) ≤ 50000 := by omega
  have hee : ((d : Int) == (N : Int)) = true := by rw [beq_iff_eq]; omega
  have hee' : (d : Int) = (N : Int) := by omega
  have HP := Lib.hid hp.old
  have HR := Lib.hid hr
  have HE : Hid (pieceL p.l lo hi = p.l) := by
    show _ = _
    obtain rfl : lo = 0 := by omega
    unfold pieceL
    rw [List.drop_zero, List.take_of_length_le (by omega)]
  obtain rfl : d = N := by omega
  clear hb2 hx2 hy2 hs2 hp hr hlt hle hN hw hN' hd hee'
  go_enter Try.func35, Try.ntmps35
  go_upto_region 1 with fail
  clear hw2
  go_wp2_with (first
    | (refine ld_if rfl 33 _ rfl W.heap.size rfl 33 _ _ _ HX2.out Try.underlying33 rfl rnode_size ?_)
    | (refine st_agg rfl 33 _ _ rfl (W.heap.size + 1) (kidc h p).toArray rfl rfl 33 _ HY2.out rnode_size rfl (kid_one h p) ?_; intro w5 h5 k5))
  refine bodyPost_ret (results_cell_row rfl _ _ (W.heap.size + 1) 33 _ (0, 0) _ rfl h5 Try.underlying33 rfl rnode_size) rfl ⟨_, rfl, .inr ⟨h, p, rfl, HE.out.symm, ?_, HR.out⟩, HB2.out.trans (k5.below (by omega))⟩
  exact ((HP.out.later HB2.out).kept k5.by_ (fun X e => by cases e; rintro ⟨_, h⟩; omega)).weak fun g hg => .inl hg.1
set_option maxHeartbeats 1000000 in
theorem sli_leaf (S : Nat → Prop) (W : World) (p : Kid) (lo hi : Nat) (hp : NodeR S W 0 p) (hlt : lo < hi) (hle : hi ≤ p.l.length) (hN : p.l.length ≤ 50000) (hw : ¬ hi - lo = p.l.length) :
    Calls Try.prog 35 #[.agg (kidc 0 p).toArray, .int .i64 (lo : Int), .int .i64 (hi : Int)] W fun e W' => ∃ c, e = .returned (.agg c) ∧ RootR (fun g => S g ∨ W.heap.size ≤ g) W' c (pieceL p.l lo hi) ∧ Below W.heap.size W W' := by
  obtain ⟨w2, hw2⟩ : ∃ w2, (W.alloc (.cells (kidc 0 p).toArray 33)).alloc (.cells #[.int .i64 0, .int .i64 0, .slice none 0 0, .slice none 0 0] 33) = w2 := ⟨_, rfl⟩
  obtain ⟨hb2, hx2, hy2, hs2⟩ := two_new hw2
  have HB2 := Lib.hid hb2
  have HY2 := Lib.hid hy2
  have HX2 := Lib.hid hx2
  have HS2 := Lib.hid hs2
  obtain ⟨N, hN'⟩ : ∃ N, N = p.l.length := ⟨_, rfl⟩
  have ca0 : w2.cell? ⟨W.heap.size, 0, none⟩ = some (.int .i64 (N : Int)) := by rw [hN']; exact cell_in hx2 rfl
  obtain ⟨d, hd⟩ : ∃ d, d = hi - lo := ⟨_, rfl⟩
  have hdi : (hi : Int) - (lo : Int) = (d : Int) := by omega
  have hne : ((lo : Int) == (hi : Int)) = false := beq_eq_false_iff_ne.2 (by omega)
  have hne' : ¬ ((lo : Int) = (hi : Int)) := by omega
  have hd5 : (d : Int) ≤ 50000 := by omega
  have hee : ((d : Int) == (N : Int)) = false := beq_eq_false_iff_ne.2 (by omega)
  obtain ⟨hpa, hpk, hp1, hp16, hph⟩ := hp
  obtain ⟨q, c, hpb, _⟩ := hph.shape
  have hcut := (hph.cut.later hb2).weak (S' := fun _ => True) (fun _ _ => trivial)
  rw [hpb] at hcut
  obtain ⟨a1, c1, hc1, hrun⟩ := cut_lh 31 tl_sl tl_size hcut (lo := lo) (hi := hi) (by omega) (by omega)
  rw [Nat.mul_one, Nat.mul_one, iv, ← List.map_take, ← List.map_drop] at hc1
  have ca2 : w2.cell? ⟨W.heap.size, 2, none⟩ = some (.slice none 0 0) := by rw [← hpa]; exact cell_in hx2 rfl
  have ca3 : w2.cell? ⟨W.heap.size, 3, none⟩ = some (.slice q p.k c) := by rw [← hpb]; exact cell_in hx2 rfl
  have hml : (pieceL p.l lo hi).length = hi - lo := piece_len hle
  have HL := Lib.hid (leaves_new (S := fun _ => True) w2 [(.slice a1 (hi - lo) c1, pieceL p.l lo hi)] (fun x hx => by
    rw [List.mem_singleton] at hx
    subst hx
    show CutAt _ _ _ _ _ _
    rw [hml]
    exact hc1) (pieceL p.l lo hi) (by simp [catE]) (by rw [hml]; omega) (by simp))
  simp only [List.map_cons, List.map_nil] at HL
  have HML : Hid ((pieceL p.l lo hi).length ≤ 50000) := by show _ ≤ _; omega
  have hnil := nodes_none
  clear hb2 hx2 hy2 hs2 hpa hpk hp1 hp16 hph hpb hcut hc1 hlt hle hN hw hN' hd hml
  go_enter Try.func35, Try.ntmps35
  go_upto_region 1 with fail
  clear hw2
  go_wp2_with (first
    | (go_at_call 31; refine HL.out.mono ?_; rintro e w3 ⟨v3, rfl, kn, hn3, hc3, hf3, hb3⟩; have HY3 := Lib.hid ((hb3.block _ (by have := HS2.out; omega)).trans HY2.out); have HT := Lib.hid (rp_top w3 0 v3 kn hn3 (hf3.wide (.inl rfl)) (by rw [hc3]; have := HML.out; omega)); rw [hc3] at HT; have HB3 := Lib.hid (HB2.out.trans (hb3.mono HB2.out.size)); have HB23 := Lib.hid hb3.size; clear hn3 hc3 hf3 hb3)
    | (go_at_call 30; refine HT.out.mono ?_; rintro e w4 ⟨c4, rfl, hr4, hb4⟩; have HY4 := Lib.hid ((hb4.block _ (Array.getElem?_eq_some_iff.1 HY3.out).1).trans HY3.out); have HR4 := Lib.hid hr4; have HB4 := Lib.hid (HB3.out.trans (hb4.mono HB3.out.size)); clear hr4 hb4)
    | (refine st_agg rfl 33 _ _ rfl (W.heap.size + 1) c4 rfl rfl 33 _ HY4.out (by rw [HR4.out.size]; exact rnode_size) (by rw [HR4.out.size]; rfl) HR4.out.one ?_; intro w5 h5 k5))
  have hs2 := HS2.out
  have hb23 := HB23.out
  refine bodyPost_ret (results_cell_row rfl _ _ (W.heap.size + 1) 33 _ (0, 0) _ rfl h5 Try.underlying33 rfl (by rw [HR4.out.size]; exact rnode_size)) rfl ⟨_, rfl, ?_, HB4.out.trans (k5.below (by omega))⟩
  refine (HR4.out.kept k5.by_ (fun X e => by cases e; rintro (h | h) <;> omega)).weak fun g hg => ?_
  rcases hg with hg | hg
  · exact .inr (by omega)
  · exact .inr (by omega)
end Go.Proofs.Ytldemoflgahdgaa
