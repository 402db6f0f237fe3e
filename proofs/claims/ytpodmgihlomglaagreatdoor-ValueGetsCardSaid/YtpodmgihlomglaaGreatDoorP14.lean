import Derived.Test.YtpodmgihlomglaaGreatDoorP13
namespace Go.Proofs.YtpodmgihlomglaaGreatDoor
open Go.RowKit
set_option maxRecDepth 1000000
set_option linter.unusedSimpArgs false
theorem all_ofG {α : Type} {R : Rg α} {i : Nat} (hi : i < 32) {x : α} (h : R i = some x) : (i, x) ∈ allG R := List.mem_of_getElem? (all_atG R hi h)
theorem all_oneG {α : Type} {R : Rg α} {i : Nat} (hi : i < 32) {x : α} (h : R i = some x) (ho : ∀ j, j < 32 → j ≠ i → R j = none) : allG R = [(i, x)] := by
 unfold allG
 rw [range_at hi, List.filterMap_append, List.filterMap_append]
 have e1 : (List.range i).filterMap (fun j => (R j).map fun x => (j, x)) = [] := by
  rw [List.filterMap_eq_nil_iff]
  intro j hj
  rw [List.mem_range] at hj
  rw [ho j (by omega) (by omega)]
  rfl
 have e2 : ((List.range (31 - i)).map (i + 1 + ·)).filterMap (fun j => (R j).map fun x => (j, x)) = [] := by
  rw [List.filterMap_eq_nil_iff]
  intro j hj
  rw [List.mem_map] at hj
  obtain ⟨a, ha, rfl⟩ := hj
  rw [List.mem_range] at ha
  rw [ho _ (by omega) (by omega)]
  rfl
 rw [e1, e2]
 simp [h]
section
variable {hs : ByteArray → Nat} {S : Nat → Prop} {w : World} {f : Nat} {L : List Ent} {R : Rg Pl} {lv : Nat}
theorem row_one {e : Ent} (h : ∀ i, i < 32 → PlAt hs S w (NodeAt hs S f w) (chE hs lv i [e]) (R i)) : ∃ b, EntAt hs S w b e ∧ allG R = [(chunkN (hs e.1) lv, (some b, none))] := by
 have hi := chunkN_lt (hs e.1) lv
 have h1 := h _ hi
 rw [show chE hs lv (chunkN (hs e.1) lv) [e] = [e] by simp [chE]] at h1
 obtain ⟨b, h2, h3⟩ := h1
 refine ⟨b, h3, all_oneG hi h2 fun j hj hne => ?_⟩
 have h4 := h j hj
 rw [show chE hs lv j [e] = [] by simp [chE, Ne.symm hne]] at h4
 exact h4
theorem row_more {a b : Ent} {M : List Ent} (hL : L = a :: b :: M) (h : ∀ i, i < 32 → PlAt hs S w (NodeAt hs S f w) (chE hs lv i L) (R i)) (h1 : cntG R 32 = 1) : (firstG R).2.1.1 = none := by
 have hl : (allG R).length = 1 := by rw [all_lenG, h1]
 obtain ⟨p, hp⟩ := List.length_eq_one_iff.1 hl
 have hm := all_memG (R := R) (p := p) (by rw [hp]; exact List.mem_singleton.2 rfl)
 have huniq : ∀ j, j < 32 → (R j).isSome = true → j = p.1 := fun j hj hs => by
  obtain ⟨x, hx⟩ := Option.isSome_iff_exists.1 hs
  have := all_ofG hj hx
  rw [hp, List.mem_singleton] at this
  rw [← this]
 have hall : chE hs lv p.1 L = L := by
  unfold chE
  rw [List.filter_eq_self]
  intro e he
  have hj := chunkN_lt (hs e.1) lv
  have hpl := h _ hj
  have hne : e ∈ chE hs lv (chunkN (hs e.1) lv) L := mem_ch.2 ⟨he, rfl⟩
  have hsome : (R (chunkN (hs e.1) lv)).isSome = true := by
   generalize chE hs lv (chunkN (hs e.1) lv) L = K at hpl hne
   match K, hpl, hne with
   | [], _, hne => cases hne
   | [x], hpl, _ => obtain ⟨b, h2, _⟩ := hpl; rw [h2]; rfl
   | x :: y :: r, hpl, _ => obtain ⟨b, c, fr, h2, _⟩ := hpl; rw [h2]; rfl
  rw [decide_eq_true_eq]
  exact huniq _ hj hsome
 have h2 := h p.1 hm.1
 rw [hall, hL] at h2
 obtain ⟨g, c, fr, h3, _⟩ := h2
 rw [hm.2] at h3
 unfold firstG
 rw [hp]
 simp only
 rw [Option.some.inj h3]
end
def PlaceOk (hs : ByteArray → Nat) (f : Nat) : Prop := ∀ (S : Nat → Prop) (w : World) (L : List Ent) (c : Array Value), NodeAt hs S f w L c → L ≠ [] → Tab6 w →
  Calls Tryz.prog 164 #[.agg c] w fun r w' => ∃ p, r = .returned (.agg (plc p)) ∧ PlAt hs (fun g => S g ∨ w.heap.size ≤ g) w' (NodeAt hs (fun g => S g ∨ w.heap.size ≤ g) f w') L (some p) ∧ Below w.heap.size w w'
theorem place_more {hs : ByteArray → Nat} {S : Nat → Prop} {w w' : World} {f : Nat} {a b : Ent} {M : List Ent} {c : Array Value} {fr : Nat × Nat} (h : NodeAt hs S f w (a :: b :: M) c) (hb : Below w.heap.size w w') (hx : w'.heap[w.heap.size]? = some (.cells c 119 fr)) :
  PlAt hs (fun g => S g ∨ w.heap.size ≤ g) w' (NodeAt hs (fun g => S g ∨ w.heap.size ≤ g) f w') (a :: b :: M) (some (none, some w.heap.size)) :=
 ⟨_, c, fr, rfl, .inr (Nat.le_refl _), hx, (h.later hb).weak fun _ h => .inl h⟩
set_option maxHeartbeats 4000000 in
theorem hm_place_0 (hs : ByteArray → Nat) : PlaceOk hs 0 := by
 intro S w L c h hne hT
 have hh := h
 obtain ⟨v, qs, rfl, h2, hq, h4⟩ := h
 obtain ⟨hl, h2⟩ := h2
 rcases h2 with ⟨h0, _⟩ | ⟨h0, g, cp, cur, rfl, hcp, hS, hgg, hc⟩
 ·exact absurd (List.eq_nil_of_length_eq_zero h0) hne
 ·match L, hne, hh, hq, h0 with
  | [e], _, hh, hq, _ =>
   obtain ⟨q, rfl⟩ : ∃ q, qs = [q] := List.length_eq_one_iff.1 (by have := congrArg List.length hq; simpa using this.symm)
   obtain rfl : e = q.2 := by simpa using hq
   have HE := Lib.hid (h4 q (List.mem_singleton.2 rfl))
   have hcell : w.cell? ⟨g, 0, none⟩ = some (pv (some q.1)) := cell_in hgg (hc 0 _ rfl)
   rw [show [q.2].length = 1 from rfl]
   obtain ⟨w1, hw1⟩ : ∃ w1, (w.alloc (.cells #[.int .u32 0, .slice none 0 0, .slice (some ⟨g, 0, none⟩) 1 cp] 119)).alloc (.cells #[.pointer none, .pointer none] 190) = w1 := ⟨_, rfl⟩
   obtain ⟨hb1, hx1, hy1, hs1⟩ := two_newG hw1
   have HX1 := Lib.hid hx1
   have HY1 := Lib.hid hy1
   have HB1 := Lib.hid hb1
   have HS1 := Lib.hid hs1
   have ca2 : w1.cell? ⟨w.heap.size, 2, none⟩ = some (.slice (some ⟨g, 0, none⟩) 1 cp) := cell_in hx1 rfl
   have hc1 : w1.cell? ⟨g, 0, none⟩ = some (.pointer (some ⟨q.1, 0, none⟩)) := (hb1.cell (p := ⟨g, 0, none⟩) (Array.getElem?_eq_some_iff.1 hgg).1).trans hcell
   clear hh hq hx1 hy1 hb1 hs1 h4 hl hc hgg hcell
   go_enter Tryz.func164, Tryz.ntmps164
   go_upto_region 1 with fail
   clear hw1
   go_wp2_with (first
    | (refine st_agg rfl 190 _ _ rfl (w.heap.size + 1) (plc (some q.1, none)) rfl rfl 190 _ HY1.out pl_size rfl (plc_one (some q.1, none)) ?_; intro w4 h4 k4))
   exact bodyPost_ret (results_cell_row rfl _ _ (w.heap.size + 1) 190 _ (0, 0) _ rfl h4 Tryz.underlying190 rfl pl_size) rfl ⟨(some q.1, none), rfl, ⟨q.1, rfl, (HE.out.later (HB1.out.trans (k4.below (by omega)))).weak fun _ h => .inl h⟩, HB1.out.trans (k4.below (by omega))⟩
  | a :: b :: M, _, hh, _, _ =>
   obtain ⟨N, hN⟩ : ∃ N, N = (a :: b :: M).length := ⟨_, rfl⟩
   have hN1 : ((N : Int) == 1) = false := beq_eq_false_iff_ne.2 (by rw [hN, List.length_cons, List.length_cons]; omega)
   have HH := Lib.hid hh
   rw [← hN] at HH ⊢
   obtain ⟨w1, hw1⟩ : ∃ w1, (w.alloc (.cells #[.int .u32 0, .slice none 0 0, .slice (some ⟨g, 0, none⟩) N cp] 119)).alloc (.cells #[.pointer none, .pointer none] 190) = w1 := ⟨_, rfl⟩
   obtain ⟨hb1, hx1, hy1, hs1⟩ := two_newG hw1
   have HX1 := Lib.hid hx1
   have HY1 := Lib.hid hy1
   have HB1 := Lib.hid hb1
   have HS1 := Lib.hid hs1
   have ca2 : w1.cell? ⟨w.heap.size, 2, none⟩ = some (.slice (some ⟨g, 0, none⟩) N cp) := cell_in hx1 rfl
   have HF := Lib.hid (fun W (hb : Below w.heap.size w W) => pr_First W noG _ (AtR.zero (fun _ => True) W) (hT.below hb))
   have hf0 : firstG (noG : Rg Pl) = (0, (none, none), false) := rfl
   rw [hf0] at HF
   have HLN := Lib.hid (fun W => pr_Len W noG _ (AtR.zero (fun _ => True) W))
   rw [cnt_noG] at HLN
   clear hh hx1 hy1 hb1 hs1 h4 hl hc hgg hq hN hcp h0 hf0
   go_enter Tryz.func164, Tryz.ntmps164
   go_upto_region 1 with fail
   clear hw1
   go_wp2_with (first
    | (refine wpList_load_mid rfl 116 _ rfl w.heap.size 0 rfl [.int .u32 0, .slice none 0 0] _ (row_range HX1.out) Tryz.underlying116 rfl row_size ?_)
    | (refine wpList_load_mid rfl 116 _ rfl w.heap.size 0 rfl [.int .u32 0, .slice none 0 0] _ (row_range HX4.out) Tryz.underlying116 rfl row_size ?_)
    | (go_at_call 196; refine (HF.out _ HB1.out).mono ?_; rintro r w2 ⟨rfl, hb⟩; have HX2 := Lib.hid ((hb.block _ (by have := HS1.out; omega)).trans HX1.out); have HY2 := Lib.hid ((hb.block _ (by have := HS1.out; omega)).trans HY1.out); have HB2 := Lib.hid (tW HB1.out hb); have HS2 : Hid (w.heap.size + 2 ≤ w2.heap.size) := (by show _ ≤ _; have := hb.size; have := HS1.out; omega); clear hb)
    | (refine st_agg rfl 190 _ _ rfl w2.heap.size (plc (none, none)) rfl rfl 190 (plc (none, none)) (heap_alloc_last w2 _) pl_size rfl (plc_one _) ?_; intro w3 h3 k3; have HP3 := Lib.hid h3; have hbb : Below w2.heap.size w2 w3 := (Below.newly' w2 _).trans (k3.below (Nat.le_refl _)); have HX3 := Lib.hid ((hbb.block _ (by have := HS2.out; omega)).trans HX2.out); have HY3 := Lib.hid ((hbb.block _ (by have := HS2.out; omega)).trans HY2.out); have HB3 := Lib.hid (tW HB2.out hbb); have HS3 : Hid (w2.heap.size < w3.heap.size) := (Array.getElem?_eq_some_iff.1 h3).1; have HX4 := HX3; obtain ⟨X, hX⟩ : ∃ X, X = w2.heap.size := ⟨_, rfl⟩; rw [← hX] at HP3 HS3 ⊢; have HXX : Hid (w.heap.size + 2 ≤ X) := (by show _ ≤ _; have := HS2.out; omega); clear h3 k3 hbb hX)
    | (go_at_call 197; refine (HLN.out _).mono ?_; rintro r w5 ⟨rfl, hb⟩; have HP5 := Lib.hid ((hb.block _ HS3.out).trans HP3.out); have HX5 := Lib.hid ((hb.block _ (by have := HS3.out; have := HXX.out; omega)).trans HX3.out); have HY5 := Lib.hid ((hb.block _ (by have := HS3.out; have := HXX.out; omega)).trans HY3.out); have HB5 := Lib.hid (tW HB3.out hb); have cp5 : w5.cell? ⟨X, 0, none⟩ = some (.pointer none) := cell_in HP5.out rfl; clear hb)
    | (refine ld_if (by rfl) 190 _ rfl X rfl 190 _ _ _ HP5.out Tryz.underlying190 rfl pl_size ?_)
    | (refine st_agg rfl 190 _ _ rfl (w.heap.size + 1) (plc (none, some w.heap.size)) rfl rfl 190 _ HY5.out pl_size rfl (plc_one (none, some w.heap.size)) ?_; intro w6 h6 k6))
   exact bodyPost_ret (results_cell_row rfl _ _ (w.heap.size + 1) 190 _ (0, 0) _ rfl h6 Tryz.underlying190 rfl pl_size) rfl ⟨(none, some w.heap.size), rfl, place_more HH.out (HB5.out.trans (k6.below (by omega))) (k6.other HX5.out (by omega)), HB5.out.trans (k6.below (by omega))⟩
set_option maxHeartbeats 4000000 in
theorem hm_place_s (hs : ByteArray → Nat) (f : Nat) : PlaceOk hs (f + 1) := by
 intro S w L c h hne hT
 have hh := h
 obtain ⟨b0, v0, R, rfl, hrow, hpl⟩ := h.row
 obtain ⟨bb, rfl⟩ : ∃ bb : Nat, b0 = .int .u32 (bb : Int) := by obtain ⟨v', e, _⟩ := hrow; simp only [Array.mk.injEq, List.cons.injEq] at e; exact ⟨_, e.1⟩
 obtain ⟨va, vn, vc, rfl⟩ : ∃ a n c, v0 = .slice a n c := by obtain ⟨a, n, e⟩ := hrow.shape; simp only [Array.mk.injEq, List.cons.injEq] at e; exact ⟨_, _, _, e.2.1⟩
 have HF := Lib.hid (fun W (hb : Below w.heap.size w W) => pr_First W R _ (hrow.later hb) (hT.below hb))
 have HLN := Lib.hid (fun W (hb : Below w.heap.size w W) => pr_Len W R _ (hrow.later hb))
 obtain ⟨w1, hw1⟩ : ∃ w1, (w.alloc (.cells #[.int .u32 (bb : Int), .slice va vn vc, .slice none 0 0] 119)).alloc (.cells #[.pointer none, .pointer none] 190) = w1 := ⟨_, rfl⟩
 obtain ⟨hb1, hx1, hy1, hs1⟩ := two_newG hw1
 have HX1 := Lib.hid hx1
 have HY1 := Lib.hid hy1
 have HB1 := Lib.hid hb1
 have HS1 := Lib.hid hs1
 have ca2 : w1.cell? ⟨w.heap.size, 2, none⟩ = some (.slice none 0 0) := cell_in hx1 rfl
 match L, hne, hh, hpl with
 | [e], _, hh, hpl =>
  obtain ⟨b, he, hall⟩ := row_one hpl
  have hf0 : firstG R = ((chunkN (hs e.1) ((12 - f : Nat) : Int) : Int), (some b, none), true) := by unfold firstG; rw [hall]
  have hc0 : cntG R 32 = 1 := by rw [← all_lenG, hall]; rfl
  rw [hf0] at HF
  rw [hc0] at HLN
  have HE := Lib.hid he
  clear hh hpl hx1 hy1 hb1 hs1 hrow hall hf0 hc0 he h
  go_enter Tryz.func164, Tryz.ntmps164
  go_upto_region 1 with fail
  clear hw1
  go_wp2_with (first
   | (refine wpList_load_mid rfl 116 _ rfl w.heap.size 0 rfl [.int .u32 (bb : Int), .slice va vn vc] _ (row_range HX1.out) Tryz.underlying116 rfl row_size ?_)
   | (refine wpList_load_mid rfl 116 _ rfl w.heap.size 0 rfl [.int .u32 (bb : Int), .slice va vn vc] _ (row_range HX4.out) Tryz.underlying116 rfl row_size ?_)
   | (go_at_call 196; refine (HF.out _ HB1.out).mono ?_; rintro r w2 ⟨rfl, hb⟩; have HX2 := Lib.hid ((hb.block _ (by have := HS1.out; omega)).trans HX1.out); have HY2 := Lib.hid ((hb.block _ (by have := HS1.out; omega)).trans HY1.out); have HB2 := Lib.hid (tW HB1.out hb); have HS2 : Hid (w.heap.size + 2 ≤ w2.heap.size) := (by show _ ≤ _; have := hb.size; have := HS1.out; omega); clear hb)
   | (refine st_agg rfl 190 _ _ rfl w2.heap.size (plc (some b, none)) rfl rfl 190 (plc (none, none)) (heap_alloc_last w2 _) pl_size rfl (plc_one _) ?_; intro w3 h3 k3; have HP3 := Lib.hid h3; have hbb : Below w2.heap.size w2 w3 := (Below.newly' w2 _).trans (k3.below (Nat.le_refl _)); have HX3 := Lib.hid ((hbb.block _ (by have := HS2.out; omega)).trans HX2.out); have HY3 := Lib.hid ((hbb.block _ (by have := HS2.out; omega)).trans HY2.out); have HB3 := Lib.hid (tW HB2.out hbb); have HS3 : Hid (w2.heap.size < w3.heap.size) := (Array.getElem?_eq_some_iff.1 h3).1; have HX4 := HX3; obtain ⟨X, hX⟩ : ∃ X, X = w2.heap.size := ⟨_, rfl⟩; rw [← hX] at HP3 HS3 ⊢; have HXX : Hid (w.heap.size + 2 ≤ X) := (by show _ ≤ _; have := HS2.out; omega); clear h3 k3 hbb hX)
   | (go_at_call 197; refine (HLN.out _ (HB3.out)).mono ?_; rintro r w5 ⟨rfl, hb⟩; have HP5 := Lib.hid ((hb.block _ HS3.out).trans HP3.out); have HX5 := Lib.hid ((hb.block _ (by have := HS3.out; have := HXX.out; omega)).trans HX3.out); have HY5 := Lib.hid ((hb.block _ (by have := HS3.out; have := HXX.out; omega)).trans HY3.out); have HB5 := Lib.hid (tW HB3.out hb); have cp5 : w5.cell? ⟨X, 0, none⟩ = some (.pointer (some ⟨b, 0, none⟩)) := cell_in HP5.out rfl; clear hb)
   | (refine ld_if (by rfl) 190 _ rfl X rfl 190 _ _ _ HP5.out Tryz.underlying190 rfl pl_size ?_)
   | (refine st_agg rfl 190 _ _ rfl (w.heap.size + 1) (plc (some b, none)) rfl rfl 190 _ HY5.out pl_size rfl (plc_one (some b, none)) ?_; intro w6 h6 k6))
  exact bodyPost_ret (results_cell_row rfl _ _ (w.heap.size + 1) 190 _ (0, 0) _ rfl h6 Tryz.underlying190 rfl pl_size) rfl ⟨(some b, none), rfl, ⟨b, rfl, (HE.out.later (HB5.out.trans (k6.below (by omega)))).weak fun _ h => .inl h⟩, HB5.out.trans (k6.below (by omega))⟩
 | x :: y :: M, _, hh, hpl =>
  have hmore := row_more rfl hpl
  have HH := Lib.hid hh
  obtain ⟨⟨fi, ⟨fo, fm⟩, fb⟩, hf0⟩ : ∃ z, z = firstG R := ⟨_, rfl⟩
  rw [← hf0] at HF hmore
  simp only at HF hmore
  obtain ⟨n, hn⟩ : ∃ n, n = cntG R 32 := ⟨_, rfl⟩
  rw [← hn] at HLN hmore
  clear hh hpl hx1 hy1 hb1 hs1 hrow hf0 hn h
  by_cases h1 : n = 1
  ·obtain rfl := hmore h1
   subst h1
   clear hmore
   go_enter Tryz.func164, Tryz.ntmps164
   go_upto_region 1 with fail
   clear hw1
   go_wp2_with (first
    | (refine wpList_load_mid rfl 116 _ rfl w.heap.size 0 rfl [.int .u32 (bb : Int), .slice va vn vc] _ (row_range HX1.out) Tryz.underlying116 rfl row_size ?_)
    | (refine wpList_load_mid rfl 116 _ rfl w.heap.size 0 rfl [.int .u32 (bb : Int), .slice va vn vc] _ (row_range HX4.out) Tryz.underlying116 rfl row_size ?_)
    | (go_at_call 196; refine (HF.out _ HB1.out).mono ?_; rintro r w2 ⟨rfl, hb⟩; have HX2 := Lib.hid ((hb.block _ (by have := HS1.out; omega)).trans HX1.out); have HY2 := Lib.hid ((hb.block _ (by have := HS1.out; omega)).trans HY1.out); have HB2 := Lib.hid (tW HB1.out hb); have HS2 : Hid (w.heap.size + 2 ≤ w2.heap.size) := (by show _ ≤ _; have := hb.size; have := HS1.out; omega); clear hb)
    | (refine st_agg rfl 190 _ _ rfl w2.heap.size (plc (none, fm)) rfl rfl 190 (plc (none, none)) (heap_alloc_last w2 _) pl_size rfl (plc_one _) ?_; intro w3 h3 k3; have HP3 := Lib.hid h3; have hbb : Below w2.heap.size w2 w3 := (Below.newly' w2 _).trans (k3.below (Nat.le_refl _)); have HX3 := Lib.hid ((hbb.block _ (by have := HS2.out; omega)).trans HX2.out); have HY3 := Lib.hid ((hbb.block _ (by have := HS2.out; omega)).trans HY2.out); have HB3 := Lib.hid (tW HB2.out hbb); have HS3 : Hid (w2.heap.size < w3.heap.size) := (Array.getElem?_eq_some_iff.1 h3).1; have HX4 := HX3; obtain ⟨X, hX⟩ : ∃ X, X = w2.heap.size := ⟨_, rfl⟩; rw [← hX] at HP3 HS3 ⊢; have HXX : Hid (w.heap.size + 2 ≤ X) := (by show _ ≤ _; have := HS2.out; omega); clear h3 k3 hbb hX)
    | (go_at_call 197; refine (HLN.out _ (HB3.out)).mono ?_; rintro r w5 ⟨rfl, hb⟩; have HP5 := Lib.hid ((hb.block _ HS3.out).trans HP3.out); have HX5 := Lib.hid ((hb.block _ (by have := HS3.out; have := HXX.out; omega)).trans HX3.out); have HY5 := Lib.hid ((hb.block _ (by have := HS3.out; have := HXX.out; omega)).trans HY3.out); have HB5 := Lib.hid (tW HB3.out hb); have cp5 : w5.cell? ⟨X, 0, none⟩ = some (.pointer none) := cell_in HP5.out rfl; clear hb)
    | (refine ld_if (by rfl) 190 _ rfl X rfl 190 _ _ _ HP5.out Tryz.underlying190 rfl pl_size ?_)
    | (refine st_agg rfl 190 _ _ rfl (w.heap.size + 1) (plc (none, some w.heap.size)) rfl rfl 190 _ HY5.out pl_size rfl (plc_one (none, some w.heap.size)) ?_; intro w6 h6 k6))
   exact bodyPost_ret (results_cell_row rfl _ _ (w.heap.size + 1) 190 _ (0, 0) _ rfl h6 Tryz.underlying190 rfl pl_size) rfl ⟨(none, some w.heap.size), rfl, place_more HH.out (HB5.out.trans (k6.below (by omega))) (k6.other HX5.out (by omega)), HB5.out.trans (k6.below (by omega))⟩
  ·have hn1 : ((n : Int) == 1) = false := beq_eq_false_iff_ne.2 (by omega)
   clear hmore h1
   go_enter Tryz.func164, Tryz.ntmps164
   go_upto_region 1 with fail
   clear hw1
   go_wp2_with (first
    | (refine wpList_load_mid rfl 116 _ rfl w.heap.size 0 rfl [.int .u32 (bb : Int), .slice va vn vc] _ (row_range HX1.out) Tryz.underlying116 rfl row_size ?_)
    | (refine wpList_load_mid rfl 116 _ rfl w.heap.size 0 rfl [.int .u32 (bb : Int), .slice va vn vc] _ (row_range HX4.out) Tryz.underlying116 rfl row_size ?_)
    | (go_at_call 196; refine (HF.out _ HB1.out).mono ?_; rintro r w2 ⟨rfl, hb⟩; have HX2 := Lib.hid ((hb.block _ (by have := HS1.out; omega)).trans HX1.out); have HY2 := Lib.hid ((hb.block _ (by have := HS1.out; omega)).trans HY1.out); have HB2 := Lib.hid (tW HB1.out hb); have HS2 : Hid (w.heap.size + 2 ≤ w2.heap.size) := (by show _ ≤ _; have := hb.size; have := HS1.out; omega); clear hb)
    | (refine st_agg rfl 190 _ _ rfl w2.heap.size (plc (fo, fm)) rfl rfl 190 (plc (none, none)) (heap_alloc_last w2 _) pl_size rfl (plc_one _) ?_; intro w3 h3 k3; have HP3 := Lib.hid h3; have hbb : Below w2.heap.size w2 w3 := (Below.newly' w2 _).trans (k3.below (Nat.le_refl _)); have HX3 := Lib.hid ((hbb.block _ (by have := HS2.out; omega)).trans HX2.out); have HY3 := Lib.hid ((hbb.block _ (by have := HS2.out; omega)).trans HY2.out); have HB3 := Lib.hid (tW HB2.out hbb); have HS3 : Hid (w2.heap.size < w3.heap.size) := (Array.getElem?_eq_some_iff.1 h3).1; have HX4 := HX3; obtain ⟨X, hX⟩ : ∃ X, X = w2.heap.size := ⟨_, rfl⟩; rw [← hX] at HP3 HS3 ⊢; have HXX : Hid (w.heap.size + 2 ≤ X) := (by show _ ≤ _; have := HS2.out; omega); clear h3 k3 hbb hX)
    | (go_at_call 197; refine (HLN.out _ (HB3.out)).mono ?_; rintro r w5 ⟨rfl, hb⟩; have HP5 := Lib.hid ((hb.block _ HS3.out).trans HP3.out); have HX5 := Lib.hid ((hb.block _ (by have := HS3.out; have := HXX.out; omega)).trans HX3.out); have HY5 := Lib.hid ((hb.block _ (by have := HS3.out; have := HXX.out; omega)).trans HY3.out); have HB5 := Lib.hid (tW HB3.out hb); have cp5 : w5.cell? ⟨X, 0, none⟩ = some (pv fo) := cell_in HP5.out rfl; clear hb)
    | (refine ld_if (by rfl) 190 _ rfl X rfl 190 _ _ _ HP5.out Tryz.underlying190 rfl pl_size ?_)
    | (refine st_agg rfl 190 _ _ rfl (w.heap.size + 1) (plc (none, some w.heap.size)) rfl rfl 190 _ HY5.out pl_size rfl (plc_one (none, some w.heap.size)) ?_; intro w6 h6 k6))
   exact bodyPost_ret (results_cell_row rfl _ _ (w.heap.size + 1) 190 _ (0, 0) _ rfl h6 Tryz.underlying190 rfl pl_size) rfl ⟨(none, some w.heap.size), rfl, place_more HH.out (HB5.out.trans (k6.below (by omega))) (k6.other HX5.out (by omega)), HB5.out.trans (k6.below (by omega))⟩
theorem hm_place (hs : ByteArray → Nat) : ∀ f, PlaceOk hs f
 | 0 => hm_place_0 hs
 | f + 1 => hm_place_s hs f
end Go.Proofs.YtpodmgihlomglaaGreatDoor
namespace Go.Proofs.YtpodmgihlomglaaGreatDoor
open Go.RowKit
set_option maxRecDepth 1000000
set_option linter.unusedSimpArgs false
theorem ins_nil (k : ByteArray) (x : Cel) : insE [] k x = [(k, x)] := rfl
theorem ins_same1 (e : Ent) (x : Cel) : insE [e] e.1 x = [(e.1, x)] := by
 simp [insE, belE, abvE, lt_irrefl_l]
theorem ins_long {a b : Ent} {M : List Ent} (k : ByteArray) (x : Cel) (h : Rise (a :: b :: M)) : ∃ c d N, insE (a :: b :: M) k x = c :: d :: N := by
 have hl := len_ins h k x
 have h2 : 2 ≤ (insE (a :: b :: M) k x).length := by
  rw [hl]
  split <;> simp
 match insE (a :: b :: M) k x, h2 with
 | [], h => simp at h
 | [_], h => simp at h
 | c :: d :: N, _ => exact ⟨c, d, N, rfl⟩
theorem ins_ne (L : List Ent) (k : ByteArray) (x : Cel) : insE L k x ≠ [] := by
 unfold insE
 simp
set_option maxHeartbeats 4000000 in
theorem hm_pwith (hs : ByteArray → Nat) (f : Nat) (hW : WithOk hs f) : PWithOk hs f := by
 intro S w L p b k x h hL hn he hT
 obtain ⟨lv, hlv⟩ : ∃ lv : Nat, lv = 13 - f := ⟨_, rfl⟩
 unfold WithOk at hW
 simp only [← hlv] at hW ⊢
 have HWI := Lib.hid hW
 have HPLC := Lib.hid (hm_place hs f)
 obtain ⟨pp, hpp⟩ : ∃ pp, pp = p.getD (none, none) := ⟨_, rfl⟩
 rw [← hpp]
 obtain ⟨w1, hw1⟩ : ∃ w1, (w.alloc (.cells (plc pp) 190)).alloc (.cells #[.pointer none, .pointer none] 190) = w1 := ⟨_, rfl⟩
 obtain ⟨hb1, hx1, hy1, hs1⟩ := two_newG hw1
 have HX1 := Lib.hid hx1
 have HY1 := Lib.hid hy1
 have HB1 := Lib.hid hb1
 have HS1 := Lib.hid hs1
 have HE := Lib.hid he
 have HTT := Lib.hid hT
 clear hlv hW
 rcases L with _ | ⟨e, _ | ⟨e2, M⟩⟩
 ·have hp : p = none := h
  rw [hp] at hpp
  obtain rfl : pp = (none, none) := hpp
  clear hp
  have ca0 : w1.cell? ⟨w.heap.size, 0, none⟩ = some (.pointer none) := cell_in hx1 rfl
  have ca1 : w1.cell? ⟨w.heap.size, 1, none⟩ = some (.pointer none) := cell_in hx1 rfl
  clear hL hn he hx1 hy1 hb1 hs1 hT h
  unfold pv
  go_enter Tryz.func150, Tryz.ntmps150
  go_upto_region 3 with fail
  clear hw1
  go_quiet (fail)
  obtain ⟨w2, hw2⟩ : ∃ w2, w2 = w1.drewN nq := ⟨_, rfl⟩
  have HY2 : Hid (w2.heap[w.heap.size + 1]? = some (.cells #[.pointer none, .pointer none] 190 (0, 0))) := by show _ = _; rw [hw2]; exact HY1.out
  have HB2 : Hid (Below w.heap.size w w2) := by show Below _ _ _; rw [hw2]; exact Below.drewMany HB1.out _
  rw [← hw2]
  clear hw2 ca0 ca1
  go_wp2_with (refine st_agg rfl 190 _ _ rfl (w.heap.size + 1) (plc (some b, none)) rfl rfl 190 _ HY2.out pl_size rfl (plc_one (some b, none)) ?_; intro w6 h6 k6)
  exact bodyPost_ret (results_cell_row rfl _ _ (w.heap.size + 1) 190 _ (0, 0) _ rfl h6 Tryz.underlying190 rfl pl_size) rfl ⟨(some b, none), rfl, ⟨b, rfl, (HE.out.later (HB2.out.trans (k6.below (by omega)))).weak fun _ h => .inl h⟩, HB2.out.trans (k6.below (by omega))⟩
 ·obtain ⟨b', hp, he'⟩ := h
  rw [hp] at hpp
  obtain rfl : pp = (some b', none) := hpp
  clear hp
  have ca0 : w1.cell? ⟨w.heap.size, 0, none⟩ = some (.pointer (some ⟨b', 0, none⟩)) := cell_in hx1 rfl
  have ca1 : w1.cell? ⟨w.heap.size, 1, none⟩ = some (.pointer none) := cell_in hx1 rfl
  have ck : w1.cell? ⟨b, 0, none⟩ = some (.string k) := by
   obtain ⟨_, fr, h⟩ := he.later hb1
   exact cell_in h rfl
  have ck' : w1.cell? ⟨b', 0, none⟩ = some (.string e.1) := by
   obtain ⟨_, fr, h⟩ := he'.later hb1
   exact cell_in h rfl
  have HE' := Lib.hid he'
  have HHN := Lib.hid (And.intro hL hn)
  clear he he' hx1 hy1 hb1 hs1 hT hL hn
  by_cases hk : e.1 = k
  ·have hkk : (e.1.toList == k.toList) = true := by rw [hk]; simp
   have HKK := Lib.hid hk
   clear hk
   unfold pv
   go_enter Tryz.func150, Tryz.ntmps150
   go_upto_region 3 with fail
   clear hw1
   go_quiet (fail)
   obtain ⟨w2, hw2⟩ : ∃ w2, w2 = w1.drewN nq := ⟨_, rfl⟩
   have HY2 : Hid (w2.heap[w.heap.size + 1]? = some (.cells #[.pointer none, .pointer none] 190 (0, 0))) := by show _ = _; rw [hw2]; exact HY1.out
   have HB2 : Hid (Below w.heap.size w w2) := by show Below _ _ _; rw [hw2]; exact Below.drewMany HB1.out _
   rw [← hw2]
   clear hw2 ca0 ca1 ck ck'
   go_wp2_with (refine st_agg rfl 190 _ _ rfl (w.heap.size + 1) (plc (some b, none)) rfl rfl 190 _ HY2.out pl_size rfl (plc_one (some b, none)) ?_; intro w6 h6 k6)
   refine bodyPost_ret (results_cell_row rfl _ _ (w.heap.size + 1) 190 _ (0, 0) _ rfl h6 Tryz.underlying190 rfl pl_size) rfl ⟨(some b, none), rfl, ?_, HB2.out.trans (k6.below (by omega))⟩
   have hkk := HKK.out
   subst hkk
   rw [ins_same1]
   exact ⟨b, rfl, (HE.out.later (HB2.out.trans (k6.below (by omega)))).weak fun _ h => .inl h⟩
  ·have hkk : (e.1.toList == k.toList) = false := beq_eq_false_iff_ne.2 fun h => hk (kb_inj (by rw [ByteArray.toList_eq, ByteArray.toList_eq] at h; exact h))
   have HKK := Lib.hid hk
   clear hk
   unfold pv
   go_enter Tryz.func150, Tryz.ntmps150
   go_upto_region 3 with fail
   clear hw1
   go_quiet (fail)
   obtain ⟨w2, hw2⟩ : ∃ w2, w2 = w1.drewN nq := ⟨_, rfl⟩
   have HY2 : Hid (w2.heap[w.heap.size + 1]? = some (.cells #[.pointer none, .pointer none] 190 (0, 0))) := by show _ = _; rw [hw2]; exact HY1.out
   have HB2 : Hid (Below w.heap.size w w2) := by show Below _ _ _; rw [hw2]; exact Below.drewMany HB1.out _
   have hsz2 : Hid (w.heap.size + 2 ≤ w2.heap.size) := by show _ ≤ _; rw [hw2]; exact Nat.le_of_eq HS1.out.symm
   have cb0 : w2.cell? ⟨w.heap.size, 0, none⟩ = some (.pointer (some ⟨b', 0, none⟩)) := by rw [hw2]; exact ca0
   rw [← hw2]
   have HA := Lib.hid (HWI.out (fun g => S g ∧ g < w.heap.size) w2 [] zeroN b' e.1 e.2 (NodeAt.zero _ _ _ _) Rise.nil (by simp) (HE'.out.old.later HB2.out) (HTT.out.below HB2.out))
   unfold zeroN pv at HA
   clear hw2 ca0 ca1 ck ck'
   go_wp2_with (first
    | (go_at_call 128; (with_reducible refine HA.out.mono ?_); rintro r w3 ⟨c3, rfl, hn3, hb3⟩; have HB3 := Lib.hid (tW HB2.out hb3); have HC := Lib.hid (HWI.out _ w3 _ c3 b k x hn3 (Rise.nil.ins _ _) (by rw [ins_nil]; simp) ((HE.out.old.later HB3.out).weak (S' := fun g => (S g ∧ g < w.heap.size) ∨ w2.heap.size ≤ g) (fun _ h => .inl h)) (HTT.out.below HB3.out)); unfold pv at HC; have HY3 := Lib.hid ((hb3.block _ (by have := hsz2.out; omega)).trans HY2.out); have HL3 := Lib.hid hb3.size; clear hn3 hb3)
    | (go_at_call 128; (with_reducible refine HC.out.mono ?_); rintro r w4 ⟨c4, rfl, hn4, hb4⟩; have HB4 := Lib.hid (tW HB3.out hb4); have HD := Lib.hid (HPLC.out _ w4 _ c4 hn4 (ins_ne _ _ _) (HTT.out.below HB4.out)); have HY4 := Lib.hid ((hb4.block _ (by have := hsz2.out; have := HL3.out; omega)).trans HY3.out); have HL4 := Lib.hid hb4.size; clear hn4 hb4)
    | (go_at_call 164; (with_reducible refine HD.out.mono ?_); rintro r w5 ⟨p5, rfl, hp5, hb5⟩; have HP5 := Lib.hid hp5; have HB5 := Lib.hid (tW HB4.out hb5); have HY5 := Lib.hid ((hb5.block _ (by have := hsz2.out; have := HL3.out; have := HL4.out; omega)).trans HY4.out); clear hp5 hb5)
    | (refine st_agg rfl 190 _ _ rfl (w.heap.size + 1) (plc p5) rfl rfl 190 _ HY5.out pl_size rfl (plc_one p5) ?_; intro w6 h6 k6))
   refine bodyPost_ret (results_cell_row rfl _ _ (w.heap.size + 1) 190 _ (0, 0) _ rfl h6 Tryz.underlying190 rfl pl_size) rfl ⟨p5, rfl, ?_, HB5.out.trans (k6.below (by omega))⟩
   have h2 := hsz2.out
   have h3 := HL3.out
   have h4 := HL4.out
   exact (HP5.out.kp (Kp.only k6 (by omega))).weak fun g hg => by
    rcases hg with ((hg | hg) | hg) | hg
    ·exact .inl hg.1
    ·exact .inr (by omega)
    ·exact .inr (by omega)
    ·exact .inr (by omega)
 ·obtain ⟨g, c, fr, hp, hg, hgw, hnd⟩ := h
  rw [hp] at hpp
  obtain rfl : pp = (none, some g) := hpp
  clear hp
  have hgl : g < w.heap.size := (Array.getElem?_eq_some_iff.1 hgw).1
  have ca1 : w1.cell? ⟨w.heap.size, 1, none⟩ = some (.pointer (some ⟨g, 0, none⟩)) := cell_in hx1 rfl
  have hgw1 : w1.heap[g]? = some (.cells c 119 fr) := (hb1.block _ hgl).trans hgw
  obtain ⟨d1, d2, M2, hdd⟩ := ins_long k x hL
  have HSZ := Lib.hid hnd.size
  have HA := Lib.hid (HWI.out (fun g => S g ∧ g < w.heap.size) w1 _ c b k x (hnd.old.later hb1) hL hn (he.old.later hb1) (hT.below hb1))
  unfold pv at HA
  have HG := Lib.hid hgw1
  have HDD := Lib.hid hdd
  clear hnd hgw hgw1 he hx1 hy1 hb1 hs1 hT hL hn hg hdd
  unfold pv
  go_enter Tryz.func150, Tryz.ntmps150
  go_upto_region 3 with (first
   | (refine ld_if (by rfl) 119 _ rfl g rfl 119 _ _ _ HG.out Tryz.underlying119 rfl (by rw [HSZ.out]; exact nd_size) ?_)
   | (go_at_call 128; (with_reducible refine HA.out.mono ?_); rintro r w4 ⟨c4, rfl, hn4, hb4⟩; have HB4 := Lib.hid (tW HB1.out hb4); have HD := Lib.hid (HPLC.out _ w4 _ c4 hn4 (by rw [HDD.out]; simp) (HTT.out.below HB4.out)); have HY4 := Lib.hid ((hb4.block _ (by have := HS1.out; omega)).trans HY1.out); have HL4 := Lib.hid hb4.size; clear hn4 hb4)
   | (go_at_call 164; (with_reducible refine HD.out.mono ?_); rintro r w5 ⟨p5, rfl, hp5, hb5⟩; have HP5 := Lib.hid hp5; have HB5 := Lib.hid (tW HB4.out hb5); have HY5 := Lib.hid ((hb5.block _ (by have := HS1.out; have := HL4.out; omega)).trans HY4.out); clear hp5 hb5)
   | (refine st_agg rfl 190 _ _ rfl (w.heap.size + 1) (plc p5) rfl rfl 190 _ HY5.out pl_size rfl (plc_one p5) ?_; intro w6 h6 k6))
  refine bodyPost_ret (results_cell_row rfl _ _ (w.heap.size + 1) 190 _ (0, 0) _ rfl h6 Tryz.underlying190 rfl pl_size) rfl ⟨p5, rfl, ?_, HB5.out.trans (k6.below (by omega))⟩
  have h2 := HS1.out
  have h4 := HL4.out
  exact (HP5.out.kp (Kp.only k6 (by omega))).weak fun g hg => by
   rcases hg with (hg | hg) | hg
   ·exact .inl hg.1
   ·exact .inr (by omega)
   ·exact .inr (by omega)
theorem AtR.weak {S S' : Nat → Prop} {W : World} {R : Rg Pl} {c : Array Value} (h : AtR S W R c) (hS : ∀ g, S g → S' g) : AtR S' W R c := by
 obtain ⟨v, rfl, h2⟩ := h
 exact ⟨v, rfl, h2.weak hS⟩
theorem AtR.parts {S : Nat → Prop} {W : World} {R : Rg Pl} {c : Array Value} (h : AtR S W R c) : ∃ (b : Nat) (a : Option Addr) (n m : Nat), c = #[.int .u32 (b : Int), .slice a n m] := by
 obtain ⟨a, n, e⟩ := h.shape
 exact ⟨_, _, _, _, e⟩
set_option maxHeartbeats 4000000 in
theorem hm_with_s (hs : ByteArray → Nat) (hlt : ∀ k, hs k < 18446744073709551616) (f : Nat) (hf : f ≤ 12) (ih : PWithOk hs f) : WithOk hs (f + 1) := by
 intro S w L c b k x h hL hn he hT
 obtain ⟨lv, hlv⟩ : ∃ lv : Nat, lv = 12 - f := ⟨_, rfl⟩
 have e13 : (13 - (f + 1) : Nat) = lv := by omega
 have e14 : (13 - f : Nat) = lv + 1 := by omega
 rw [e13]
 obtain ⟨b0, v, R, rfl, hrow, hpl⟩ := h.row
 obtain ⟨i, hi⟩ : ∃ i, i = chunkN (hs k) (lv : Int) := ⟨_, rfl⟩
 have hi32 : i < 32 := by rw [hi]; exact chunkN_lt _ _
 have HCH := Lib.hid (fun W => mix_Chunk (hs k) (lv : Int) (hlt k) W)
 rw [← hi] at HCH
 have HGET := Lib.hid (fun W (hb : Below w.heap.size w W) => pr_Get W R #[b0, v] i hi32 (hrow.later hb))
 obtain ⟨bb, rfl⟩ : ∃ bb : Nat, b0 = .int .u32 (bb : Int) := by obtain ⟨v', e, _⟩ := hrow; simp only [Array.mk.injEq, List.cons.injEq] at e; exact ⟨_, e.1⟩
 obtain ⟨va, vn, vc, rfl⟩ : ∃ a n c, v = .slice a n c := by obtain ⟨a, n, e⟩ := hrow.shape; simp only [Array.mk.injEq, List.cons.injEq] at e; exact ⟨_, _, _, e.2.1⟩
 obtain ⟨w1, hw1⟩ : ∃ w1, (w.alloc (.cells #[.int .u32 (bb : Int), .slice va vn vc, .slice none 0 0] 119)).alloc (.cells #[.int .u32 0, .slice none 0 0, .slice none 0 0] 119) = w1 := ⟨_, rfl⟩
 obtain ⟨hb1, hx1, hy1, hs1⟩ := two_newG hw1
 have HX1 := Lib.hid hx1
 have HY1 := Lib.hid hy1
 have HB1 := Lib.hid hb1
 have HS1 := Lib.hid hs1
 have HTT := Lib.hid hT
 obtain ⟨po, hpo⟩ : ∃ po, po = (R i).getD (none, none) := ⟨_, rfl⟩
 rw [← hpo] at HGET
 have hch : chE hs lv i (insE L k x) = insE (chE hs lv i L) k x := ch_ins_same (by rw [hi])
 have hoth : ∀ j, j ≠ i → chE hs lv j (insE L k x) = chE hs lv j L := fun j hj => ch_ins_other hL (fun e => hj (by rw [hi, e]))
 rw [← hlv] at hpl
 have HPL := Lib.hid hpl
 have HCE := Lib.hid hch
 have HOTH := Lib.hid hoth
 have HPW : Hid (∀ V, Below w.heap.size w V → Calls Tryz.prog 150 #[.agg (plc po), .int .i64 ((lv : Int) + 1), .pointer (some ⟨b, 0, none⟩)] V fun r w' => ∃ p', r = .returned (.agg (plc p')) ∧ PlAt hs (fun g => (S g ∧ g < w.heap.size) ∨ V.heap.size ≤ g) w' (NodeAt hs (fun g => (S g ∧ g < w.heap.size) ∨ V.heap.size ≤ g) f w') (insE (chE hs lv i L) k x) (some p') ∧ Below V.heap.size V w') := fun V hV => by
  have h1 := ih (fun g => S g ∧ g < w.heap.size) V _ (R i) b k x ((hpl i hi32).old.later hV) (hL.ch hs lv i) (Nat.le_trans ch_len_le hn) (he.old.later hV) (hT.below hV)
  rw [e14, ← hpo, show (((lv + 1 : Nat) : Nat) : Int) = (lv : Int) + 1 by omega] at h1
  unfold pv at h1
  exact h1
 have HSET := Lib.hid (fun W (hb : Below w.heap.size w W) p => pr_Set W R #[.int .u32 (bb : Int), .slice va vn vc] i hi32 p (hrow.later hb))
 have hlv12 : (lv : Int) ≤ 12 := by omega
 have hn13 : ((lv : Int) == 13) = false := beq_eq_false_iff_ne.2 (by omega)
 have HLVF := Lib.hid hlv
 have HWR : Hid (IntKind.i64.wrap ((lv : Int) + 1) = (lv : Int) + 1) := by show _ = _; rw [IntKind.wrap_i64]; omega
 have hk1 : w1.cell? ⟨b, 1, none⟩ = some (.int .u64 (hs k : Nat)) := by
  obtain ⟨_, fr, h⟩ := he.later hb1
  exact cell_in h rfl
 obtain ⟨h1, u1⟩ : ∃ x : Nat, x = hs k := ⟨_, rfl⟩
 rw [← u1] at HCH hk1
 clear h hrow hpl hch hoth hx1 hy1 hb1 hs1 hi hL hn ih u1 hlv e13 e14 he hT hpo hf
 unfold pv
 go_enter Tryz.func128, Tryz.ntmps128
 go_upto_region 7 with fail
 clear hw1
 go_upto_region 9 with (first
  | (go_at_call 139; refine (HCH.out _).mono ?_; rintro r wc ⟨rfl, hwc⟩; obtain rfl := hwc.symm)
  | (refine wpList_load_mid rfl 116 _ rfl w.heap.size 0 rfl [.int .u32 (bb : Int), .slice va vn vc] _ (row_range HX1.out) Tryz.underlying116 rfl row_size ?_)
  | (go_at_call 138; refine (HGET.out _ HB1.out).mono ?_; rintro r w2 ⟨rfl, hb⟩; have HX2 := Lib.hid ((hb.block _ (by have := HS1.out; omega)).trans HX1.out); have HY2 := Lib.hid ((hb.block _ (by have := HS1.out; omega)).trans HY1.out); have HB2 := Lib.hid (tW HB1.out hb); have HS2 : Hid (w.heap.size + 2 ≤ w2.heap.size) := (by show _ ≤ _; have := hb.size; have := HS1.out; omega); clear hb)
  | (refine st_agg rfl 190 _ _ rfl w2.heap.size (plc po) rfl rfl 190 (plc (none, none)) (heap_alloc_last w2 _) pl_size rfl (plc_one _) ?_; intro w3 h3 k3; have HP3 := Lib.hid h3; have hbb : Below w2.heap.size w2 w3 := (Below.newly' w2 _).trans (k3.below (Nat.le_refl _)); have HX3 := Lib.hid ((hbb.block _ (by have := HS2.out; omega)).trans HX2.out); have HY3 := Lib.hid ((hbb.block _ (by have := HS2.out; omega)).trans HY2.out); have HB3 := Lib.hid (tW HB2.out hbb); have HS3 : Hid (w2.heap.size < w3.heap.size) := (Array.getElem?_eq_some_iff.1 h3).1; obtain ⟨X, hX⟩ : ∃ X, X = w2.heap.size := ⟨_, rfl⟩; rw [← hX] at HP3 HS3 ⊢; have HXX : Hid (w.heap.size + 2 ≤ X) := (by show _ ≤ _; have := HS2.out; omega); clear h3 k3 hbb hX))
 have HKS : Hid (∀ V, Below w3.heap.size w3 V → (V.heap[w.heap.size]? = some (.cells #[.int .u32 (bb : Int), .slice va vn vc, .slice none 0 0] 119 (0, 0)) ∧ V.heap[X]? = some (.cells (plc po) 190 (0, 0)))) := fun V hV =>
  ⟨(hV.block _ (by have := HS3.out; have := HXX.out; omega)).trans HX3.out, (hV.block _ HS3.out).trans HP3.out⟩
 have HW : Hid (Below w3.heap.size w3 w3.drew) := drawn_below w3
 refine wp_region_T (S := (fun V => V.heap[w.heap.size]? = some (.cells #[.int .u32 (bb : Int), .slice va vn vc, .slice none 0 0] 119 (0, 0)) ∧ V.heap[X]? = some (.cells (plc po) 190 (0, 0)))) [10] (by kernel_rfl) (by exact HKS.out _ HW.out) (fun hHeld => ?_)
 refine tkA 0 54 (h := ?_)
 refine tyA 1 55 (hy := yieldsIf_arr (by rfl) 116 _ rfl w.heap.size 0 rfl #[.int .u32 (bb : Int), .slice va vn vc] _ (fun w hw => (row_range hw.1)) Tryz.underlying116 rfl (by exact row_size)) (h := ?_)
 refine tkA 2 56 (h := ?_)
 refine tyA 3 57 (hy := yieldsIf_load_row (by rfl) 190 _ rfl X rfl (plc po) 190 (0, 0) _ (fun w hw => hw.2) Tryz.underlying190 rfl (by exact pl_size)) (h := ?_)
 refine tkA 4 58 (h := ?_)
 refine tkA 5 59 (h := ?_)
 refine tkA 6 60 (h := ?_)
 (try simp only [pq])
 refine tkO 7 (some 61) (h := fun K hK => ?_)
 go_simp
 go_at_call 150
 rw [HWR.out]
 refine (HPW.out _ (tW HB3.out HW.out)).mono ?_
 rintro r w5 ⟨p5, rfl, hp5, hb⟩
 have HP5 := Lib.hid hp5
 have HW5 := Lib.hid HW.out.size
 replace HW := Lib.hid (tW HW.out hb)
 have HWA := Lib.hid HW.out
 have HWL := Lib.hid HW.out.size
 clear hb hp5
 dsimp only
 refine hK.out _ _ (by exact HKS.out _ HW.out) (fun hHeld => ?_)
 clear hK K
 (try simp only [pq])
 refine tkO 8 (some 62) (h := fun K hK => ?_)
 go_simp
 go_at_call 149
 refine (HSET.out _ (tW HB3.out HW.out) p5).mono ?_
 rintro r w6 ⟨c6, rfl, hr6, hb⟩
 have HR6 := Lib.hid hr6
 replace HW := Lib.hid (tW HW.out hb)
 have HB6 := Lib.hid hb
 obtain ⟨b6, a6, n6, m6, rfl⟩ := hr6.parts
 clear hb hr6
 dsimp only
 refine hK.out _ _ (by exact HKS.out _ HW.out) (fun hHeld => ?_)
 clear hK K
 (try simp only [pq])
 refine tkA 9 63 (h := ?_)
 (try simp only [pq])
 refine tkU 10 none (h := fun K hK => ?_)
 rw [if_pos (by rfl)]
 refine st_agg_wp 119 _ _ rfl (w.heap.size + 1) #[.int .u32 (b6 : Int), .slice a6 n6 m6, .slice none 0 0] rfl rfl 119 #[.int .u32 0, .slice none 0 0, .slice none 0 0] ((HW.out.block _ (by have := HS3.out; have := HXX.out; omega)).trans HY3.out) nd_size rfl (by simp [Value.oneCell']) ?_
 intro w7 h7 k7
 refine hK.out _ _ ?_
 clear hK K
 (try simp only [pq])
 refine wpAnyT_done (by kernel_rfl) ?_ _
 clear hHeld
 go_wp2_with fail
 refine bodyPost_ret (results_cell_row rfl _ _ (w.heap.size + 1) 119 _ (0, 0) _ rfl h7 Tryz.underlying119 rfl nd_size) rfl ⟨_, rfl, ?_, (tW HB3.out HW.out).trans (k7.below (by omega))⟩
 have hs1 := HS3.out
 have hs2 := HXX.out
 have hs3 := HWL.out
 have hs4 := HW5.out
 have hnode := NodeAt.of_row (hs := hs) (f := f) (L := insE L k x) (S := fun g => (S g ∧ g < w.heap.size) ∨ w.heap.size + 2 ≤ g) (HR6.out.weak fun g hg => .inr (by omega)) (fun j hj => by
  rw [← HLVF.out]
  unfold setG
  by_cases hji : j = i
  ·subst hji
   rw [if_pos rfl, HCE.out]
   exact (HP5.out.later HB6.out).weak fun g hg => hg.imp_right fun hg => by have := hg; omega
  ·rw [if_neg hji, HOTH.out j hji]
   exact ((HPL.out j hj).old.later (tW HB3.out HW.out)).weak fun g hg => .inl hg)
 obtain ⟨b7, v7, e7, hnode⟩ := hnode
 simp only [Array.mk.injEq, List.cons.injEq] at e7
 obtain ⟨rfl, rfl, _⟩ := e7
 exact (hnode.kp (Kp.only k7 (fun h => by omega))).weak fun g hg => by
  rcases hg with hg | hg
  ·exact .inl hg.1
  ·exact .inr (by omega)
theorem hm_with (hs : ByteArray → Nat) (hlt : ∀ k, hs k < 18446744073709551616) : ∀ f, f ≤ 13 → WithOk hs f
 | 0, _ => hm_with_0 hs
 | f + 1, hf => hm_with_s hs hlt f (by omega) (hm_pwith hs f (hm_with hs hlt f (by omega)))
end Go.Proofs.YtpodmgihlomglaaGreatDoor
