/- Texts put together: Hm8 Hm9. -/
import Derived.Test.YtnnlfgfgfegjkaaDoorPkH

/- Package hamt: without, at the lists. (written by tools/gen09/without8.py) -/
namespace Go.Proofs.YtnnlfgfgfegjkaaDoor
open Go.RowKit
set_option maxRecDepth 1000000
set_option linter.unusedSimpArgs false

/-- What without gives of a node: a node without the key. -/
def WithoutOk (hs : ByteArray → Nat) (f : Nat) : Prop := ∀ (S : Nat → Prop) (w : World) (L : List Ent) (c : Array Value) (b : Nat) (k : ByteArray) (x : Int), NodeAt hs S f w L c → Rise L → L.length ≤ 50000 → (getE L k).isSome = true → (f = 0 → 2 ≤ L.length) → EntAt hs S w b (k, x) → Tab6 w →
    Calls Tryd.prog 77 #[.agg c, .int .i64 ((13 - f : Nat) : Int), pv (some b)] w fun r w' => ∃ c', r = .returned (.agg c') ∧ NodeAt hs (fun g => S g ∨ w.heap.size ≤ g) f w' (delE L k) c' ∧ Below w.heap.size w w'
theorem del_pairs {L : List Ent} {k : ByteArray} {qs : List (Nat × Ent)} {N : Nat} (hL : Rise L) (h1 : (qs.take N).map (·.2) = belE L k) (h2 : (qs.drop (N + 1)).map (·.2) = abvE L k) : (qs.take N ++ qs.drop (N + 1)).map (·.2) = delE L k := by
  rw [List.map_append, h1, h2, bel_abv hL]
set_option maxHeartbeats 4000000 in
theorem hm_without_0 (hs : ByteArray → Nat) : WithoutOk hs 0 := by
  intro S w L c b k x h hL hn hsome h2l he hT
  have hh := h
  obtain ⟨v, qs, rfl, h2, hq, h4⟩ := h
  rw [show (((13 - 0 : Nat) : Nat) : Int) = 13 from rfl]
  have hlq : L.length = qs.length := by rw [hq, List.length_map]
  rw [hlq] at h2
  obtain ⟨va, vc, rfl, hvc⟩ := h2.head.shape
  obtain ⟨w1, hw1⟩ : ∃ w1, (w.alloc (.cells #[.int .u32 0, .slice none 0 0, .slice va qs.length vc] 34)).alloc (.cells #[.int .u32 0, .slice none 0 0, .slice none 0 0] 34) = w1 := ⟨_, rfl⟩
  obtain ⟨hb1, hx1, hy1, hs1⟩ := two_newG hw1
  have HX1 := Lib.hid hx1
  have HY1 := Lib.hid hy1
  have HB1 := Lib.hid hb1
  have HS1 := Lib.hid hs1
  have HSE := Lib.hid (fun W (hb : Below w.heap.size w W) => hm_search W L _ k (hh.later hb) hL (by omega))
  obtain ⟨N, hN⟩ : ∃ N, N = (belE L k).length := ⟨_, rfl⟩
  rw [← hN] at HSE
  have hbel : (qs.take N).map (·.2) = belE L k := by rw [List.map_take, ← hq, hN]; exact cut_take hL k
  have hdrp : (qs.drop N).map (·.2) = atE L k ++ abvE L k := by rw [List.map_drop, ← hq, hN]; exact cut_drop hL k
  obtain ⟨y, hy⟩ := Option.isSome_iff_exists.1 hsome
  have hNq : N + 1 ≤ qs.length := by
    have h1 := congrArg List.length hdrp
    rw [at_some hy] at h1
    simp at h1
    omega
  have hrest : (qs.drop (N + 1)).map (·.2) = abvE L k := by
    have h1 := hdrp
    rw [at_some hy] at h1
    rw [← List.drop_drop, List.map_drop, h1]
    rfl
  obtain ⟨a1, c1, hs1a, hr1⟩ := cut_h (P := Tryd.prog) 32 ep_under ep_elem h2.head.cut (hi := N) (by omega)
  obtain ⟨a4, c4, hs4, hr4⟩ := cut_l (P := Tryd.prog) 32 ep_under ep_elem h2.head.cut hNq
  rw [en_take enE_len] at hs1a
  rw [en_drop enE_len] at hs4
  rw [show (((N + 1 : Nat) : Nat) : Int) = (N : Int) + 1 by omega] at hr4
  rw [hsome] at HSE
  have hwr : IntKind.i64.wrap ((N : Int) + 1) = (N : Int) + 1 := by rw [IntKind.wrap_i64]; omega
  have HC1 := Lib.hid hs1a
  have HC4 := Lib.hid hs4
  have HH4 := Lib.hid h4
  have HBEL := Lib.hid hbel
  have HREST := Lib.hid hrest
  have HNQ := Lib.hid (And.intro hNq (And.intro hlq hn))
  have HL := Lib.hid hL
  have H2L := Lib.hid (h2l rfl)
  have HQ1 : Hid ((qs.map (·.1)).take N = (qs.take N).map (·.1)) := List.map_take.symm
  have HQ3 : Hid ((qs.map (·.1)).drop (N + 1) = (qs.drop (N + 1)).map (·.1)) := List.map_drop.symm
  have HLN : Hid (((qs.take N).map (·.1)).length = N ∧ ((qs.drop (N + 1)).map (·.1)).length = qs.length - (N + 1)) := by
    show _ ∧ _
    refine ⟨?_, ?_⟩
    · simp
      omega
    · simp
  have cb0 : w.cell? ⟨b, 0, none⟩ = some (.string k) := by
    obtain ⟨_, fr, h⟩ := he
    exact cell_in h rfl
  have HCB := Lib.hid cb0
  have HBL := Lib.hid he.lt
  clear hh h2 hq h4 hx1 hy1 hb1 hs1 he hL hn hlq hNq hbel hdrp hs1a hs4 cb0 hN hT hrest hy h2l hsome
  unfold pv
  go_enter Tryd.func77, Tryd.ntmps77
  go_upto_region 2 with fail
  clear hw1
  have HKS : Hid (∀ V, Below w1.heap.size w1 V → (V.heap[w.heap.size]? = some (.cells #[.int .u32 0, .slice none 0 0, .slice va qs.length vc] 34 (0, 0)) ∧ V.cell? ⟨b, 0, none⟩ = some (.string k))) := fun V hV =>
    ⟨(hV.block _ (by have := HS1.out; omega)).trans HX1.out, ((HB1.out.trans (hV.mono HB1.out.size)).cell (p := ⟨b, 0, none⟩) HBL.out).trans HCB.out⟩
  have HW : Hid (Below w1.heap.size w1 w1.drew) := drawn_below w1
  refine wp_region_T (S := (fun V => V.heap[w.heap.size]? = some (.cells #[.int .u32 0, .slice none 0 0, .slice va qs.length vc] 34 (0, 0)) ∧ V.cell? ⟨b, 0, none⟩ = some (.string k))) [] (by kernel_rfl) (by exact HKS.out _ HW.out) (fun hHeld => ?_)
  refine wpAnyT_take (i := 0) (oi := ⟨some 15, _, _, _, _, _⟩) (v := _) rfl (by kernel_rfl) (by kernel_rfl) (by kernel_rfl) (by kernel_rfl) (fun _ _ _ h => h) (yieldsIf_load_row (by rfl) 34 _ rfl w.heap.size rfl #[.int .u32 0, .slice none 0 0, .slice va qs.length vc] 34 (0, 0) _ (fun w hw => hw.1) Tryd.underlying34 rfl (by exact nd_size)) (by assumption) ?_
  (try simp only [Act.put, List.setIfInBounds_toArray, List.set_cons_zero, List.set_cons_succ])
  refine wpAnyT_take (i := 1) (oi := ⟨some 16, _, _, _, _, _⟩) (v := ?vg1_1) rfl (by kernel_rfl) (by kernel_rfl) (by kernel_rfl) (by kernel_rfl) (fun _ _ _ h => h) (Or.inl ⟨by rfl, ?hg1_1⟩) (by assumption) ?rg1_1
  case hg1_1 => (intro w hSw; (try dsimp only at hSw); first | (go_simp; done) | (go_simp; with_reducible rfl))
  (try simp only [Act.put, List.setIfInBounds_toArray, List.set_cons_zero, List.set_cons_succ])
  refine wpAnyT_take (i := 2) (oi := ⟨some 17, _, _, _, _, _⟩) (v := ?vg1_2) rfl (by kernel_rfl) (by kernel_rfl) (by kernel_rfl) (by kernel_rfl) (fun _ _ _ h => h) (Or.inl ⟨by rfl, ?hg1_2⟩) (by assumption) ?rg1_2
  case hg1_2 => (intro w hSw; (try dsimp only at hSw); first | (go_simp; done) | (go_simp; with_reducible rfl))
  (try simp only [Act.put, List.setIfInBounds_toArray, List.set_cons_zero, List.set_cons_succ])
  refine wpAnyT_take (i := 3) (oi := ⟨some 18, _, _, _, _, _⟩) (v := ?vg1_3) rfl (by kernel_rfl) (by kernel_rfl) (by kernel_rfl) (by kernel_rfl) (fun _ _ _ h => h) (Or.inl ⟨by rfl, ?hg1_3⟩) (by assumption) ?rg1_3
  case hg1_3 => (intro w hSw; (try dsimp only at hSw); first | (go_simp; done) | (go_simp; with_reducible rfl))
  (try simp only [Act.put, List.setIfInBounds_toArray, List.set_cons_zero, List.set_cons_succ])
  refine wpAnyT_take (i := 4) (oi := ⟨some 19, _, _, _, _, _⟩) (v := ?vg1_4) rfl (by kernel_rfl) (by kernel_rfl) (by kernel_rfl) (by kernel_rfl) (fun _ _ _ h => h) (Or.inl ⟨by rfl, ?hg1_4⟩) (by assumption) ?rg1_4
  case hg1_4 => (intro w hSw; (try dsimp only at hSw); first | (go_simp; done) | (go_simp; with_reducible rfl))
  (try simp only [Act.put, List.setIfInBounds_toArray, List.set_cons_zero, List.set_cons_succ])
  refine wpAnyT_one (i := 5) (o := ⟨some 20, _, _, _, _, _⟩) (by kernel_rfl) rfl (fun K hK => ?_)
  go_simp
  go_at_call 78
  refine (HSE.out _ (HB1.out.trans (HW.out.mono HB1.out.size))).mono ?_
  rintro r w2 ⟨rfl, hb⟩
  replace HW := Lib.hid (HW.out.trans (hb.mono HW.out.size))
  clear hb
  dsimp only
  refine hK.out _ _ (by exact HKS.out _ HW.out) (fun hHeld => ?_)
  clear hK K
  (try simp only [Act.put, List.setIfInBounds_toArray, List.set_cons_zero, List.set_cons_succ])
  refine wpAnyT_take (i := 6) (oi := ⟨some 14, _, _, _, _, _⟩) (v := ?vg1_6) rfl (by kernel_rfl) (by kernel_rfl) (by kernel_rfl) (by kernel_rfl) (fun _ _ _ h => h) (Or.inl ⟨by rfl, ?hg1_6⟩) (by assumption) ?rg1_6
  case hg1_6 => (intro w hSw; (try dsimp only at hSw); first | (go_simp; done) | (go_simp; with_reducible rfl))
  (try simp only [Act.put, List.setIfInBounds_toArray, List.set_cons_zero, List.set_cons_succ])
  refine wpAnyT_take (i := 7) (oi := ⟨some 21, _, _, _, _, _⟩) (v := ?vg1_7) rfl (by kernel_rfl) (by kernel_rfl) (by kernel_rfl) (by kernel_rfl) (fun _ _ _ h => h) (Or.inl ⟨by rfl, ?hg1_7⟩) (by assumption) ?rg1_7
  case hg1_7 => (intro w hSw; (try dsimp only at hSw); first | (go_simp; done) | (go_simp; with_reducible rfl))
  (try simp only [Act.put, List.setIfInBounds_toArray, List.set_cons_zero, List.set_cons_succ])
  refine wpAnyT_take (i := 8) (oi := ⟨some 22, _, _, _, _, _⟩) (v := ?vg1_8) rfl (by kernel_rfl) (by kernel_rfl) (by kernel_rfl) (by kernel_rfl) (fun _ _ _ h => h) (Or.inl ⟨by rfl, ?hg1_8⟩) (by assumption) ?rg1_8
  case hg1_8 => (intro w hSw; (try dsimp only at hSw); first | (go_simp; done) | (go_simp; with_reducible rfl))
  (try simp only [Act.put, List.setIfInBounds_toArray, List.set_cons_zero, List.set_cons_succ])
  refine wpAnyT_take (i := 9) (oi := ⟨some 7, _, _, _, _, _⟩) (v := ?vg1_9) rfl (by kernel_rfl) (by kernel_rfl) (by kernel_rfl) (by kernel_rfl) (fun _ _ _ h => h) (Or.inl ⟨by rfl, ?hg1_9⟩) (by assumption) ?rg1_9
  case hg1_9 => (intro w hSw; (try dsimp only at hSw); first | (go_simp; done) | (go_simp; with_reducible rfl))
  (try simp only [Act.put, List.setIfInBounds_toArray, List.set_cons_zero, List.set_cons_succ])
  refine wpAnyT_take (i := 10) (oi := ⟨some 8, _, _, _, _, _⟩) (v := ?vg1_10) rfl (by kernel_rfl) (by kernel_rfl) (by kernel_rfl) (by kernel_rfl) (fun _ _ _ h => h) (Or.inl ⟨by rfl, ?hg1_10⟩) (by assumption) ?rg1_10
  case hg1_10 => (intro w hSw; (try dsimp only at hSw); first | (go_simp; done) | (go_simp; with_reducible rfl))
  (try simp only [Act.put, List.setIfInBounds_toArray, List.set_cons_zero, List.set_cons_succ])
  refine wpAnyT_done (by kernel_rfl) ?_ _
  have HXW := Lib.hid (HKS.out _ HW.out).1
  have HYW := Lib.hid ((HW.out.block _ (by have := HS1.out; omega)).trans HY1.out)
  have cx2 : w2.cell? ⟨w.heap.size, 2, none⟩ = some (.slice va qs.length vc) := cell_in HXW.out rfl
  have HBW := Lib.hid (HB1.out.trans (HW.out.mono HB1.out.size))
  have HSW : Hid (w.heap.size + 2 ≤ w2.heap.size) := by show _ ≤ _; have := HW.out.size; have := HS1.out; omega
  clear HKS HW hHeld
  go_upto_region 3 with fail
  have HX2 := Lib.hid cx2
  have HKS : Hid (∀ V, Below w2.heap.size w2 V → V.cell? ⟨w.heap.size, 2, none⟩ = some (.slice va qs.length vc)) := fun V hV =>
    (hV.cell (p := ⟨w.heap.size, 2, none⟩) (by have := HSW.out; show w.heap.size < _; omega)).trans HX2.out
  clear cx2
  have HW : Hid (Below w2.heap.size w2 w2.drew) := drawn_below w2
  refine wp_region_T (S := (fun V => V.cell? ⟨w.heap.size, 2, none⟩ = some (.slice va qs.length vc))) [12] (by kernel_rfl) (by exact HKS.out _ HW.out) (fun hHeld => ?_)
  refine wpAnyT_take (i := 0) (oi := ⟨some 23, _, _, _, _, _⟩) (v := ?vg2_0) rfl (by kernel_rfl) (by kernel_rfl) (by kernel_rfl) (by kernel_rfl) (fun _ _ _ h => h) (Or.inl ⟨by rfl, ?hg2_0⟩) (by assumption) ?rg2_0
  case hg2_0 => (intro w hSw; (try dsimp only at hSw); first | (go_simp; done) | (go_simp; with_reducible rfl))
  (try simp only [Act.put, List.setIfInBounds_toArray, List.set_cons_zero, List.set_cons_succ])
  refine wpAnyT_take (i := 1) (oi := ⟨some 24, _, _, _, _, _⟩) (v := ?vg2_1) rfl (by kernel_rfl) (by kernel_rfl) (by kernel_rfl) (by kernel_rfl) (fun _ _ _ h => h) (Or.inl ⟨by rfl, ?hg2_1⟩) (by assumption) ?rg2_1
  case hg2_1 => (intro w hSw; (try dsimp only at hSw); first | (go_simp; done) | (go_simp; with_reducible rfl))
  (try simp only [Act.put, List.setIfInBounds_toArray, List.set_cons_zero, List.set_cons_succ])
  refine wpAnyT_take (i := 2) (oi := ⟨some 25, _, _, _, _, _⟩) (v := ?vg2_2) rfl (by kernel_rfl) (by kernel_rfl) (by kernel_rfl) (by kernel_rfl) (fun _ _ _ h => h) (Or.inl ⟨by rfl, ?hg2_2⟩) (by assumption) ?rg2_2
  case hg2_2 => (intro w hSw; (try dsimp only at hSw); first | (go_simp; done) | (go_simp; with_reducible rfl))
  (try simp only [Act.put, List.setIfInBounds_toArray, List.set_cons_zero, List.set_cons_succ])
  refine wpAnyT_take (i := 3) (oi := ⟨some 26, _, _, _, _, _⟩) (v := ?vg2_3) rfl (by kernel_rfl) (by kernel_rfl) (by kernel_rfl) (by kernel_rfl) (fun _ _ _ h => h) (Or.inl ⟨by rfl, ?hg2_3⟩) (by assumption) ?rg2_3
  case hg2_3 => (intro w hSw; (try dsimp only at hSw); first | (go_simp; done) | (go_simp; with_reducible rfl))
  (try simp only [Act.put, List.setIfInBounds_toArray, List.set_cons_zero, List.set_cons_succ])
  refine wpAnyT_take (i := 4) (oi := ⟨some 27, _, _, _, _, _⟩) (v := ?vg2_4) rfl (by kernel_rfl) (by kernel_rfl) (by kernel_rfl) (by kernel_rfl) (fun _ _ _ h => h) (Or.inl ⟨by rfl, ?hg2_4⟩) (by assumption) ?rg2_4
  case hg2_4 => (intro w hSw; (try dsimp only at hSw); first | (go_simp; done) | (go_simp; with_reducible rfl))
  (try simp only [Act.put, List.setIfInBounds_toArray, List.set_cons_zero, List.set_cons_succ])
  refine wpAnyT_take (i := 5) (oi := ⟨some 28, _, _, _, _, _⟩) (v := ?vg2_5) rfl (by kernel_rfl) (by kernel_rfl) (by kernel_rfl) (by kernel_rfl) (fun _ _ _ h => h) (Or.inl ⟨by rfl, ?hg2_5⟩) (by assumption) ?rg2_5
  case hg2_5 => (intro w hSw; (try dsimp only at hSw); first | (go_simp; done) | (go_simp; with_reducible rfl))
  (try simp only [Act.put, List.setIfInBounds_toArray, List.set_cons_zero, List.set_cons_succ])
  refine wpAnyT_take (i := 6) (oi := ⟨some 29, _, _, _, _, _⟩) (v := ?vg2_6) rfl (by kernel_rfl) (by kernel_rfl) (by kernel_rfl) (by kernel_rfl) (fun _ _ _ h => h) (Or.inl ⟨by rfl, ?hg2_6⟩) (by assumption) ?rg2_6
  case hg2_6 => (intro w hSw; (try dsimp only at hSw); first | (go_simp; done) | (go_simp; with_reducible rfl))
  (try simp only [Act.put, List.setIfInBounds_toArray, List.set_cons_zero, List.set_cons_succ])
  refine wpAnyT_take (i := 7) (oi := ⟨some 30, _, _, _, _, _⟩) (v := ?vg2_7) rfl (by kernel_rfl) (by kernel_rfl) (by kernel_rfl) (by kernel_rfl) (fun _ _ _ h => h) (Or.inl ⟨by rfl, ?hg2_7⟩) (by assumption) ?rg2_7
  case hg2_7 => (intro w hSw; (try dsimp only at hSw); first | (go_simp; done) | (go_simp; with_reducible rfl))
  (try simp only [Act.put, List.setIfInBounds_toArray, List.set_cons_zero, List.set_cons_succ])
  refine wpAnyT_take (i := 8) (oi := ⟨some 31, _, _, _, _, _⟩) (v := ?vg2_8) rfl (by kernel_rfl) (by kernel_rfl) (by kernel_rfl) (by kernel_rfl) (fun _ _ _ h => h) (Or.inl ⟨by rfl, ?hg2_8⟩) (by assumption) ?rg2_8
  case hg2_8 => (intro w hSw; (try dsimp only at hSw); first | (go_simp; done) | (go_simp; with_reducible rfl))
  (try simp only [Act.put, List.setIfInBounds_toArray, List.set_cons_zero, List.set_cons_succ])
  refine wpAnyT_one (i := 9) (o := ⟨some 32, _, _, _, _, _⟩) (by kernel_rfl) rfl (fun K hK => ?_)
  go_simp
  have HYL : Hid ((w2.alloc (.cells #[.slice a1 N c1, .slice a4 (qs.length - (N + 1)) c4] 32)).drew.heap[w2.heap.size]? = some (.cells #[.slice a1 N c1, .slice a4 (qs.length - (N + 1)) c4] 32 (0, 0))) := heap_alloc_last w2 _
  replace HW : Hid (Below w2.heap.size w2 (w2.alloc (.cells #[.slice a1 N c1, .slice a4 (qs.length - (N + 1)) c4] 32)).drew) := (Below.newly' w2 _).trans ((drawn_below _).mono (Below.newly' w2 _).size)
  obtain ⟨X, hX⟩ : ∃ X, X = w2.heap.size := ⟨_, rfl⟩
  rw [← hX] at HYL ⊢
  clear hX
  obtain ⟨W3, hW3⟩ : ∃ W3, (w2.alloc (.cells #[.slice a1 N c1, .slice a4 (qs.length - (N + 1)) c4] 32)).drew = W3 := ⟨_, rfl⟩
  rw [hW3] at HYL HW ⊢
  clear hW3
  refine hK.out _ _ (by exact HKS.out _ HW.out) (fun hHeld => ?_)
  clear hK K
  (try simp only [Act.put, List.setIfInBounds_toArray, List.set_cons_zero, List.set_cons_succ])
  refine wpAnyT_one (i := 10) (o := ⟨some 33, _, _, _, _, _⟩) (by kernel_rfl) rfl (fun K hK => ?_)
  go_simp
  go_at_call 83
  refine (cc_two W3 X (.slice a1 N c1) (.slice a4 (qs.length - (N + 1)) c4) ((qs.take N).map (·.1)) ((qs.drop (N + 1)).map (·.1)) (cell_in HYL.out rfl) (cell_in HYL.out rfl) (by rw [HLN.out.1, ← HQ1.out]; exact ((HC1.out.later HBW.out).later HW.out).all) (by rw [HLN.out.2, ← HQ3.out]; exact ((HC4.out.later HBW.out).later HW.out).all) (by have := HNQ.out; have := HLN.out; simp at this ⊢; omega) (by have := HNQ.out; have := H2L.out; have := HLN.out; rw [List.length_append]; omega)).mono ?_
  rintro r w5 ⟨g5, c5, hr, ho5, hb5⟩
  obtain ⟨n5, hn5⟩ : ∃ n5, n5 = ((qs.take N).map (·.1) ++ (qs.drop (N + 1)).map (·.1)).length := ⟨_, rfl⟩
  rw [← hn5] at hr ho5
  subst hr
  have HN5 := Lib.hid hn5
  have HO5 := Lib.hid ho5
  have HW3L := Lib.hid HW.out.size
  replace HW := Lib.hid (HW.out.trans (hb5.mono HW.out.size))
  clear ho5 hb5 hn5
  dsimp only
  refine hK.out _ _ (by exact HKS.out _ HW.out) (fun hHeld => ?_)
  clear hK K
  (try simp only [Act.put, List.setIfInBounds_toArray, List.set_cons_zero, List.set_cons_succ])
  refine wpAnyT_take (i := 11) (oi := ⟨some 34, _, _, _, _, _⟩) (v := ?vg2_11) rfl (by kernel_rfl) (by kernel_rfl) (by kernel_rfl) (by kernel_rfl) (fun _ _ _ h => h) (Or.inl ⟨by rfl, ?hg2_11⟩) (by assumption) ?rg2_11
  case hg2_11 => (intro w hSw; (try dsimp only at hSw); first | (go_simp; done) | (go_simp; with_reducible rfl))
  (try simp only [Act.put, List.setIfInBounds_toArray, List.set_cons_zero, List.set_cons_succ])
  refine wpAnyT_last (i := 12) (o := ⟨none, _, _, _, _, _⟩) (by kernel_rfl) (by decide) rfl (fun K hK => ?_)
  rw [if_pos (by rfl)]
  refine st_agg_wp 34 _ _ rfl (w.heap.size + 1) #[.int .u32 0, .slice none 0 0, .slice (some ⟨g5, 0, none⟩) n5 c5] rfl rfl 34 #[.int .u32 0, .slice none 0 0, .slice none 0 0] ((HW.out.block _ (by have := HSW.out; omega)).trans HYW.out) nd_size rfl (by simp [Value.oneCell']) ?_
  intro w6 h6 k6
  refine hK.out _ _ ?_
  clear hK K
  (try simp only [Act.put, List.setIfInBounds_toArray, List.set_cons_zero, List.set_cons_succ])
  refine wpAnyT_done (by kernel_rfl) ?_ _
  clear hHeld
  go_wp2_with fail
  have HB5 := Lib.hid (HBW.out.trans (HW.out.mono HBW.out.size))
  refine bodyPost_ret (results_cell_row rfl _ _ (w.heap.size + 1) 34 _ (0, 0) _ rfl h6 Tryd.underlying34 rfl nd_size) rfl ⟨_, rfl, ?_, HB5.out.trans (k6.below (by omega))⟩
  have ho6 := HO5.out
  have e : (qs.take N).map (·.1) ++ (qs.drop (N + 1)).map (·.1) = (qs.take N ++ qs.drop (N + 1)).map (·.1) := by rw [List.map_append]
  have hn5 := HN5.out
  rw [e, List.length_map] at hn5
  rw [e, hn5] at ho6
  rw [hn5, ← del_pairs HL.out HBEL.out HREST.out]
  have hnode := list_node (hs := hs) (S := fun g => S g ∧ g < w.heap.size) (w := W3) (w' := w5) (by have := HNQ.out; have := H2L.out; rw [List.length_append, List.length_take, List.length_drop]; omega) ho6 (fun q hq => by
    rcases List.mem_append.1 hq with hq | hq
    · exact (HH4.out q (List.mem_of_mem_take hq)).old.later HB5.out
    · exact (HH4.out q (List.mem_of_mem_drop hq)).old.later HB5.out)
  have hW3 := HW3L.out
  have hSW := HSW.out
  exact (hnode.kp (Kp.only k6 (fun h => by omega))).weak fun g hg => by
    rcases hg with hg | hg
    · exact .inl hg.1
    · exact .inr (by omega)
end Go.Proofs.YtnnlfgfgfegjkaaDoor

/- Package hamt: without, above the lists. (written by tools/gen09/without9.py) -/
namespace Go.Proofs.YtnnlfgfgfegjkaaDoor
open Go.RowKit
set_option maxRecDepth 1000000
set_option linter.unusedSimpArgs false

theorem del_one {e : Ent} {k : ByteArray} (h : (getE [e] k).isSome = true) : e.1 = k ∧ delE [e] k = [] := by
  have h1 : e.1 = k := by
    obtain ⟨x, hx⟩ := Option.isSome_iff_exists.1 h
    have := (get_mem (Rise.one e)).1 hx
    rw [List.mem_singleton] at this
    rw [← this]
  exact ⟨h1, by simp [delE, h1]⟩
theorem del_ne {a b : Ent} {M : List Ent} (k : ByteArray) (h : Rise (a :: b :: M)) : delE (a :: b :: M) k ≠ [] := by
  intro e
  have h1 := len_del h k
  rw [e] at h1
  split at h1 <;> simp at h1
set_option maxHeartbeats 4000000 in
theorem hm_without_s (hs : ByteArray → Nat) (hlt : ∀ k, hs k < 18446744073709551616) (f : Nat) (hf : f ≤ 12) (ih : WithoutOk hs f) : WithoutOk hs (f + 1) := by
  intro S w L c b k x h hL hn hsome _ he hT
  obtain ⟨lv, hlv⟩ : ∃ lv : Nat, lv = 12 - f := ⟨_, rfl⟩
  have e13 : (13 - (f + 1) : Nat) = lv := by omega
  have e14 : (13 - f : Nat) = lv + 1 := by omega
  rw [e13]
  obtain ⟨b0, v, R, rfl, hrow, hpl⟩ := h.row
  obtain ⟨i, hi⟩ : ∃ i, i = chunkN (hs k) (lv : Int) := ⟨_, rfl⟩
  have hi32 : i < 32 := by rw [hi]; exact chunkN_lt _ _
  have HCH := Lib.hid (fun W => mix_Chunk (hs k) (lv : Int) (hlt k) W)
  rw [← hi] at HCH
  have HGET := Lib.hid (fun W (hb : Below w.heap.size w W) => pr_Get W R #[b0, v] i hi32 (hrow.later hb))
  obtain ⟨bb, rfl⟩ : ∃ bb : Nat, b0 = .int .u32 (bb : Int) := by obtain ⟨v', e, _⟩ := hrow; simp only [Array.mk.injEq, List.cons.injEq] at e; exact ⟨_, e.1⟩
  obtain ⟨va, vn, vc, rfl⟩ : ∃ a n c, v = .slice a n c := by obtain ⟨a, n, e⟩ := hrow.shape; simp only [Array.mk.injEq, List.cons.injEq] at e; exact ⟨_, _, _, e.2.1⟩
  obtain ⟨w1, hw1⟩ : ∃ w1, (w.alloc (.cells #[.int .u32 (bb : Int), .slice va vn vc, .slice none 0 0] 34)).alloc (.cells #[.int .u32 0, .slice none 0 0, .slice none 0 0] 34) = w1 := ⟨_, rfl⟩
  obtain ⟨hb1, hx1, hy1, hs1⟩ := two_newG hw1
  have HX1 := Lib.hid hx1
  have HY1 := Lib.hid hy1
  have HB1 := Lib.hid hb1
  have HS1 := Lib.hid hs1
  have HTT := Lib.hid hT
  have hch : chE hs lv i (delE L k) = delE (chE hs lv i L) k := ch_del_same
  have hoth : ∀ j, j ≠ i → chE hs lv j (delE L k) = chE hs lv j L := fun j hj => ch_del_other (fun e => hj (by rw [hi, e]))
  rw [← hlv] at hpl
  have hget : (getE (chE hs lv i L) k).isSome = true := by rw [ch_get (by rw [hi])]; exact hsome
  have HPL := Lib.hid hpl
  have HOTH := Lib.hid hoth
  have hpi := hpl i hi32
  have hRM := hL.ch hs lv i
  have hLM : (chE hs lv i L).length ≤ 50000 := Nat.le_trans ch_len_le hn
  obtain ⟨M, hM⟩ : ∃ M, M = chE hs lv i L := ⟨_, rfl⟩
  rw [← hM] at hpi hget hch hRM hLM
  have HCE := Lib.hid hch
  have hlv12 : (lv : Int) ≤ 12 := by omega
  have hn13 : ((lv : Int) == 13) = false := beq_eq_false_iff_ne.2 (by omega)
  have HLVF := Lib.hid hlv
  have hk1 : w1.cell? ⟨b, 1, none⟩ = some (.int .u64 (hs k : Nat)) := by
    obtain ⟨_, fr, h⟩ := he.later hb1
    exact cell_in h rfl
  obtain ⟨h1, u1⟩ : ∃ x : Nat, x = hs k := ⟨_, rfl⟩
  rw [← u1] at HCH hk1
  have HROW := Lib.hid hrow
  match M, hpi, hget, hRM, hLM, HCE with
  | [], _, hget, _, _, _ => exact absurd hget (by simp [getE])
  | [e], hpi, hget, _, _, HCE =>
    obtain ⟨b', hri, he'⟩ := hpi
    rw [hri] at HGET
    obtain ⟨hek, hdel⟩ := del_one hget
    have HCUT := Lib.hid (fun W (hb : Below w.heap.size w W) => pr_Cut W R #[.int .u32 (bb : Int), .slice va vn vc] i hi32 (by rw [hri]; rfl) (hrow.later hb))
    have HDEL := Lib.hid hdel
    clear h hrow hpl hch hoth hx1 hy1 hb1 hs1 hi hL hn ih u1 hlv e13 e14 he hT hf hget hM hek hdel he' hri hsome
    unfold pv
    go_enter Tryd.func77, Tryd.ntmps77
    go_upto_region 4 with fail
    clear hw1
    go_upto_region 6 with (first
    | (go_at_call 80; refine (HCH.out _).mono ?_; rintro r wc ⟨rfl, hwc⟩; obtain rfl := hwc.symm)
    | (refine wpList_load_mid rfl 31 _ rfl w.heap.size 0 rfl [.int .u32 (bb : Int), .slice va vn vc] _ (row_range HX1.out) Tryd.underlying31 rfl row_size ?_)
    | (go_at_call 79; refine (HGET.out _ HB1.out).mono ?_; rintro r w2 ⟨rfl, hb⟩; have HX2 := Lib.hid ((hb.block _ (by have := HS1.out; omega)).trans HX1.out); have HY2 := Lib.hid ((hb.block _ (by have := HS1.out; omega)).trans HY1.out); have HB2 := Lib.hid (HB1.out.trans (hb.mono HB1.out.size)); have HS2 : Hid (w.heap.size + 2 ≤ w2.heap.size) := (by show _ ≤ _; have := hb.size; have := HS1.out; omega); clear hb)
    | (refine st_agg rfl 117 _ _ rfl w2.heap.size (plc (some b', none)) rfl rfl 117 (plc (none, none)) (heap_alloc_last w2 _) pl_size rfl (plc_one _) ?_; intro w3 h3 k3; have HP3 := Lib.hid h3; have hbb : Below w2.heap.size w2 w3 := (Below.newly' w2 _).trans (k3.below (Nat.le_refl _)); have HX3 := Lib.hid ((hbb.block _ (by have := HS2.out; omega)).trans HX2.out); have HY3 := Lib.hid ((hbb.block _ (by have := HS2.out; omega)).trans HY2.out); have HB3 := Lib.hid (HB2.out.trans (hbb.mono HB2.out.size)); have HS3 : Hid (w2.heap.size < w3.heap.size) := (Array.getElem?_eq_some_iff.1 h3).1; obtain ⟨X, hX⟩ : ∃ X, X = w2.heap.size := ⟨_, rfl⟩; rw [← hX] at HP3 HS3 ⊢; have HXX : Hid (w.heap.size + 2 ≤ X) := (by show _ ≤ _; have := HS2.out; omega); clear h3 k3 hbb hX))
    have cp3 : w3.cell? ⟨X, 1, none⟩ = some (.pointer none) := cell_in HP3.out rfl
    go_wp2_with (first
      | (refine wpList_load_mid rfl 31 _ rfl w.heap.size 0 rfl [.int .u32 (bb : Int), .slice va vn vc] _ (row_range HX3.out) Tryd.underlying31 rfl row_size ?_)
      | (go_at_call 90; refine (HCUT.out _ HB3.out).mono ?_; rintro r w6 ⟨c6, rfl, hr6, hb⟩; have HR6 := Lib.hid hr6; have HB6 := Lib.hid (HB3.out.trans (hb.mono HB3.out.size)); have HY6 := Lib.hid ((hb.block _ (by have := HS3.out; have := HXX.out; omega)).trans HY3.out); obtain ⟨b6, a6, n6, m6, rfl⟩ := hr6.parts; clear hb hr6)
      | (refine st_agg rfl 34 _ _ rfl (w.heap.size + 1) #[.int .u32 (b6 : Int), .slice a6 n6 m6, .slice none 0 0] rfl rfl 34 _ HY6.out nd_size rfl (by simp [Value.oneCell']) ?_; intro w7 h7 k7))
    refine bodyPost_ret (results_cell_row rfl _ _ (w.heap.size + 1) 34 _ (0, 0) _ rfl h7 Tryd.underlying34 rfl nd_size) rfl ⟨_, rfl, ?_, HB6.out.trans (k7.below (by omega))⟩
    have hs1 := HS3.out
    have hs2 := HXX.out
    have hnode := NodeAt.of_row (hs := hs) (f := f) (L := delE L k) (S := fun g => (S g ∧ g < w.heap.size) ∨ w.heap.size + 2 ≤ g) (HR6.out.weak fun g hg => .inr (by omega)) (fun j hj => by
      rw [← HLVF.out]
      unfold cutG
      by_cases hji : j = i
      · subst hji
        rw [if_pos rfl, HCE.out, HDEL.out]
        rfl
      · rw [if_neg hji, HOTH.out j hji]
        exact ((HPL.out j hj).old.later HB6.out).weak fun g hg => .inl hg)
    obtain ⟨b7, v7, e7, hnode⟩ := hnode
    simp only [Array.mk.injEq, List.cons.injEq] at e7
    obtain ⟨rfl, rfl, _⟩ := e7
    exact (hnode.kp (Kp.only k7 (fun h => by omega))).weak fun g hg => by
      rcases hg with hg | hg
      · exact .inl hg.1
      · exact .inr (by omega)
  | m1 :: m2 :: M2, hpi, hget, hRM, hLM, HCE =>
    obtain ⟨g, cg, fr, hri, hSg, hgw, hnd⟩ := hpi
    rw [hri] at HGET
    have hgl : g < w.heap.size := (Array.getElem?_eq_some_iff.1 hgw).1
    have HGL := Lib.hid hgl
    have HG := Lib.hid hgw
    have HSZ := Lib.hid hnd.size
    have HPW : Hid (∀ V, Below w.heap.size w V → Calls Tryd.prog 77 #[.agg cg, .int .i64 ((lv : Int) + 1), .pointer (some ⟨b, 0, none⟩)] V fun r w' => ∃ c', r = .returned (.agg c') ∧ NodeAt hs (fun g => (S g ∧ g < w.heap.size) ∨ V.heap.size ≤ g) f w' (delE (m1 :: m2 :: M2) k) c' ∧ Below V.heap.size V w') := fun V hV => by
      have h1 := ih (fun g => S g ∧ g < w.heap.size) V _ cg b k x (hnd.old.later hV) hRM hLM hget (fun _ => by simp) (he.old.later hV) (hT.below hV)
      rw [e14, show (((lv + 1 : Nat) : Nat) : Int) = (lv : Int) + 1 by omega] at h1
      unfold pv at h1
      exact h1
    have HNE := Lib.hid (del_ne k hRM)
    have HPLC := Lib.hid (hm_place hs f)
    have HSET := Lib.hid (fun W (hb : Below w.heap.size w W) p => pr_Set W R #[.int .u32 (bb : Int), .slice va vn vc] i hi32 p (hrow.later hb))
    have HWR : Hid (IntKind.i64.wrap ((lv : Int) + 1) = (lv : Int) + 1) := by show _ = _; rw [IntKind.wrap_i64]; omega
    clear h hrow hpl hch hoth hx1 hy1 hb1 hs1 hi hL hn ih u1 hlv e13 e14 he hT hf hget hM hri hsome hnd hgw hSg hgl hRM hLM
    unfold pv
    go_enter Tryd.func77, Tryd.ntmps77
    go_upto_region 4 with fail
    clear hw1
    go_upto_region 6 with (first
    | (go_at_call 80; refine (HCH.out _).mono ?_; rintro r wc ⟨rfl, hwc⟩; obtain rfl := hwc.symm)
    | (refine wpList_load_mid rfl 31 _ rfl w.heap.size 0 rfl [.int .u32 (bb : Int), .slice va vn vc] _ (row_range HX1.out) Tryd.underlying31 rfl row_size ?_)
    | (go_at_call 79; refine (HGET.out _ HB1.out).mono ?_; rintro r w2 ⟨rfl, hb⟩; have HX2 := Lib.hid ((hb.block _ (by have := HS1.out; omega)).trans HX1.out); have HY2 := Lib.hid ((hb.block _ (by have := HS1.out; omega)).trans HY1.out); have HB2 := Lib.hid (HB1.out.trans (hb.mono HB1.out.size)); have HS2 : Hid (w.heap.size + 2 ≤ w2.heap.size) := (by show _ ≤ _; have := hb.size; have := HS1.out; omega); clear hb)
    | (refine st_agg rfl 117 _ _ rfl w2.heap.size (plc (none, some g)) rfl rfl 117 (plc (none, none)) (heap_alloc_last w2 _) pl_size rfl (plc_one _) ?_; intro w3 h3 k3; have HP3 := Lib.hid h3; have hbb : Below w2.heap.size w2 w3 := (Below.newly' w2 _).trans (k3.below (Nat.le_refl _)); have HX3 := Lib.hid ((hbb.block _ (by have := HS2.out; omega)).trans HX2.out); have HY3 := Lib.hid ((hbb.block _ (by have := HS2.out; omega)).trans HY2.out); have HB3 := Lib.hid (HB2.out.trans (hbb.mono HB2.out.size)); have HS3 : Hid (w2.heap.size < w3.heap.size) := (Array.getElem?_eq_some_iff.1 h3).1; obtain ⟨X, hX⟩ : ∃ X, X = w2.heap.size := ⟨_, rfl⟩; rw [← hX] at HP3 HS3 ⊢; have HXX : Hid (w.heap.size + 2 ≤ X) := (by show _ ≤ _; have := HS2.out; omega); clear h3 k3 hbb hX))
    have cp3 : w3.cell? ⟨X, 1, none⟩ = some (.pointer (some ⟨g, 0, none⟩)) := cell_in HP3.out rfl
    go_upto_region 8 with fail
    clear cp3 hk1
    have HKS : Hid (∀ V, Below w3.heap.size w3 V → (V.heap[w.heap.size]? = some (.cells #[.int .u32 (bb : Int), .slice va vn vc, .slice none 0 0] 34 (0, 0)) ∧ V.cell? ⟨X, 1, none⟩ = some (.pointer (some ⟨g, 0, none⟩)) ∧ V.heap[g]? = some (.cells cg 34 fr))) := fun V hV =>
      ⟨(hV.block _ (by have := HS3.out; have := HXX.out; omega)).trans HX3.out, cell_in ((hV.block _ HS3.out).trans HP3.out) rfl, (((HB3.out.trans (hV.mono HB3.out.size)).block _ HGL.out).trans HG.out)⟩
    have HW : Hid (Below w3.heap.size w3 w3.drew) := drawn_below w3
    refine wp_region_T (S := (fun V => V.heap[w.heap.size]? = some (.cells #[.int .u32 (bb : Int), .slice va vn vc, .slice none 0 0] 34 (0, 0)) ∧ V.cell? ⟨X, 1, none⟩ = some (.pointer (some ⟨g, 0, none⟩)) ∧ V.heap[g]? = some (.cells cg 34 fr))) [14] (by kernel_rfl) (by exact HKS.out _ HW.out) (fun hHeld => ?_)
    refine wpAnyT_take (i := 0) (oi := ⟨some 56, _, _, _, _, _⟩) (v := ?vg2_0) rfl (by kernel_rfl) (by kernel_rfl) (by kernel_rfl) (by kernel_rfl) (fun _ _ _ h => h) (Or.inl ⟨by rfl, ?hg2_0⟩) (by assumption) ?rg2_0
    case hg2_0 => (intro w hSw; (try dsimp only at hSw); first | (go_simp; done) | (go_simp; with_reducible rfl))
    (try simp only [Act.put, List.setIfInBounds_toArray, List.set_cons_zero, List.set_cons_succ])
    refine wpAnyT_take (i := 1) (oi := ⟨some 57, _, _, _, _, _⟩) (v := _) rfl (by kernel_rfl) (by kernel_rfl) (by kernel_rfl) (by kernel_rfl) (fun _ _ _ h => h) (yieldsIf_arr (by rfl) 31 _ rfl w.heap.size 0 rfl #[.int .u32 (bb : Int), .slice va vn vc] _ (fun w hw => (row_range hw.1)) Tryd.underlying31 rfl (by exact row_size)) (by assumption) ?_
    (try simp only [Act.put, List.setIfInBounds_toArray, List.set_cons_zero, List.set_cons_succ])
    refine wpAnyT_take (i := 2) (oi := ⟨some 58, _, _, _, _, _⟩) (v := ?vg2_2) rfl (by kernel_rfl) (by kernel_rfl) (by kernel_rfl) (by kernel_rfl) (fun _ _ _ h => h) (Or.inl ⟨by rfl, ?hg2_2⟩) (by assumption) ?rg2_2
    case hg2_2 => (intro w hSw; (try dsimp only at hSw); first | (go_simp; done) | (go_simp; with_reducible rfl))
    (try simp only [Act.put, List.setIfInBounds_toArray, List.set_cons_zero, List.set_cons_succ])
    refine wpAnyT_take (i := 3) (oi := ⟨some 59, _, _, _, _, _⟩) (v := ?vg2_3) rfl (by kernel_rfl) (by kernel_rfl) (by kernel_rfl) (by kernel_rfl) (fun _ _ _ h => h) (Or.inl ⟨by rfl, ?hg2_3⟩) (by assumption) ?rg2_3
    case hg2_3 => (intro w hSw; (try dsimp only at hSw); first | (go_simp; done) | (go_simp; with_reducible rfl))
    (try simp only [Act.put, List.setIfInBounds_toArray, List.set_cons_zero, List.set_cons_succ])
    refine wpAnyT_take (i := 4) (oi := ⟨some 60, _, _, _, _, _⟩) (v := ?vg2_4) rfl (by kernel_rfl) (by kernel_rfl) (by kernel_rfl) (by kernel_rfl) (fun _ _ _ h => h) (Or.inl ⟨by rfl, ?hg2_4⟩) (by assumption) ?rg2_4
    case hg2_4 => (intro w hSw; (try dsimp only at hSw); first | (go_simp; done) | (go_simp; with_reducible rfl))
    (try simp only [Act.put, List.setIfInBounds_toArray, List.set_cons_zero, List.set_cons_succ])
    refine wpAnyT_take (i := 5) (oi := ⟨some 61, _, _, _, _, _⟩) (v := ?vg2_5) rfl (by kernel_rfl) (by kernel_rfl) (by kernel_rfl) (by kernel_rfl) (fun _ _ _ h => h) (Or.inl ⟨by rfl, ?hg2_5⟩) (by assumption) ?rg2_5
    case hg2_5 => (intro w hSw; (try dsimp only at hSw); first | (go_simp; done) | (go_simp; with_reducible rfl))
    (try simp only [Act.put, List.setIfInBounds_toArray, List.set_cons_zero, List.set_cons_succ])
    refine wpAnyT_take (i := 6) (oi := ⟨some 62, _, _, _, _, _⟩) (v := _) rfl (by kernel_rfl) (by kernel_rfl) (by kernel_rfl) (by kernel_rfl) (fun _ _ _ h => h) (yieldsIf_load_row (by rfl) 34 _ rfl g rfl cg 34 _ _ (fun w hw => hw.2.2) Tryd.underlying34 rfl (by rw [HSZ.out]; exact nd_size)) (by assumption) ?_
    (try simp only [Act.put, List.setIfInBounds_toArray, List.set_cons_zero, List.set_cons_succ])
    refine wpAnyT_take (i := 7) (oi := ⟨some 63, _, _, _, _, _⟩) (v := ?vg2_7) rfl (by kernel_rfl) (by kernel_rfl) (by kernel_rfl) (by kernel_rfl) (fun _ _ _ h => h) (Or.inl ⟨by rfl, ?hg2_7⟩) (by assumption) ?rg2_7
    case hg2_7 => (intro w hSw; (try dsimp only at hSw); first | (go_simp; done) | (go_simp; with_reducible rfl))
    (try simp only [Act.put, List.setIfInBounds_toArray, List.set_cons_zero, List.set_cons_succ])
    refine wpAnyT_take (i := 8) (oi := ⟨some 64, _, _, _, _, _⟩) (v := ?vg2_8) rfl (by kernel_rfl) (by kernel_rfl) (by kernel_rfl) (by kernel_rfl) (fun _ _ _ h => h) (Or.inl ⟨by rfl, ?hg2_8⟩) (by assumption) ?rg2_8
    case hg2_8 => (intro w hSw; (try dsimp only at hSw); first | (go_simp; done) | (go_simp; with_reducible rfl))
    (try simp only [Act.put, List.setIfInBounds_toArray, List.set_cons_zero, List.set_cons_succ])
    refine wpAnyT_take (i := 9) (oi := ⟨some 65, _, _, _, _, _⟩) (v := ?vg2_9) rfl (by kernel_rfl) (by kernel_rfl) (by kernel_rfl) (by kernel_rfl) (fun _ _ _ h => h) (Or.inl ⟨by rfl, ?hg2_9⟩) (by assumption) ?rg2_9
    case hg2_9 => (intro w hSw; (try dsimp only at hSw); first | (go_simp; done) | (go_simp; with_reducible rfl))
    (try simp only [Act.put, List.setIfInBounds_toArray, List.set_cons_zero, List.set_cons_succ])
    refine wpAnyT_one (i := 10) (o := ⟨some 66, _, _, _, _, _⟩) (by kernel_rfl) rfl (fun K hK => ?_)
    go_simp
    go_at_call 77
    rw [HWR.out]
    refine (HPW.out _ (HB3.out.trans (HW.out.mono HB3.out.size))).mono ?_
    rintro r w4 ⟨c4, rfl, hn4, hb⟩
    have HN4 := Lib.hid hn4
    have HW4 := Lib.hid HW.out.size
    replace HW := Lib.hid (HW.out.trans (hb.mono HW.out.size))
    have HD := Lib.hid (HPLC.out _ w4 _ c4 hn4 HNE.out (HTT.out.below (HB3.out.trans (HW.out.mono HB3.out.size))))
    clear hb hn4
    dsimp only
    refine hK.out _ _ (by exact HKS.out _ HW.out) (fun hHeld => ?_)
    clear hK K
    (try simp only [Act.put, List.setIfInBounds_toArray, List.set_cons_zero, List.set_cons_succ])
    refine wpAnyT_one (i := 11) (o := ⟨some 67, _, _, _, _, _⟩) (by kernel_rfl) rfl (fun K hK => ?_)
    go_simp
    go_at_call 91
    refine HD.out.mono ?_
    rintro r w5 ⟨p5, rfl, hp5, hb⟩
    have HP5 := Lib.hid hp5
    have HW5 := Lib.hid HW.out.size
    replace HW := Lib.hid (HW.out.trans (hb.mono HW.out.size))
    have HWL := Lib.hid HW.out.size
    clear hb hp5
    dsimp only
    refine hK.out _ _ (by exact HKS.out _ HW.out) (fun hHeld => ?_)
    clear hK K
    (try simp only [Act.put, List.setIfInBounds_toArray, List.set_cons_zero, List.set_cons_succ])
    refine wpAnyT_one (i := 12) (o := ⟨some 68, _, _, _, _, _⟩) (by kernel_rfl) rfl (fun K hK => ?_)
    go_simp
    go_at_call 84
    refine (HSET.out _ (HB3.out.trans (HW.out.mono HB3.out.size)) p5).mono ?_
    rintro r w6 ⟨c6, rfl, hr6, hb⟩
    have HR6 := Lib.hid hr6
    replace HW := Lib.hid (HW.out.trans (hb.mono HW.out.size))
    have HB6 := Lib.hid hb
    obtain ⟨b6, a6, n6, m6, rfl⟩ := hr6.parts
    clear hb hr6
    dsimp only
    refine hK.out _ _ (by exact HKS.out _ HW.out) (fun hHeld => ?_)
    clear hK K
    (try simp only [Act.put, List.setIfInBounds_toArray, List.set_cons_zero, List.set_cons_succ])
    refine wpAnyT_take (i := 13) (oi := ⟨some 69, _, _, _, _, _⟩) (v := ?vg2_13) rfl (by kernel_rfl) (by kernel_rfl) (by kernel_rfl) (by kernel_rfl) (fun _ _ _ h => h) (Or.inl ⟨by rfl, ?hg2_13⟩) (by assumption) ?rg2_13
    case hg2_13 => (intro w hSw; (try dsimp only at hSw); first | (go_simp; done) | (go_simp; with_reducible rfl))
    (try simp only [Act.put, List.setIfInBounds_toArray, List.set_cons_zero, List.set_cons_succ])
    refine wpAnyT_last (i := 14) (o := ⟨none, _, _, _, _, _⟩) (by kernel_rfl) (by decide) rfl (fun K hK => ?_)
    rw [if_pos (by rfl)]
    refine st_agg_wp 34 _ _ rfl (w.heap.size + 1) #[.int .u32 (b6 : Int), .slice a6 n6 m6, .slice none 0 0] rfl rfl 34 #[.int .u32 0, .slice none 0 0, .slice none 0 0] ((HW.out.block _ (by have := HS3.out; have := HXX.out; omega)).trans HY3.out) nd_size rfl (by simp [Value.oneCell']) ?_
    intro w7 h7 k7
    refine hK.out _ _ ?_
    clear hK K
    (try simp only [Act.put, List.setIfInBounds_toArray, List.set_cons_zero, List.set_cons_succ])
    refine wpAnyT_done (by kernel_rfl) ?_ _
    clear hHeld
    go_wp2_with fail
    refine bodyPost_ret (results_cell_row rfl _ _ (w.heap.size + 1) 34 _ (0, 0) _ rfl h7 Tryd.underlying34 rfl nd_size) rfl ⟨_, rfl, ?_, (HB3.out.trans (HW.out.mono HB3.out.size)).trans (k7.below (by omega))⟩
    have hs1 := HS3.out
    have hs2 := HXX.out
    have hs3 := HWL.out
    have hs4 := HW5.out
    have hs5 := HW4.out
    have hnode := NodeAt.of_row (hs := hs) (f := f) (L := delE L k) (S := fun g => (S g ∧ g < w.heap.size) ∨ w.heap.size + 2 ≤ g) (HR6.out.weak fun g hg => .inr (by omega)) (fun j hj => by
      rw [← HLVF.out]
      unfold setG
      by_cases hji : j = i
      · subst hji
        rw [if_pos rfl, HCE.out]
        exact (HP5.out.later HB6.out).weak fun g hg => by
          rcases hg with (hg | hg) | hg
          · exact .inl hg
          · exact .inr (by omega)
          · exact .inr (by omega)
      · rw [if_neg hji, HOTH.out j hji]
        exact ((HPL.out j hj).old.later (HB3.out.trans (HW.out.mono HB3.out.size))).weak fun g hg => .inl hg)
    obtain ⟨b7, v7, e7, hnode⟩ := hnode
    simp only [Array.mk.injEq, List.cons.injEq] at e7
    obtain ⟨rfl, rfl, _⟩ := e7
    exact (hnode.kp (Kp.only k7 (fun h => by omega))).weak fun g hg => by
      rcases hg with hg | hg
      · exact .inl hg.1
      · exact .inr (by omega)
theorem hm_without (hs : ByteArray → Nat) (hlt : ∀ k, hs k < 18446744073709551616) : ∀ f, f ≤ 13 → WithoutOk hs f
  | 0, _ => hm_without_0 hs
  | f + 1, hf => hm_without_s hs hlt f (by omega) (hm_without hs hlt f (by omega))
end Go.Proofs.YtnnlfgfgfegjkaaDoor
