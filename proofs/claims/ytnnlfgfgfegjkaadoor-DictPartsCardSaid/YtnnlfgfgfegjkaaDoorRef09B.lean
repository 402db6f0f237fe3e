/- Layer 9: the document's own Cut and Set. (written by tools/gen09/ref09b.py) -/
import Derived.Test.YtnnlfgfgfegjkaaDoorRef09
namespace Go.Proofs.YtnnlfgfgfegjkaaDoor
open Go.RowKit
set_option maxRecDepth 1000000
set_option linter.unusedSimpArgs false

theorem new_below9 {w w1 : World} {c : Array Value} {T : TypeId} (h : w.alloc (.cells c T) = w1) : Below w.heap.size w w1 ∧ w1.heap[w.heap.size]? = some (.cells c T (0, 0)) ∧ w1.heap.size = w.heap.size + 1 := by
  subst h
  exact ⟨Below.newly' _ _, heap_alloc_last _ _, by simp⟩
/-- What Cut and Set keep of their variables: m's, the result's, out's. -/
structure RSt (w : World) (X R O : Nat) (mc rc oc : Array Value) (V : World) : Prop where
  bel : Below w.heap.size w V
  hX : V.heap[X]? = some (.cells mc 40 (0, 0))
  hR : V.heap[R]? = some (.cells rc 40 (0, 0))
  hO : V.heap[O]? = some (.cells oc 40 (0, 0))
section
variable {w V V' : World} {X R O : Nat} {mc rc oc : Array Value}
theorem RSt.later (h : RSt w X R O mc rc oc V) (hb : Below V.heap.size V V') : RSt w X R O mc rc oc V' :=
  ⟨h.bel.trans (hb.mono h.bel.size), (hb.block _ (Array.getElem?_eq_some_iff.1 h.hX).1).trans h.hX, (hb.block _ (Array.getElem?_eq_some_iff.1 h.hR).1).trans h.hR, (hb.block _ (Array.getElem?_eq_some_iff.1 h.hO).1).trans h.hO⟩
theorem RSt.strs {v : Value} {ks : List ByteArray} (h : RSt w X R O mc rc oc V) (hs : Strs w.heap.size v ks V) (hg : V.grownBy V' v.ownBlock) : RSt w X R O mc rc oc V' :=
  ⟨h.bel.trans (strs_belowB hs hg (Nat.le_refl _)), strs_row hs hg h.hX (by decide), strs_row hs hg h.hR (by decide), strs_row hs hg h.hO (by decide)⟩
theorem RSt.owns {v : Value} {l : List Int} (h : RSt w X R O mc rc oc V) (hs : Owns w.heap.size v l V) (hg : V.grownBy V' v.ownBlock) : RSt w X R O mc rc oc V' :=
  ⟨h.bel.trans (owns_belowB hs hg (Nat.le_refl _)), owns_row hs hg h.hX (by decide), owns_row hs hg h.hR (by decide), owns_row hs hg h.hO (by decide)⟩
/-- out is written. -/
theorem RSt.wrote {cs : Array Value} (h : RSt w X R O mc rc oc V) (k : Only O V V') (h' : V'.heap[O]? = some (.cells cs 40 (0, 0))) (hd : X ≠ O ∧ R ≠ O ∧ w.heap.size ≤ O) : RSt w X R O mc rc cs V' :=
  ⟨h.bel.trans (k.below hd.2.2), k.other h.hX hd.1, k.other h.hR hd.2.1, h'⟩
end
/-- What Cut's loop has made of the first of the keys. -/
theorem del_take {L : List Ent} (k : ByteArray) {j : Nat} (hj : j < L.length) : delE (L.take (j + 1)) k = delE (L.take j) k ++ (if L[j].1 = k then [] else [L[j]]) := by
  rw [List.take_succ_eq_append_getElem hj]
  unfold delE
  rw [List.filter_append]
  congr 1
  by_cases h : L[j].1 = k
  · simp [h]
  · simp [h]
set_option maxHeartbeats 4000000 in
theorem ref_Cut9 (w : World) (c : Array Value) (L : List Ent) (k : ByteArray) (h : RefM w c L) (hn : L.length ≤ 100000) :
    Calls Tryd.prog 67 #[.agg c, .string k] w fun e w' => ∃ c', e = .returned (.agg c') ∧ RefM w' c' (delE L k) ∧ Below w.heap.size w w' := by
  obtain ⟨kv0, xv0, rfl, hk, hx⟩ := h
  have HK := Lib.hid hk
  have HX := Lib.hid hx
  obtain ⟨a1, c1, rfl, _⟩ := hk.shape
  obtain ⟨a2, c2, rfl, _⟩ := hx.shape
  rw [keysE_len, valsE_len] at *
  obtain ⟨N, hN⟩ : ∃ N, N = L.length := ⟨_, rfl⟩
  rw [← hN]
  have HN := Lib.hid hN
  have hn6 : (N : Int) ≤ 100000 := by omega
  obtain ⟨W0, hW0⟩ : ∃ W0, ((w.alloc (.cells #[.slice a1 N c1, .slice a2 N c2] 40)).alloc (.cells #[.slice none 0 0, .slice none 0 0] 40)).alloc (.cells #[.slice none 0 0, .slice none 0 0] 40) = W0 := ⟨_, rfl⟩
  obtain ⟨hb0, hx0, hy0, hz0, hs0⟩ := three_newG hW0
  have HRS0 : Hid (RSt w w.heap.size (w.heap.size + 1) (w.heap.size + 1 + 1) #[.slice a1 N c1, .slice a2 N c2] #[.slice none 0 0, .slice none 0 0] #[.slice none 0 0, .slice none 0 0] W0) := ⟨hb0, hx0, hy0, hz0⟩
  have HKV0 : Hid (Strs w.heap.size (.slice none 0 0) (keysE (delE (L.take 0) k)) W0) := Strs.nil (by omega)
  have HXV0 : Hid (Owns w.heap.size (.slice none 0 0) (valsE (delE (L.take 0) k)) W0) := Owns.nil (by omega)
  have ca0 : W0.cell? ⟨w.heap.size, 0, none⟩ = some (.slice a1 N c1) := cell_in hx0 rfl
  clear hb0 hx0 hy0 hz0 hs0 hk hx hN hn
  go_enter Tryd.func67, Tryd.ntmps67
  go_wp2_with fail
  clear hW0 ca0
  go_loopw [11] (fun i wl => ∃ (j : Nat) (kv xv : Value), i = .int .i64 (j : Int) ∧ j ≤ N ∧ Hid (RSt w w.heap.size (w.heap.size + 1) (w.heap.size + 1 + 1) #[.slice a1 N c1, .slice a2 N c2] #[.slice none 0 0, .slice none 0 0] #[kv, xv] wl) ∧ Hid (Strs w.heap.size kv (keysE (delE (L.take j) k)) wl) ∧ Hid (Owns w.heap.size xv (valsE (delE (L.take j) k)) wl)) (fun i _ => N - (intOf i).toNat)
  case atStart => exact ⟨0, _, _, rfl, Nat.zero_le _, HRS0, HKV0, HXV0⟩
  case round =>
    clear HRS0 HKV0 HXV0
    obtain ⟨j, kv, xv, rfl, hj, HRS, HKV, HXV⟩ := hrel
    by_cases hlt : j < N
    · have hlt' : (j : Int) < N := by omega
      have hjL : j < L.length := by rw [← HN.out]; exact hlt
      obtain ⟨g1, d1, e1, hc1⟩ := (HK.out.later HRS.out.bel).cell (j := j) (by rw [keysE_len]; exact hjL)
      obtain ⟨g2, d2, e2, hc2⟩ := (HX.out.later HRS.out.bel).cell (j := j) (by rw [valsE_len]; exact hjL)
      simp only [Value.slice.injEq] at e1 e2
      obtain ⟨rfl, hdr, rfl⟩ := e1
      obtain ⟨rfl, hdr2, rfl⟩ := e2
      clear hdr hdr2
      have hkj : (keysE L)[j]'(by rw [keysE_len]; exact hjL) = L[j].1 := by unfold keysE; rw [List.getElem_map]
      have hxj : (valsE L)[j]'(by rw [valsE_len]; exact hjL) = L[j].2 := by unfold valsE; rw [List.getElem_map]
      rw [hkj] at hc1
      rw [hxj] at hc2
      have hdt := del_take k hjL
      have hdl : (delE (L.take j) k).length ≤ 100000 := by
        have h1 : (delE (L.take j) k).length ≤ (L.take j).length := List.length_filter_le _ _
        rw [List.length_take] at h1
        omega
      obtain ⟨D, hD⟩ : ∃ D, D = delE (L.take j) k := ⟨_, rfl⟩
      obtain ⟨D', hD'⟩ : ∃ D', D' = delE (L.take (j + 1)) k := ⟨_, rfl⟩
      rw [← hD] at HKV HXV hdt hdl
      rw [← hD'] at hdt
      obtain ⟨⟨ky, xy⟩, hky⟩ : ∃ e, e = L[j] := ⟨_, rfl⟩
      rw [← hky] at hc1 hc2 hdt
      simp only at hc1 hc2 hdt
      have HLT := Lib.hid hlt
      by_cases hke : ky = k
      · have hqb : (ky.toList == k.toList) = true := by rw [hke]; simp
        rw [if_pos hke, List.append_nil] at hdt
        subst hdt
        have HD := Lib.hid hD'
        clear hke hD hD' hky hkj hxj hjL hc2 hdl
        have cx0 : wr.cell? ⟨w.heap.size, 0, none⟩ = some (.slice (some ⟨g1, 0, none⟩) N c1) := cell_in HRS.out.hX rfl
        go_wp2_with fail
        go_roundw
        case rel => exact ⟨j + 1, kv, xv, by simp, by have := HLT.out; omega, HRS, by rw [← HD.out]; exact HKV, by rw [← HD.out]; exact HXV⟩
        case measure => have := HLT.out; simp [intOf]; omega
      · have hqb : (ky.toList == k.toList) = false := beq_eq_false_iff_ne.2 fun h => hke (kb_inj (by rw [ByteArray.toList_eq, ByteArray.toList_eq] at h; exact h))
        rw [if_neg hke] at hdt
        have HLEN : Hid ((keysE D).length ≤ 100000 ∧ (valsE D).length ≤ 100000) := by
          show _ ∧ _
          rw [keysE_len, valsE_len]
          exact ⟨hdl, hdl⟩
        have HKN : Hid (∀ v V, Strs w.heap.size v (keysE D ++ [ky]) V → Hid (Strs w.heap.size v (keysE (delE (L.take (j + 1)) k)) V)) := fun v V h => by
          show Strs _ _ _ _
          rw [← hD', hdt, show keysE (D ++ [(ky, xy)]) = keysE D ++ [ky] by simp [keysE]]
          exact h
        have HXN : Hid (∀ v V, Owns w.heap.size v (valsE D ++ [xy]) V → Hid (Owns w.heap.size v (valsE (delE (L.take (j + 1)) k)) V)) := fun v V h => by
          show Owns _ _ _ _
          rw [← hD', hdt, show valsE (D ++ [(ky, xy)]) = valsE D ++ [xy] by simp [valsE]]
          exact h
        have HEL : Hid (∀ V, Below w.heap.size w V → V.cell? ⟨g2, j, none⟩ = some (.int .i64 xy)) := fun V hV => by
          obtain ⟨g', d', e', h'⟩ := (HX.out.later hV).cell (j := j) (by rw [valsE_len]; exact hjL)
          simp only [Value.slice.injEq, Option.some.injEq, Addr.mk.injEq] at e'
          rw [e'.1.1, h', hxj, ← hky]
        have HKS : Hid (∀ V, RSt w w.heap.size (w.heap.size + 1) (w.heap.size + 1 + 1) #[.slice (some ⟨g1, 0, none⟩) N c1, .slice (some ⟨g2, 0, none⟩) N c2] #[.slice none 0 0, .slice none 0 0] #[kv, xv] V → V.cell? ⟨w.heap.size + 1 + 1, 0, none⟩ = some kv ∧ V.cell? ⟨w.heap.size + 1 + 1, 1, none⟩ = some xv ∧ V.cell? ⟨w.heap.size, 1, none⟩ = some (.slice (some ⟨g2, 0, none⟩) N c2) ∧ V.cell? ⟨g2, j, none⟩ = some (.int .i64 xy)) := fun V h =>
          ⟨cell_in h.hO rfl, cell_in h.hO rfl, cell_in h.hX rfl, HEL.out V h.bel⟩
        clear hke hdt hD hD' hky hkj hxj hjL hdl hc2
        have cx0 : wr.cell? ⟨w.heap.size, 0, none⟩ = some (.slice (some ⟨g1, 0, none⟩) N c1) := cell_in HRS.out.hX rfl
        go_upto_region 6 with fail
        have hbd := drawn_below wr
        replace HRS := Lib.hid (HRS.out.later hbd)
        replace HKV := Lib.hid (HKV.out.later hbd)
        replace HXV := Lib.hid (HXV.out.later hbd)
        obtain ⟨V0, hV0⟩ : ∃ V0, V0 = wr.drew := ⟨_, rfl⟩
        rw [← hV0] at HRS HKV HXV
        clear hbd cx0 hc1
        refine wp_region_T (S := (fun V => V.cell? ⟨w.heap.size + 1 + 1, 0, none⟩ = some kv ∧ V.cell? ⟨w.heap.size + 1 + 1, 1, none⟩ = some xv ∧ V.cell? ⟨w.heap.size, 1, none⟩ = some (.slice (some ⟨g2, 0, none⟩) N c2) ∧ V.cell? ⟨g2, j, none⟩ = some (.int .i64 xy))) [15, 16, 17] (by kernel_rfl) (by rw [← hV0]; exact HKS.out _ HRS.out) (fun hHeld => ?_)
        rw [← hV0] at hHeld ⊢
        clear hV0
        refine wpAnyT_take (i := 0) (oi := ⟨some 19, _, _, _, _, _⟩) (v := ?vg1_1_0) rfl (by kernel_rfl) (by kernel_rfl) (by kernel_rfl) (by kernel_rfl) (fun _ _ _ h => h) (Or.inl ⟨by rfl, ?hg1_1_0⟩) (by assumption) ?rg1_1_0
        case hg1_1_0 => (intro w hSw; (try dsimp only at hSw); first | (go_simp; done) | (go_simp; with_reducible rfl))
        (try simp only [Act.put, List.setIfInBounds_toArray, List.set_cons_zero, List.set_cons_succ])
        refine wpAnyT_take (i := 1) (oi := ⟨some 20, _, _, _, _, _⟩) (v := ?vg1_2_1) rfl (by kernel_rfl) (by kernel_rfl) (by kernel_rfl) (by kernel_rfl) (fun _ _ _ h => h) (Or.inl ⟨by rfl, ?hg1_2_1⟩) (by assumption) ?rg1_2_1
        case hg1_2_1 => (intro w hSw; (try dsimp only at hSw); first | (go_simp; done) | (go_simp; with_reducible rfl))
        (try simp only [Act.put, List.setIfInBounds_toArray, List.set_cons_zero, List.set_cons_succ])
        refine wpAnyT_take (i := 2) (oi := ⟨some 21, _, _, _, _, _⟩) (v := ?vg1_3_2) rfl (by kernel_rfl) (by kernel_rfl) (by kernel_rfl) (by kernel_rfl) (fun _ _ _ h => h) (Or.inl ⟨by rfl, ?hg1_3_2⟩) (by assumption) ?rg1_3_2
        case hg1_3_2 => (intro w hSw; (try dsimp only at hSw); first | (go_simp; done) | (go_simp; with_reducible rfl))
        (try simp only [Act.put, List.setIfInBounds_toArray, List.set_cons_zero, List.set_cons_succ])
        refine wpAnyT_take (i := 5) (oi := ⟨some 24, _, _, _, _, _⟩) (v := ?vg1_4_5) rfl (by kernel_rfl) (by kernel_rfl) (by kernel_rfl) (by kernel_rfl) (fun _ _ _ h => h) (Or.inl ⟨by rfl, ?hg1_4_5⟩) (by assumption) ?rg1_4_5
        case hg1_4_5 => (intro w hSw; (try dsimp only at hSw); first | (go_simp; done) | (go_simp; with_reducible rfl))
        (try simp only [Act.put, List.setIfInBounds_toArray, List.set_cons_zero, List.set_cons_succ])
        refine wpAnyT_take (i := 6) (oi := ⟨some 25, _, _, _, _, _⟩) (v := ?vg1_5_6) rfl (by kernel_rfl) (by kernel_rfl) (by kernel_rfl) (by kernel_rfl) (fun _ _ _ h => h) (Or.inl ⟨by rfl, ?hg1_5_6⟩) (by assumption) ?rg1_5_6
        case hg1_5_6 => (intro w hSw; (try dsimp only at hSw); first | (go_simp; done) | (go_simp; with_reducible rfl))
        (try simp only [Act.put, List.setIfInBounds_toArray, List.set_cons_zero, List.set_cons_succ])
        refine wpAnyT_take (i := 7) (oi := ⟨some 26, _, _, _, _, _⟩) (v := ?vg1_6_7) rfl (by kernel_rfl) (by kernel_rfl) (by kernel_rfl) (by kernel_rfl) (fun _ _ _ h => h) (Or.inl ⟨by rfl, ?hg1_6_7⟩) (by assumption) ?rg1_6_7
        case hg1_6_7 => (intro w hSw; (try dsimp only at hSw); first | (go_simp; done) | (go_simp; with_reducible rfl))
        (try simp only [Act.put, List.setIfInBounds_toArray, List.set_cons_zero, List.set_cons_succ])
        refine wpAnyT_take (i := 8) (oi := ⟨some 27, _, _, _, _, _⟩) (v := ?vg1_7_8) rfl (by kernel_rfl) (by kernel_rfl) (by kernel_rfl) (by kernel_rfl) (fun _ _ _ h => h) (Or.inl ⟨by rfl, ?hg1_7_8⟩) (by assumption) ?rg1_7_8
        case hg1_7_8 => (intro w hSw; (try dsimp only at hSw); first | (go_simp; done) | (go_simp; with_reducible rfl))
        (try simp only [Act.put, List.setIfInBounds_toArray, List.set_cons_zero, List.set_cons_succ])
        refine wpAnyT_take (i := 9) (oi := ⟨some 28, _, _, _, _, _⟩) (v := ?vg1_8_9) rfl (by kernel_rfl) (by kernel_rfl) (by kernel_rfl) (by kernel_rfl) (fun _ _ _ h => h) (Or.inl ⟨by rfl, ?hg1_8_9⟩) (by assumption) ?rg1_8_9
        case hg1_8_9 => (intro w hSw; (try dsimp only at hSw); first | (go_simp; done) | (go_simp; with_reducible rfl))
        (try simp only [Act.put, List.setIfInBounds_toArray, List.set_cons_zero, List.set_cons_succ])
        refine wpAnyT_take (i := 10) (oi := ⟨some 29, _, _, _, _, _⟩) (v := ?vg1_9_10) rfl (by kernel_rfl) (by kernel_rfl) (by kernel_rfl) (by kernel_rfl) (fun _ _ _ h => h) (Or.inl ⟨by rfl, ?hg1_9_10⟩) (by assumption) ?rg1_9_10
        case hg1_9_10 => (intro w hSw; (try dsimp only at hSw); first | (go_simp; done) | (go_simp; with_reducible rfl))
        (try simp only [Act.put, List.setIfInBounds_toArray, List.set_cons_zero, List.set_cons_succ])
        refine wpAnyT_take (i := 11) (oi := ⟨some 30, _, _, _, _, _⟩) (v := ?vg1_10_11) rfl (by kernel_rfl) (by kernel_rfl) (by kernel_rfl) (by kernel_rfl) (fun _ _ _ h => h) (Or.inl ⟨by rfl, ?hg1_10_11⟩) (by assumption) ?rg1_10_11
        case hg1_10_11 => (intro w hSw; (try dsimp only at hSw); first | (go_simp; done) | (go_simp; with_reducible rfl))
        (try simp only [Act.put, List.setIfInBounds_toArray, List.set_cons_zero, List.set_cons_succ])
        refine wpAnyT_ready (rs := [3, 12]) (by kernel_rfl) (by simp) ?_
        refine AllT.cons (i := 3) (o := ⟨some 22, _, _, _, _, _⟩) rfl (fun K hK => ?_) (AllT.cons (i := 12) (o := ⟨some 31, _, _, _, _, _⟩) rfl (fun K hK => ?_) AllT.nil)
        · go_simp
          have hb := Below.newly' V0 (.cells #[.string ky] 9)
          have hl3 := heap_alloc_last V0 (.cells #[.string ky] 9)
          obtain ⟨g3, hg3⟩ : ∃ g3, g3 = V0.heap.size := ⟨_, rfl⟩
          rw [← hg3] at hl3
          replace HRS := Lib.hid (HRS.out.later hb)
          replace HKV := Lib.hid (HKV.out.later hb)
          replace HXV := Lib.hid (HXV.out.later hb)
          have HL3 := Lib.hid hl3
          rw [← hg3]
          obtain ⟨V1, hV1⟩ : ∃ V', V' = V0.alloc (.cells #[.string ky] 9) := ⟨_, rfl⟩
          rw [← hV1] at HRS HKV HXV HL3
          rw [← hV1]
          clear hb hl3 hg3 hV1
          refine hK.out _ _ (by exact HKS.out _ HRS.out) (fun hHeld => ?_)
          clear hK K
          (try simp only [Act.put, List.setIfInBounds_toArray, List.set_cons_zero, List.set_cons_succ])
          refine wpAnyT_ready (rs := [4, 12]) (by kernel_rfl) (by simp) ?_
          refine AllT.cons (i := 4) (o := ⟨some 23, _, _, _, _, _⟩) rfl (fun K hK => ?_) (AllT.cons (i := 12) (o := ⟨some 31, _, _, _, _, _⟩) rfl (fun K hK => ?_) AllT.nil)
          · rw [if_pos (by rfl)]
            refine strs_wp _ _ rfl rfl HKV.out rfl (cutS_lit HL3.out) (by have := HLEN.out; simp; omega) ?_
            intro kv2 V2 hk2 hg2
            replace HRS := Lib.hid (HRS.out.strs HKV.out hg2)
            replace HXV := Lib.hid (strs_owns HKV.out hg2 HXV.out)
            replace HKV := Lib.hid hk2
            clear HL3
            clear hk2 hg2
            refine hK.out _ _ (by exact HKS.out _ HRS.out) (fun hHeld => ?_)
            clear hK K
            (try simp only [Act.put, List.setIfInBounds_toArray, List.set_cons_zero, List.set_cons_succ])
            refine wpAnyT_take (i := 14) (oi := ⟨some 33, _, _, _, _, _⟩) (v := ?vg1_11_14) rfl (by kernel_rfl) (by kernel_rfl) (by kernel_rfl) (by kernel_rfl) (fun _ _ _ h => h) (Or.inl ⟨by rfl, ?hg1_11_14⟩) (by assumption) ?rg1_11_14
            case hg1_11_14 => (intro w hSw; (try dsimp only at hSw); first | (go_simp; done) | (go_simp; with_reducible rfl))
            (try simp only [Act.put, List.setIfInBounds_toArray, List.set_cons_zero, List.set_cons_succ])
            refine wpAnyT_one (i := 12) (o := ⟨some 31, _, _, _, _, _⟩) (by kernel_rfl) rfl (fun K hK => ?_)
            go_simp
            have hb := Below.newly' V2 (.cells #[.int .i64 xy] 3)
            have hl12 := heap_alloc_last V2 (.cells #[.int .i64 xy] 3)
            obtain ⟨g12, hg12⟩ : ∃ g12, g12 = V2.heap.size := ⟨_, rfl⟩
            rw [← hg12] at hl12
            replace HRS := Lib.hid (HRS.out.later hb)
            replace HKV := Lib.hid (HKV.out.later hb)
            replace HXV := Lib.hid (HXV.out.later hb)
            have HL12 := Lib.hid hl12
            rw [← hg12]
            obtain ⟨V3, hV3⟩ : ∃ V', V' = V2.alloc (.cells #[.int .i64 xy] 3) := ⟨_, rfl⟩
            rw [← hV3] at HRS HKV HXV HL12
            rw [← hV3]
            clear hb hl12 hg12 hV3
            refine hK.out _ _ (by exact HKS.out _ HRS.out) (fun hHeld => ?_)
            clear hK K
            (try simp only [Act.put, List.setIfInBounds_toArray, List.set_cons_zero, List.set_cons_succ])
            refine wpAnyT_one (i := 13) (o := ⟨some 32, _, _, _, _, _⟩) (by kernel_rfl) rfl (fun K hK => ?_)
            rw [if_pos (by rfl)]
            refine ownsN_wp _ _ rfl rfl HXV.out rfl (cutN_lit HL12.out) (by have := HLEN.out; simp; omega) ?_
            intro xv2 V4 hk2 hg2
            replace HRS := Lib.hid (HRS.out.owns HXV.out hg2)
            replace HKV := Lib.hid (owns_strs HXV.out hg2 HKV.out)
            replace HXV := Lib.hid hk2
            clear HL12
            clear hk2 hg2
            refine hK.out _ _ (by exact HKS.out _ HRS.out) (fun hHeld => ?_)
            clear hK K
            (try simp only [Act.put, List.setIfInBounds_toArray, List.set_cons_zero, List.set_cons_succ])
            refine wpAnyT_last (i := 15) (o := ⟨none, _, _, _, _, _⟩) (by kernel_rfl) (by decide) rfl (fun K hK => ?_)
            rw [if_pos (by rfl)]
            refine st_cell_wp 37 _ _ rfl (w.heap.size + 1 + 1) 0 kv2 rfl rfl HKV.out.lsS.one 40 _ HRS.out.hO (by simp) strs_size ?_
            intro V5 h5 k5
            replace HKV := Lib.hid (HKV.out.only k5 HRS.out.hO (by decide))
            replace HXV := Lib.hid (HXV.out.grown k5.by_ (.inr (fun e => owns_not HXV.out HRS.out.hO (by decide) e.symm)))
            replace HRS := Lib.hid (HRS.out.wrote k5 h5 (by refine ⟨?_, ?_, ?_⟩ <;> omega))
            clear h5 k5
            refine hK.out _ _ ?_
            clear hK K
            (try simp only [Act.put, List.setIfInBounds_toArray, List.set_cons_zero, List.set_cons_succ])
            refine wpAnyT_last (i := 16) (o := ⟨some 34, _, _, _, _, _⟩) (by kernel_rfl) (by decide) rfl (fun K hK => ?_)
            go_simp
            refine hK.out _ _ ?_
            clear hK K
            (try simp only [Act.put, List.setIfInBounds_toArray, List.set_cons_zero, List.set_cons_succ])
            refine wpAnyT_last (i := 17) (o := ⟨none, _, _, _, _, _⟩) (by kernel_rfl) (by decide) rfl (fun K hK => ?_)
            rw [if_pos (by rfl)]
            refine st_cell_wp 38 _ _ rfl (w.heap.size + 1 + 1) 1 xv2 rfl rfl HXV.out.lsI.one 40 _ HRS.out.hO (by simp) ints_size ?_
            intro V6 h6 k6
            replace HKV := Lib.hid (HKV.out.only k6 HRS.out.hO (by decide))
            replace HXV := Lib.hid (HXV.out.grown k6.by_ (.inr (fun e => owns_not HXV.out HRS.out.hO (by decide) e.symm)))
            replace HRS := Lib.hid (HRS.out.wrote k6 h6 (by refine ⟨?_, ?_, ?_⟩ <;> omega))
            clear h6 k6
            refine hK.out _ _ ?_
            clear hK K
            (try simp only [Act.put, List.setIfInBounds_toArray, List.set_cons_zero, List.set_cons_succ])
            refine wpAnyT_done (by kernel_rfl) ?_ _
            go_wp2_with fail
            go_roundw
            case rel => exact ⟨j + 1, kv2, xv2, by simp, by have := HLT.out; omega, HRS, HKN.out kv2 V6 HKV.out, HXN.out xv2 V6 HXV.out⟩
            case measure => have := HLT.out; simp [intOf]; omega
          · go_simp
            have hb := Below.newly' V1 (.cells #[.int .i64 xy] 3)
            have hl12 := heap_alloc_last V1 (.cells #[.int .i64 xy] 3)
            obtain ⟨g12, hg12⟩ : ∃ g12, g12 = V1.heap.size := ⟨_, rfl⟩
            rw [← hg12] at hl12
            replace HL3 := Lib.hid ((hb.block _ (Array.getElem?_eq_some_iff.1 HL3.out).1).trans HL3.out)
            replace HRS := Lib.hid (HRS.out.later hb)
            replace HKV := Lib.hid (HKV.out.later hb)
            replace HXV := Lib.hid (HXV.out.later hb)
            have HL12 := Lib.hid hl12
            rw [← hg12]
            obtain ⟨V2, hV2⟩ : ∃ V', V' = V1.alloc (.cells #[.int .i64 xy] 3) := ⟨_, rfl⟩
            rw [← hV2] at HRS HKV HXV HL12 HL3
            rw [← hV2]
            clear hb hl12 hg12 hV2
            refine hK.out _ _ (by exact HKS.out _ HRS.out) (fun hHeld => ?_)
            clear hK K
            (try simp only [Act.put, List.setIfInBounds_toArray, List.set_cons_zero, List.set_cons_succ])
            refine wpAnyT_one (i := 4) (o := ⟨some 23, _, _, _, _, _⟩) (by kernel_rfl) rfl (fun K hK => ?_)
            rw [if_pos (by rfl)]
            refine strs_wp _ _ rfl rfl HKV.out rfl (cutS_lit HL3.out) (by have := HLEN.out; simp; omega) ?_
            intro kv2 V3 hk2 hg2
            replace HRS := Lib.hid (HRS.out.strs HKV.out hg2)
            replace HXV := Lib.hid (strs_owns HKV.out hg2 HXV.out)
            replace HL12 := Lib.hid (strs_row HKV.out hg2 HL12.out (by decide))
            replace HKV := Lib.hid hk2
            clear HL3
            clear hk2 hg2
            refine hK.out _ _ (by exact HKS.out _ HRS.out) (fun hHeld => ?_)
            clear hK K
            (try simp only [Act.put, List.setIfInBounds_toArray, List.set_cons_zero, List.set_cons_succ])
            refine wpAnyT_take (i := 14) (oi := ⟨some 33, _, _, _, _, _⟩) (v := ?vg1_12_14) rfl (by kernel_rfl) (by kernel_rfl) (by kernel_rfl) (by kernel_rfl) (fun _ _ _ h => h) (Or.inl ⟨by rfl, ?hg1_12_14⟩) (by assumption) ?rg1_12_14
            case hg1_12_14 => (intro w hSw; (try dsimp only at hSw); first | (go_simp; done) | (go_simp; with_reducible rfl))
            (try simp only [Act.put, List.setIfInBounds_toArray, List.set_cons_zero, List.set_cons_succ])
            refine wpAnyT_one (i := 13) (o := ⟨some 32, _, _, _, _, _⟩) (by kernel_rfl) rfl (fun K hK => ?_)
            rw [if_pos (by rfl)]
            refine ownsN_wp _ _ rfl rfl HXV.out rfl (cutN_lit HL12.out) (by have := HLEN.out; simp; omega) ?_
            intro xv2 V4 hk2 hg2
            replace HRS := Lib.hid (HRS.out.owns HXV.out hg2)
            replace HKV := Lib.hid (owns_strs HXV.out hg2 HKV.out)
            replace HXV := Lib.hid hk2
            clear HL12
            clear hk2 hg2
            refine hK.out _ _ (by exact HKS.out _ HRS.out) (fun hHeld => ?_)
            clear hK K
            (try simp only [Act.put, List.setIfInBounds_toArray, List.set_cons_zero, List.set_cons_succ])
            refine wpAnyT_last (i := 15) (o := ⟨none, _, _, _, _, _⟩) (by kernel_rfl) (by decide) rfl (fun K hK => ?_)
            rw [if_pos (by rfl)]
            refine st_cell_wp 37 _ _ rfl (w.heap.size + 1 + 1) 0 kv2 rfl rfl HKV.out.lsS.one 40 _ HRS.out.hO (by simp) strs_size ?_
            intro V5 h5 k5
            replace HKV := Lib.hid (HKV.out.only k5 HRS.out.hO (by decide))
            replace HXV := Lib.hid (HXV.out.grown k5.by_ (.inr (fun e => owns_not HXV.out HRS.out.hO (by decide) e.symm)))
            replace HRS := Lib.hid (HRS.out.wrote k5 h5 (by refine ⟨?_, ?_, ?_⟩ <;> omega))
            clear h5 k5
            refine hK.out _ _ ?_
            clear hK K
            (try simp only [Act.put, List.setIfInBounds_toArray, List.set_cons_zero, List.set_cons_succ])
            refine wpAnyT_last (i := 16) (o := ⟨some 34, _, _, _, _, _⟩) (by kernel_rfl) (by decide) rfl (fun K hK => ?_)
            go_simp
            refine hK.out _ _ ?_
            clear hK K
            (try simp only [Act.put, List.setIfInBounds_toArray, List.set_cons_zero, List.set_cons_succ])
            refine wpAnyT_last (i := 17) (o := ⟨none, _, _, _, _, _⟩) (by kernel_rfl) (by decide) rfl (fun K hK => ?_)
            rw [if_pos (by rfl)]
            refine st_cell_wp 38 _ _ rfl (w.heap.size + 1 + 1) 1 xv2 rfl rfl HXV.out.lsI.one 40 _ HRS.out.hO (by simp) ints_size ?_
            intro V6 h6 k6
            replace HKV := Lib.hid (HKV.out.only k6 HRS.out.hO (by decide))
            replace HXV := Lib.hid (HXV.out.grown k6.by_ (.inr (fun e => owns_not HXV.out HRS.out.hO (by decide) e.symm)))
            replace HRS := Lib.hid (HRS.out.wrote k6 h6 (by refine ⟨?_, ?_, ?_⟩ <;> omega))
            clear h6 k6
            refine hK.out _ _ ?_
            clear hK K
            (try simp only [Act.put, List.setIfInBounds_toArray, List.set_cons_zero, List.set_cons_succ])
            refine wpAnyT_done (by kernel_rfl) ?_ _
            go_wp2_with fail
            go_roundw
            case rel => exact ⟨j + 1, kv2, xv2, by simp, by have := HLT.out; omega, HRS, HKN.out kv2 V6 HKV.out, HXN.out xv2 V6 HXV.out⟩
            case measure => have := HLT.out; simp [intOf]; omega
        · go_simp
          have hb := Below.newly' V0 (.cells #[.int .i64 xy] 3)
          have hl12 := heap_alloc_last V0 (.cells #[.int .i64 xy] 3)
          obtain ⟨g12, hg12⟩ : ∃ g12, g12 = V0.heap.size := ⟨_, rfl⟩
          rw [← hg12] at hl12
          replace HRS := Lib.hid (HRS.out.later hb)
          replace HKV := Lib.hid (HKV.out.later hb)
          replace HXV := Lib.hid (HXV.out.later hb)
          have HL12 := Lib.hid hl12
          rw [← hg12]
          obtain ⟨V1, hV1⟩ : ∃ V', V' = V0.alloc (.cells #[.int .i64 xy] 3) := ⟨_, rfl⟩
          rw [← hV1] at HRS HKV HXV HL12
          rw [← hV1]
          clear hb hl12 hg12 hV1
          refine hK.out _ _ (by exact HKS.out _ HRS.out) (fun hHeld => ?_)
          clear hK K
          (try simp only [Act.put, List.setIfInBounds_toArray, List.set_cons_zero, List.set_cons_succ])
          refine wpAnyT_one (i := 3) (o := ⟨some 22, _, _, _, _, _⟩) (by kernel_rfl) rfl (fun K hK => ?_)
          go_simp
          have hb := Below.newly' V1 (.cells #[.string ky] 9)
          have hl3 := heap_alloc_last V1 (.cells #[.string ky] 9)
          obtain ⟨g3, hg3⟩ : ∃ g3, g3 = V1.heap.size := ⟨_, rfl⟩
          rw [← hg3] at hl3
          replace HL12 := Lib.hid ((hb.block _ (Array.getElem?_eq_some_iff.1 HL12.out).1).trans HL12.out)
          replace HRS := Lib.hid (HRS.out.later hb)
          replace HKV := Lib.hid (HKV.out.later hb)
          replace HXV := Lib.hid (HXV.out.later hb)
          have HL3 := Lib.hid hl3
          rw [← hg3]
          obtain ⟨V2, hV2⟩ : ∃ V', V' = V1.alloc (.cells #[.string ky] 9) := ⟨_, rfl⟩
          rw [← hV2] at HRS HKV HXV HL3 HL12
          rw [← hV2]
          clear hb hl3 hg3 hV2
          refine hK.out _ _ (by exact HKS.out _ HRS.out) (fun hHeld => ?_)
          clear hK K
          (try simp only [Act.put, List.setIfInBounds_toArray, List.set_cons_zero, List.set_cons_succ])
          refine wpAnyT_one (i := 4) (o := ⟨some 23, _, _, _, _, _⟩) (by kernel_rfl) rfl (fun K hK => ?_)
          rw [if_pos (by rfl)]
          refine strs_wp _ _ rfl rfl HKV.out rfl (cutS_lit HL3.out) (by have := HLEN.out; simp; omega) ?_
          intro kv2 V3 hk2 hg2
          replace HRS := Lib.hid (HRS.out.strs HKV.out hg2)
          replace HXV := Lib.hid (strs_owns HKV.out hg2 HXV.out)
          replace HL12 := Lib.hid (strs_row HKV.out hg2 HL12.out (by decide))
          replace HKV := Lib.hid hk2
          clear HL3
          clear hk2 hg2
          refine hK.out _ _ (by exact HKS.out _ HRS.out) (fun hHeld => ?_)
          clear hK K
          (try simp only [Act.put, List.setIfInBounds_toArray, List.set_cons_zero, List.set_cons_succ])
          refine wpAnyT_take (i := 14) (oi := ⟨some 33, _, _, _, _, _⟩) (v := ?vg1_13_14) rfl (by kernel_rfl) (by kernel_rfl) (by kernel_rfl) (by kernel_rfl) (fun _ _ _ h => h) (Or.inl ⟨by rfl, ?hg1_13_14⟩) (by assumption) ?rg1_13_14
          case hg1_13_14 => (intro w hSw; (try dsimp only at hSw); first | (go_simp; done) | (go_simp; with_reducible rfl))
          (try simp only [Act.put, List.setIfInBounds_toArray, List.set_cons_zero, List.set_cons_succ])
          refine wpAnyT_one (i := 13) (o := ⟨some 32, _, _, _, _, _⟩) (by kernel_rfl) rfl (fun K hK => ?_)
          rw [if_pos (by rfl)]
          refine ownsN_wp _ _ rfl rfl HXV.out rfl (cutN_lit HL12.out) (by have := HLEN.out; simp; omega) ?_
          intro xv2 V4 hk2 hg2
          replace HRS := Lib.hid (HRS.out.owns HXV.out hg2)
          replace HKV := Lib.hid (owns_strs HXV.out hg2 HKV.out)
          replace HXV := Lib.hid hk2
          clear HL12
          clear hk2 hg2
          refine hK.out _ _ (by exact HKS.out _ HRS.out) (fun hHeld => ?_)
          clear hK K
          (try simp only [Act.put, List.setIfInBounds_toArray, List.set_cons_zero, List.set_cons_succ])
          refine wpAnyT_last (i := 15) (o := ⟨none, _, _, _, _, _⟩) (by kernel_rfl) (by decide) rfl (fun K hK => ?_)
          rw [if_pos (by rfl)]
          refine st_cell_wp 37 _ _ rfl (w.heap.size + 1 + 1) 0 kv2 rfl rfl HKV.out.lsS.one 40 _ HRS.out.hO (by simp) strs_size ?_
          intro V5 h5 k5
          replace HKV := Lib.hid (HKV.out.only k5 HRS.out.hO (by decide))
          replace HXV := Lib.hid (HXV.out.grown k5.by_ (.inr (fun e => owns_not HXV.out HRS.out.hO (by decide) e.symm)))
          replace HRS := Lib.hid (HRS.out.wrote k5 h5 (by refine ⟨?_, ?_, ?_⟩ <;> omega))
          clear h5 k5
          refine hK.out _ _ ?_
          clear hK K
          (try simp only [Act.put, List.setIfInBounds_toArray, List.set_cons_zero, List.set_cons_succ])
          refine wpAnyT_last (i := 16) (o := ⟨some 34, _, _, _, _, _⟩) (by kernel_rfl) (by decide) rfl (fun K hK => ?_)
          go_simp
          refine hK.out _ _ ?_
          clear hK K
          (try simp only [Act.put, List.setIfInBounds_toArray, List.set_cons_zero, List.set_cons_succ])
          refine wpAnyT_last (i := 17) (o := ⟨none, _, _, _, _, _⟩) (by kernel_rfl) (by decide) rfl (fun K hK => ?_)
          rw [if_pos (by rfl)]
          refine st_cell_wp 38 _ _ rfl (w.heap.size + 1 + 1) 1 xv2 rfl rfl HXV.out.lsI.one 40 _ HRS.out.hO (by simp) ints_size ?_
          intro V6 h6 k6
          replace HKV := Lib.hid (HKV.out.only k6 HRS.out.hO (by decide))
          replace HXV := Lib.hid (HXV.out.grown k6.by_ (.inr (fun e => owns_not HXV.out HRS.out.hO (by decide) e.symm)))
          replace HRS := Lib.hid (HRS.out.wrote k6 h6 (by refine ⟨?_, ?_, ?_⟩ <;> omega))
          clear h6 k6
          refine hK.out _ _ ?_
          clear hK K
          (try simp only [Act.put, List.setIfInBounds_toArray, List.set_cons_zero, List.set_cons_succ])
          refine wpAnyT_done (by kernel_rfl) ?_ _
          go_wp2_with fail
          go_roundw
          case rel => exact ⟨j + 1, kv2, xv2, by simp, by have := HLT.out; omega, HRS, HKN.out kv2 V6 HKV.out, HXN.out xv2 V6 HXV.out⟩
          case measure => have := HLT.out; simp [intOf]; omega
    · obtain rfl : j = N := by omega
      have hTK : L.take j = L := List.take_of_length_le (by rw [← HN.out]; exact Nat.le_refl _)
      rw [hTK] at HKV HXV
      clear hTK
      have hrm : RefM wr #[kv, xv] (delE L k) := ⟨kv, xv, rfl, HKV.out.lsS, HXV.out.lsI⟩
      have HRM := Lib.hid hrm
      have HONE := Lib.hid hrm.one
      clear hrm
      go_wp2_with (first
        | (refine ld_if (by rfl) 40 _ rfl (w.heap.size + 1 + 1) rfl 40 _ _ _ HRS.out.hO Tryd.underlying40 rfl refm_size ?_)
        | (refine st_agg rfl 40 _ _ rfl (w.heap.size + 1) #[kv, xv] rfl rfl 40 _ HRS.out.hR refm_size rfl HONE.out ?_; intro w6 h6 k6))
      exact bodyPost_ret (results_cell_row rfl _ _ (w.heap.size + 1) 40 _ (0, 0) _ rfl h6 Tryd.underlying40 rfl refm_size) rfl ⟨_, rfl, HRM.out.but k6 HRS.out.hR (by decide) (by decide), HRS.out.bel.trans (k6.below (by omega))⟩
theorem ins_cut {L : List Ent} (hL : Rise L) (k : ByteArray) (x : Int) : insE L k x = (delE L k).take (belE (delE L k) k).length ++ (k, x) :: (delE L k).drop (belE (delE L k) k).length := by
  have hr := hL.del k
  rw [cut_take hr k, cut_drop hr k, at_none (get_del_same L k), List.nil_append]
  have e1 : belE (delE L k) k = belE L k := by
    unfold belE delE
    rw [List.filter_filter]
    refine List.filter_congr fun e _ => ?_
    by_cases h : kb e.1 < kb k
    · simp [h, lt_ne h]
    · simp [h]
  have e2 : abvE (delE L k) k = abvE L k := by
    unfold abvE delE
    rw [List.filter_filter]
    refine List.filter_congr fun e _ => ?_
    by_cases h : kb k < kb e.1
    · simp [h, (lt_ne h).symm]
    · simp [h]
  rw [e1, e2]
  rfl
theorem short_del {L : List Ent} (h : Short L) (k : ByteArray) : Short (delE L k) := fun e he => h e (mem_del.1 he).1
theorem short_ins {L : List Ent} (h : Short L) {k : ByteArray} (hk : k.size ≤ 200) (x : Int) : Short (insE L k x) := fun e he => by
  rcases mem_ins.1 he with rfl | h'
  · exact hk
  · exact h e h'.1
set_option maxHeartbeats 8000000 in
theorem ref_Set9 (w : World) (c : Array Value) (L : List Ent) (k : ByteArray) (x : Int) (h : RefM w c L) (hL : Rise L) (hS : Short L) (hn : L.length ≤ 100000) :
    Calls Tryd.prog 50 #[.agg c, .string k, .int .i64 x] w fun e w' => ∃ c', e = .returned (.agg c') ∧ RefM w' c' (insE L k x) ∧ Below w.heap.size w w' := by
  have HSZ := Lib.hid h.size
  have hic := ins_cut hL k x
  have hdl : (delE L k).length ≤ 100000 := Nat.le_trans (List.length_filter_le _ _) hn
  have hdr := hL.del k
  have hds := short_del hS k
  have hcut := fun W (hb : Below w.heap.size w W) => ref_Cut9 W c L k (h.later hb) hn
  have hM0 : (belE (delE L k) k).length ≤ (delE L k).length := List.length_filter_le _ _
  have hat := fun W c2 (hr : RefM W c2 (delE L k)) => ref_At9 W c2 (delE L k) k hr hdr hds hdl
  obtain ⟨D, hD⟩ : ∃ D, D = delE L k := ⟨_, rfl⟩
  rw [← hD] at hic hdl hcut hM0 hat
  obtain ⟨N, hN⟩ : ∃ N, N = D.length := ⟨_, rfl⟩
  obtain ⟨M, hM⟩ : ∃ M, M = (belE D k).length := ⟨_, rfl⟩
  rw [← hM] at hic hM0 hat
  obtain ⟨q, hq⟩ : ∃ q, q = (getE D k).isSome := ⟨_, rfl⟩
  rw [← hq] at hat
  rw [← hN] at hM0 hdl
  have HLEN := Lib.hid (And.intro hdl hM0)
  have HND := Lib.hid hN
  have HCUT := Lib.hid hcut
  have HAT := Lib.hid hat
  have HIC := Lib.hid hic
  have hn6 : (N : Int) ≤ 100000 := by omega
  have hmn : (M : Int) ≤ N := by omega
  obtain ⟨W0, hW0⟩ : ∃ W0, (w.alloc (.cells c 40)).alloc (.cells #[.slice none 0 0, .slice none 0 0] 40) = W0 := ⟨_, rfl⟩
  obtain ⟨hb0, hx0, hy0, hs0⟩ := two_newG hW0
  have HX0 := Lib.hid hx0
  have HY0 := Lib.hid hy0
  have HB0 := Lib.hid hb0
  have HS0 := Lib.hid hs0
  clear hx0 hy0 hb0 hs0 hL hS hn h hic hdl hdr hds hcut hM0 hat hq hM hD hN
  go_enter Tryd.func50, Tryd.ntmps50
  go_upto_region 4 with (first
    | (refine ld_if (by rfl) 40 _ rfl w.heap.size rfl 40 _ _ _ HX0.out Tryd.underlying40 rfl (by rw [HSZ.out]; exact refm_size) ?_)
    | (go_at_call 67; (with_reducible refine (HCUT.out _ HB0.out).mono ?_); rintro e w2 ⟨c2, rfl, hr2, hb2⟩; have HR2 := Lib.hid hr2; obtain ⟨a1, d1, a2, d2, rfl⟩ := hr2.shape; rw [← HND.out] at hr2 HR2; have HB2 := Lib.hid (HB0.out.trans (hb2.mono HB0.out.size)); have HX2 := Lib.hid ((hb2.block _ (Array.getElem?_eq_some_iff.1 HX0.out).1).trans HX0.out); have HY2 := Lib.hid ((hb2.block _ (Array.getElem?_eq_some_iff.1 HY0.out).1).trans HY0.out); have HO2 := Lib.hid hr2.one; rw [← HND.out]; clear hr2 hb2)
    | (refine st_agg rfl 40 _ _ rfl w.heap.size #[.slice a1 N d1, .slice a2 N d2] rfl rfl 40 _ HX2.out refm_size (by rw [HSZ.out]; rfl) HO2.out ?_; intro w3 h3 k3; have HX3 := Lib.hid h3; have HR3 := Lib.hid (HR2.out.but k3 HX2.out (by decide) (by decide)); have HY3 := Lib.hid (k3.other HY2.out (by omega)); have HB3 := Lib.hid (HB2.out.trans (k3.below (Nat.le_refl _))); obtain ⟨w4, hw4⟩ : ∃ w4, w3.alloc (.cells #[.slice none 0 0, .slice none 0 0] 40) = w4 := ⟨_, rfl⟩; obtain ⟨hb4, ho4, hs4⟩ := new_below9 hw4; have HB4 := Lib.hid hb4; have HO4 := Lib.hid ho4; have HX4 := Lib.hid ((hb4.block _ (Array.getElem?_eq_some_iff.1 h3).1).trans h3); have HY4 := Lib.hid ((hb4.block _ (Array.getElem?_eq_some_iff.1 HY3.out).1).trans HY3.out); have HR4 := Lib.hid (HR3.out.later hb4); clear h3 k3 hb4 ho4 hs4)
    | (refine ld_if (by rfl) 40 _ rfl w.heap.size rfl 40 _ _ _ HX4.out Tryd.underlying40 rfl refm_size ?_)
    | (go_at_call 71; (with_reducible refine (HAT.out _ _ HR4.out).mono ?_); rintro e w5 ⟨rfl, hb5⟩; have HRS : Hid (RSt w3 w.heap.size (w.heap.size + 1) w3.heap.size #[.slice a1 N d1, .slice a2 N d2] #[.slice none 0 0, .slice none 0 0] #[.slice none 0 0, .slice none 0 0] w5) := RSt.later ⟨HB4.out, HX4.out, HY4.out, HO4.out⟩ hb5; clear hb5))
  have HKV : Hid (Strs w3.heap.size (.slice none 0 0) [] w5) := Strs.nil HRS.out.bel.size
  have HXV : Hid (Owns w3.heap.size (.slice none 0 0) [] w5) := Owns.nil HRS.out.bel.size
  have HDIST : Hid (w.heap.size ≠ w3.heap.size ∧ w.heap.size + 1 ≠ w3.heap.size ∧ w3.heap.size ≤ w3.heap.size) := by
    show _ ∧ _ ∧ _
    have h1 := (Array.getElem?_eq_some_iff.1 HX3.out).1
    have h2 := (Array.getElem?_eq_some_iff.1 HY3.out).1
    exact ⟨by omega, by omega, Nat.le_refl _⟩
  obtain ⟨kv0, xv0, e0, hk0, hx0⟩ := HR3.out
  simp only [Array.mk.injEq, List.cons.injEq] at e0
  obtain ⟨rfl, rfl, _⟩ := e0
  have hMk : M ≤ (keysE D).length := by rw [keysE_len, ← HND.out]; exact HLEN.out.2
  have hMx : M ≤ (valsE D).length := by rw [valsE_len, ← HND.out]; exact HLEN.out.2
  obtain ⟨p1, q1, hp1, hrun1⟩ := cutS_h hk0.cutS hMk
  obtain ⟨p2, q2, hp2, hrun2⟩ := cutN_h hx0.cutN hMx
  obtain ⟨p3, q3, hp3, hrun3⟩ := cutS_l hk0.cutS hMk
  obtain ⟨p4, q4, hp4, hrun4⟩ := cutN_l hx0.cutN hMx
  rw [keysE_len, ← HND.out] at hrun3
  rw [valsE_len, ← HND.out] at hrun4
  have HCK1 := Lib.hid hp1
  have HCX1 := Lib.hid hp2
  have HCK2 := Lib.hid (show CutS (fun _ => True) w3 (.slice p3 (N - M) q3) ((keysE D).drop M) by rw [keysE_len, ← HND.out] at hp3; exact hp3)
  have HCX2 := Lib.hid (show CutN (fun _ => True) w3 (.slice p4 (N - M) q4) ((valsE D).drop M) by rw [valsE_len, ← HND.out] at hp4; exact hp4)
  have HFIN : Hid (∀ kv xv V, Strs w3.heap.size kv (([] ++ (keysE D).take M) ++ [k] ++ (keysE D).drop M) V → Owns w3.heap.size xv (([] ++ (valsE D).take M) ++ [x] ++ (valsE D).drop M) V → RefM V #[kv, xv] (insE L k x)) := fun kv xv V h1 h2 => by
    refine ⟨kv, xv, rfl, ?_, ?_⟩
    · have e : keysE (insE L k x) = ([] ++ (keysE D).take M) ++ [k] ++ (keysE D).drop M := by rw [HIC.out]; simp [keysE, List.map_take, List.map_drop]
      rw [e]
      exact h1.lsS
    · have e : valsE (insE L k x) = ([] ++ (valsE D).take M) ++ [x] ++ (valsE D).drop M := by rw [HIC.out]; simp [valsE, List.map_take, List.map_drop]
      rw [e]
      exact h2.lsI
  clear hk0 hx0 hMk hMx hp1 hp2 hp3 hp4 hw4 hW0
  have hbd := drawn_below w5
  replace HRS := Lib.hid (HRS.out.later hbd)
  replace HKV := Lib.hid (HKV.out.later hbd)
  replace HXV := Lib.hid (HXV.out.later hbd)
  have HKS : Hid (∀ V, RSt w3 w.heap.size (w.heap.size + 1) w3.heap.size #[.slice a1 N d1, .slice a2 N d2] #[.slice none 0 0, .slice none 0 0] #[(.slice none 0 0), (.slice none 0 0)] V → V.cell? ⟨w3.heap.size, 0, none⟩ = some (.slice none 0 0) ∧ V.cell? ⟨w3.heap.size, 1, none⟩ = some (.slice none 0 0) ∧ V.cell? ⟨w.heap.size, 0, none⟩ = some (.slice a1 N d1) ∧ V.cell? ⟨w.heap.size, 1, none⟩ = some (.slice a2 N d2)) := fun V h => ⟨cell_in h.hO rfl, cell_in h.hO rfl, cell_in h.hX rfl, cell_in h.hX rfl⟩
  obtain ⟨V0, hV0⟩ : ∃ V0, V0 = w5.drew := ⟨_, rfl⟩
  rw [← hV0] at HRS HKV HXV
  clear hbd
  refine wp_region_T (S := (fun V => V.cell? ⟨w3.heap.size, 0, none⟩ = some (.slice none 0 0) ∧ V.cell? ⟨w3.heap.size, 1, none⟩ = some (.slice none 0 0) ∧ V.cell? ⟨w.heap.size, 0, none⟩ = some (.slice a1 N d1) ∧ V.cell? ⟨w.heap.size, 1, none⟩ = some (.slice a2 N d2))) [15, 16, 17] (by kernel_rfl) (by rw [← hV0]; exact HKS.out _ HRS.out) (fun hHeld => ?_)
  rw [← hV0] at hHeld ⊢
  clear hV0
  refine wpAnyT_take (i := 0) (oi := ⟨some 19, _, _, _, _, _⟩) (v := ?vg2_1_0) rfl (by kernel_rfl) (by kernel_rfl) (by kernel_rfl) (by kernel_rfl) (fun _ _ _ h => h) (Or.inl ⟨by rfl, ?hg2_1_0⟩) (by assumption) ?rg2_1_0
  case hg2_1_0 => (intro w hSw; (try dsimp only at hSw); first | (go_simp; done) | (go_simp; with_reducible rfl))
  (try simp only [Act.put, List.setIfInBounds_toArray, List.set_cons_zero, List.set_cons_succ])
  refine wpAnyT_take (i := 1) (oi := ⟨some 20, _, _, _, _, _⟩) (v := ?vg2_2_1) rfl (by kernel_rfl) (by kernel_rfl) (by kernel_rfl) (by kernel_rfl) (fun _ _ _ h => h) (Or.inl ⟨by rfl, ?hg2_2_1⟩) (by assumption) ?rg2_2_1
  case hg2_2_1 => (intro w hSw; (try dsimp only at hSw); first | (go_simp; done) | (go_simp; with_reducible rfl))
  (try simp only [Act.put, List.setIfInBounds_toArray, List.set_cons_zero, List.set_cons_succ])
  refine wpAnyT_take (i := 2) (oi := ⟨some 21, _, _, _, _, _⟩) (v := ?vg2_3_2) rfl (by kernel_rfl) (by kernel_rfl) (by kernel_rfl) (by kernel_rfl) (fun _ _ _ h => h) (Or.inl ⟨by rfl, ?hg2_3_2⟩) (by assumption) ?rg2_3_2
  case hg2_3_2 => (intro w hSw; (try dsimp only at hSw); first | (go_simp; done) | (go_simp; with_reducible rfl))
  (try simp only [Act.put, List.setIfInBounds_toArray, List.set_cons_zero, List.set_cons_succ])
  refine wpAnyT_take (i := 3) (oi := ⟨some 22, _, _, _, _, _⟩) (v := ?vg2_4_3) rfl (by kernel_rfl) (by kernel_rfl) (by kernel_rfl) (by kernel_rfl) (fun _ _ _ h => h) (Or.inl ⟨by rfl, ?hg2_4_3⟩) (by assumption) ?rg2_4_3
  case hg2_4_3 => (intro w hSw; (try dsimp only at hSw); first | (go_simp; done) | (go_simp; with_reducible rfl))
  (try simp only [Act.put, List.setIfInBounds_toArray, List.set_cons_zero, List.set_cons_succ])
  refine wpAnyT_take (i := 4) (oi := ⟨some 23, _, _, _, _, _⟩) (v := ?vg2_5_4) rfl (by kernel_rfl) (by kernel_rfl) (by kernel_rfl) (by kernel_rfl) (fun _ _ _ h => h) (Or.inl ⟨by rfl, ?hg2_5_4⟩) (by assumption) ?rg2_5_4
  case hg2_5_4 => (intro w hSw; (try dsimp only at hSw); first | (go_simp; done) | (go_simp; with_reducible rfl))
  (try simp only [Act.put, List.setIfInBounds_toArray, List.set_cons_zero, List.set_cons_succ])
  refine wpAnyT_take (i := 5) (oi := ⟨some 24, _, _, _, _, _⟩) (v := ?vg2_6_5) rfl (by kernel_rfl) (by kernel_rfl) (by kernel_rfl) (by kernel_rfl) (fun _ _ _ h => h) (Or.inl ⟨by rfl, ?hg2_6_5⟩) (by assumption) ?rg2_6_5
  case hg2_6_5 => (intro w hSw; (try dsimp only at hSw); first | (go_simp; done) | (go_simp; with_reducible rfl))
  (try simp only [Act.put, List.setIfInBounds_toArray, List.set_cons_zero, List.set_cons_succ])
  refine wpAnyT_take (i := 7) (oi := ⟨some 26, _, _, _, _, _⟩) (v := ?vg2_7_7) rfl (by kernel_rfl) (by kernel_rfl) (by kernel_rfl) (by kernel_rfl) (fun _ _ _ h => h) (Or.inl ⟨by rfl, ?hg2_7_7⟩) (by assumption) ?rg2_7_7
  case hg2_7_7 => (intro w hSw; (try dsimp only at hSw); first | (go_simp; done) | (go_simp; with_reducible rfl))
  (try simp only [Act.put, List.setIfInBounds_toArray, List.set_cons_zero, List.set_cons_succ])
  refine wpAnyT_take (i := 8) (oi := ⟨some 27, _, _, _, _, _⟩) (v := ?vg2_8_8) rfl (by kernel_rfl) (by kernel_rfl) (by kernel_rfl) (by kernel_rfl) (fun _ _ _ h => h) (Or.inl ⟨by rfl, ?hg2_8_8⟩) (by assumption) ?rg2_8_8
  case hg2_8_8 => (intro w hSw; (try dsimp only at hSw); first | (go_simp; done) | (go_simp; with_reducible rfl))
  (try simp only [Act.put, List.setIfInBounds_toArray, List.set_cons_zero, List.set_cons_succ])
  refine wpAnyT_take (i := 9) (oi := ⟨some 28, _, _, _, _, _⟩) (v := ?vg2_9_9) rfl (by kernel_rfl) (by kernel_rfl) (by kernel_rfl) (by kernel_rfl) (fun _ _ _ h => h) (Or.inl ⟨by rfl, ?hg2_9_9⟩) (by assumption) ?rg2_9_9
  case hg2_9_9 => (intro w hSw; (try dsimp only at hSw); first | (go_simp; done) | (go_simp; with_reducible rfl))
  (try simp only [Act.put, List.setIfInBounds_toArray, List.set_cons_zero, List.set_cons_succ])
  refine wpAnyT_take (i := 10) (oi := ⟨some 29, _, _, _, _, _⟩) (v := ?vg2_10_10) rfl (by kernel_rfl) (by kernel_rfl) (by kernel_rfl) (by kernel_rfl) (fun _ _ _ h => h) (Or.inl ⟨by rfl, ?hg2_10_10⟩) (by assumption) ?rg2_10_10
  case hg2_10_10 => (intro w hSw; (try dsimp only at hSw); first | (go_simp; done) | (go_simp; with_reducible rfl))
  (try simp only [Act.put, List.setIfInBounds_toArray, List.set_cons_zero, List.set_cons_succ])
  refine wpAnyT_take (i := 11) (oi := ⟨some 30, _, _, _, _, _⟩) (v := ?vg2_11_11) rfl (by kernel_rfl) (by kernel_rfl) (by kernel_rfl) (by kernel_rfl) (fun _ _ _ h => h) (Or.inl ⟨by rfl, ?hg2_11_11⟩) (by assumption) ?rg2_11_11
  case hg2_11_11 => (intro w hSw; (try dsimp only at hSw); first | (go_simp; done) | (go_simp; with_reducible rfl))
  (try simp only [Act.put, List.setIfInBounds_toArray, List.set_cons_zero, List.set_cons_succ])
  refine wpAnyT_take (i := 12) (oi := ⟨some 31, _, _, _, _, _⟩) (v := ?vg2_12_12) rfl (by kernel_rfl) (by kernel_rfl) (by kernel_rfl) (by kernel_rfl) (fun _ _ _ h => h) (Or.inl ⟨by rfl, ?hg2_12_12⟩) (by assumption) ?rg2_12_12
  case hg2_12_12 => (intro w hSw; (try dsimp only at hSw); first | (go_simp; done) | (go_simp; with_reducible rfl))
  (try simp only [Act.put, List.setIfInBounds_toArray, List.set_cons_zero, List.set_cons_succ])
  refine wpAnyT_one (i := 6) (o := ⟨some 25, _, _, _, _, _⟩) (by kernel_rfl) rfl (fun K hK => ?_)
  rw [if_pos (by rfl)]
  refine strs_wp _ _ rfl rfl HKV.out rfl (HCK1.out.later HRS.out.bel) (by have h1 := HLEN.out; have h2 := HND.out; simp [keysE_len, valsE_len]; omega) ?_
  intro kv4 V1 hk2 hg2
  replace HRS := Lib.hid (HRS.out.strs HKV.out hg2)
  replace HXV := Lib.hid (strs_owns HKV.out hg2 HXV.out)
  replace HKV := Lib.hid hk2
  clear hk2 hg2
  refine hK.out _ _ (by exact HKS.out _ HRS.out) (fun hHeld => ?_)
  clear hK K
  (try simp only [Act.put, List.setIfInBounds_toArray, List.set_cons_zero, List.set_cons_succ])
  refine wpAnyT_take (i := 14) (oi := ⟨some 33, _, _, _, _, _⟩) (v := ?vg2_13_14) rfl (by kernel_rfl) (by kernel_rfl) (by kernel_rfl) (by kernel_rfl) (fun _ _ _ h => h) (Or.inl ⟨by rfl, ?hg2_13_14⟩) (by assumption) ?rg2_13_14
  case hg2_13_14 => (intro w hSw; (try dsimp only at hSw); first | (go_simp; done) | (go_simp; with_reducible rfl))
  (try simp only [Act.put, List.setIfInBounds_toArray, List.set_cons_zero, List.set_cons_succ])
  refine wpAnyT_one (i := 13) (o := ⟨some 32, _, _, _, _, _⟩) (by kernel_rfl) rfl (fun K hK => ?_)
  rw [if_pos (by rfl)]
  refine ownsN_wp _ _ rfl rfl HXV.out rfl (HCX1.out.later HRS.out.bel) (by have h1 := HLEN.out; have h2 := HND.out; simp [keysE_len, valsE_len]; omega) ?_
  intro xv4 V2 hk2 hg2
  replace HRS := Lib.hid (HRS.out.owns HXV.out hg2)
  replace HKV := Lib.hid (owns_strs HXV.out hg2 HKV.out)
  replace HXV := Lib.hid hk2
  clear hk2 hg2
  refine hK.out _ _ (by exact HKS.out _ HRS.out) (fun hHeld => ?_)
  clear hK K
  (try simp only [Act.put, List.setIfInBounds_toArray, List.set_cons_zero, List.set_cons_succ])
  refine wpAnyT_last (i := 15) (o := ⟨none, _, _, _, _, _⟩) (by kernel_rfl) (by decide) rfl (fun K hK => ?_)
  rw [if_pos (by rfl)]
  refine st_cell_wp 37 _ _ rfl w3.heap.size 0 kv4 rfl rfl HKV.out.lsS.one 40 _ HRS.out.hO (by simp) strs_size ?_
  intro V3 h3 k3
  replace HKV := Lib.hid (HKV.out.only k3 HRS.out.hO (by decide))
  replace HXV := Lib.hid (HXV.out.grown k3.by_ (.inr (fun e => owns_not HXV.out HRS.out.hO (by decide) e.symm)))
  replace HRS := Lib.hid (HRS.out.wrote k3 h3 HDIST.out)
  clear h3 k3
  refine hK.out _ _ ?_
  clear hK K
  (try simp only [Act.put, List.setIfInBounds_toArray, List.set_cons_zero, List.set_cons_succ])
  refine wpAnyT_last (i := 16) (o := ⟨some 34, _, _, _, _, _⟩) (by kernel_rfl) (by decide) rfl (fun K hK => ?_)
  go_simp
  refine hK.out _ _ ?_
  clear hK K
  (try simp only [Act.put, List.setIfInBounds_toArray, List.set_cons_zero, List.set_cons_succ])
  refine wpAnyT_last (i := 17) (o := ⟨none, _, _, _, _, _⟩) (by kernel_rfl) (by decide) rfl (fun K hK => ?_)
  rw [if_pos (by rfl)]
  refine st_cell_wp 38 _ _ rfl w3.heap.size 1 xv4 rfl rfl HXV.out.lsI.one 40 _ HRS.out.hO (by simp) ints_size ?_
  intro V4 h4 k4
  replace HKV := Lib.hid (HKV.out.only k4 HRS.out.hO (by decide))
  replace HXV := Lib.hid (HXV.out.grown k4.by_ (.inr (fun e => owns_not HXV.out HRS.out.hO (by decide) e.symm)))
  replace HRS := Lib.hid (HRS.out.wrote k4 h4 HDIST.out)
  clear h4 k4
  refine hK.out _ _ ?_
  clear hK K
  (try simp only [Act.put, List.setIfInBounds_toArray, List.set_cons_zero, List.set_cons_succ])
  refine wpAnyT_done (by kernel_rfl) ?_ _
  go_upto_region 5 with fail
  clear HKS
  have hbd := drawn_below V4
  replace HRS := Lib.hid (HRS.out.later hbd)
  replace HKV := Lib.hid (HKV.out.later hbd)
  replace HXV := Lib.hid (HXV.out.later hbd)
  have HKS : Hid (∀ V, RSt w3 w.heap.size (w.heap.size + 1) w3.heap.size #[.slice a1 N d1, .slice a2 N d2] #[.slice none 0 0, .slice none 0 0] #[kv4, xv4] V → V.cell? ⟨w3.heap.size, 0, none⟩ = some kv4 ∧ V.cell? ⟨w3.heap.size, 1, none⟩ = some xv4) := fun V h => ⟨cell_in h.hO rfl, cell_in h.hO rfl⟩
  obtain ⟨V0, hV0⟩ : ∃ V0, V0 = V4.drew := ⟨_, rfl⟩
  rw [← hV0] at HRS HKV HXV
  clear hbd
  refine wp_region_T (S := (fun V => V.cell? ⟨w3.heap.size, 0, none⟩ = some kv4 ∧ V.cell? ⟨w3.heap.size, 1, none⟩ = some xv4)) [11, 12, 13] (by kernel_rfl) (by rw [← hV0]; exact HKS.out _ HRS.out) (fun hHeld => ?_)
  rw [← hV0] at hHeld ⊢
  clear hV0
  refine wpAnyT_take (i := 0) (oi := ⟨some 35, _, _, _, _, _⟩) (v := ?vg3_1_0) rfl (by kernel_rfl) (by kernel_rfl) (by kernel_rfl) (by kernel_rfl) (fun _ _ _ h => h) (Or.inl ⟨by rfl, ?hg3_1_0⟩) (by assumption) ?rg3_1_0
  case hg3_1_0 => (intro w hSw; (try dsimp only at hSw); first | (go_simp; done) | (go_simp; with_reducible rfl))
  (try simp only [Act.put, List.setIfInBounds_toArray, List.set_cons_zero, List.set_cons_succ])
  refine wpAnyT_take (i := 1) (oi := ⟨some 36, _, _, _, _, _⟩) (v := ?vg3_2_1) rfl (by kernel_rfl) (by kernel_rfl) (by kernel_rfl) (by kernel_rfl) (fun _ _ _ h => h) (Or.inl ⟨by rfl, ?hg3_2_1⟩) (by assumption) ?rg3_2_1
  case hg3_2_1 => (intro w hSw; (try dsimp only at hSw); first | (go_simp; done) | (go_simp; with_reducible rfl))
  (try simp only [Act.put, List.setIfInBounds_toArray, List.set_cons_zero, List.set_cons_succ])
  refine wpAnyT_take (i := 2) (oi := ⟨some 37, _, _, _, _, _⟩) (v := ?vg3_3_2) rfl (by kernel_rfl) (by kernel_rfl) (by kernel_rfl) (by kernel_rfl) (fun _ _ _ h => h) (Or.inl ⟨by rfl, ?hg3_3_2⟩) (by assumption) ?rg3_3_2
  case hg3_3_2 => (intro w hSw; (try dsimp only at hSw); first | (go_simp; done) | (go_simp; with_reducible rfl))
  (try simp only [Act.put, List.setIfInBounds_toArray, List.set_cons_zero, List.set_cons_succ])
  refine wpAnyT_take (i := 5) (oi := ⟨some 40, _, _, _, _, _⟩) (v := ?vg3_4_5) rfl (by kernel_rfl) (by kernel_rfl) (by kernel_rfl) (by kernel_rfl) (fun _ _ _ h => h) (Or.inl ⟨by rfl, ?hg3_4_5⟩) (by assumption) ?rg3_4_5
  case hg3_4_5 => (intro w hSw; (try dsimp only at hSw); first | (go_simp; done) | (go_simp; with_reducible rfl))
  (try simp only [Act.put, List.setIfInBounds_toArray, List.set_cons_zero, List.set_cons_succ])
  refine wpAnyT_take (i := 6) (oi := ⟨some 41, _, _, _, _, _⟩) (v := ?vg3_5_6) rfl (by kernel_rfl) (by kernel_rfl) (by kernel_rfl) (by kernel_rfl) (fun _ _ _ h => h) (Or.inl ⟨by rfl, ?hg3_5_6⟩) (by assumption) ?rg3_5_6
  case hg3_5_6 => (intro w hSw; (try dsimp only at hSw); first | (go_simp; done) | (go_simp; with_reducible rfl))
  (try simp only [Act.put, List.setIfInBounds_toArray, List.set_cons_zero, List.set_cons_succ])
  refine wpAnyT_take (i := 7) (oi := ⟨some 42, _, _, _, _, _⟩) (v := ?vg3_6_7) rfl (by kernel_rfl) (by kernel_rfl) (by kernel_rfl) (by kernel_rfl) (fun _ _ _ h => h) (Or.inl ⟨by rfl, ?hg3_6_7⟩) (by assumption) ?rg3_6_7
  case hg3_6_7 => (intro w hSw; (try dsimp only at hSw); first | (go_simp; done) | (go_simp; with_reducible rfl))
  (try simp only [Act.put, List.setIfInBounds_toArray, List.set_cons_zero, List.set_cons_succ])
  refine wpAnyT_ready (rs := [3, 8]) (by kernel_rfl) (by simp) ?_
  refine AllT.cons (i := 3) (o := ⟨some 38, _, _, _, _, _⟩) rfl (fun K hK => ?_) (AllT.cons (i := 8) (o := ⟨some 43, _, _, _, _, _⟩) rfl (fun K hK => ?_) AllT.nil)
  · go_simp
    have hb := Below.newly' V0 (.cells #[.string k] 9)
    have hl3 := heap_alloc_last V0 (.cells #[.string k] 9)
    obtain ⟨g3, hg3⟩ : ∃ g3, g3 = V0.heap.size := ⟨_, rfl⟩
    rw [← hg3] at hl3
    replace HRS := Lib.hid (HRS.out.later hb)
    replace HKV := Lib.hid (HKV.out.later hb)
    replace HXV := Lib.hid (HXV.out.later hb)
    have HL3 := Lib.hid hl3
    rw [← hg3]
    obtain ⟨V1, hV1⟩ : ∃ V', V' = V0.alloc (.cells #[.string k] 9) := ⟨_, rfl⟩
    rw [← hV1] at HRS HKV HXV HL3
    rw [← hV1]
    clear hb hl3 hg3 hV1
    refine hK.out _ _ (by exact HKS.out _ HRS.out) (fun hHeld => ?_)
    clear hK K
    (try simp only [Act.put, List.setIfInBounds_toArray, List.set_cons_zero, List.set_cons_succ])
    refine wpAnyT_ready (rs := [4, 8]) (by kernel_rfl) (by simp) ?_
    refine AllT.cons (i := 4) (o := ⟨some 39, _, _, _, _, _⟩) rfl (fun K hK => ?_) (AllT.cons (i := 8) (o := ⟨some 43, _, _, _, _, _⟩) rfl (fun K hK => ?_) AllT.nil)
    · rw [if_pos (by rfl)]
      refine strs_wp _ _ rfl rfl HKV.out rfl (cutS_lit HL3.out) (by have h1 := HLEN.out; have h2 := HND.out; simp [keysE_len, valsE_len]; omega) ?_
      intro kv5 V2 hk2 hg2
      replace HRS := Lib.hid (HRS.out.strs HKV.out hg2)
      replace HXV := Lib.hid (strs_owns HKV.out hg2 HXV.out)
      replace HKV := Lib.hid hk2
      clear HL3
      clear hk2 hg2
      refine hK.out _ _ (by exact HKS.out _ HRS.out) (fun hHeld => ?_)
      clear hK K
      (try simp only [Act.put, List.setIfInBounds_toArray, List.set_cons_zero, List.set_cons_succ])
      refine wpAnyT_take (i := 10) (oi := ⟨some 45, _, _, _, _, _⟩) (v := ?vg3_7_10) rfl (by kernel_rfl) (by kernel_rfl) (by kernel_rfl) (by kernel_rfl) (fun _ _ _ h => h) (Or.inl ⟨by rfl, ?hg3_7_10⟩) (by assumption) ?rg3_7_10
      case hg3_7_10 => (intro w hSw; (try dsimp only at hSw); first | (go_simp; done) | (go_simp; with_reducible rfl))
      (try simp only [Act.put, List.setIfInBounds_toArray, List.set_cons_zero, List.set_cons_succ])
      refine wpAnyT_one (i := 8) (o := ⟨some 43, _, _, _, _, _⟩) (by kernel_rfl) rfl (fun K hK => ?_)
      go_simp
      have hb := Below.newly' V2 (.cells #[.int .i64 x] 3)
      have hl12 := heap_alloc_last V2 (.cells #[.int .i64 x] 3)
      obtain ⟨g12, hg12⟩ : ∃ g12, g12 = V2.heap.size := ⟨_, rfl⟩
      rw [← hg12] at hl12
      replace HRS := Lib.hid (HRS.out.later hb)
      replace HKV := Lib.hid (HKV.out.later hb)
      replace HXV := Lib.hid (HXV.out.later hb)
      have HL12 := Lib.hid hl12
      rw [← hg12]
      obtain ⟨V3, hV3⟩ : ∃ V', V' = V2.alloc (.cells #[.int .i64 x] 3) := ⟨_, rfl⟩
      rw [← hV3] at HRS HKV HXV HL12
      rw [← hV3]
      clear hb hl12 hg12 hV3
      refine hK.out _ _ (by exact HKS.out _ HRS.out) (fun hHeld => ?_)
      clear hK K
      (try simp only [Act.put, List.setIfInBounds_toArray, List.set_cons_zero, List.set_cons_succ])
      refine wpAnyT_one (i := 9) (o := ⟨some 44, _, _, _, _, _⟩) (by kernel_rfl) rfl (fun K hK => ?_)
      rw [if_pos (by rfl)]
      refine ownsN_wp _ _ rfl rfl HXV.out rfl (cutN_lit HL12.out) (by have h1 := HLEN.out; have h2 := HND.out; simp [keysE_len, valsE_len]; omega) ?_
      intro xv5 V4 hk2 hg2
      replace HRS := Lib.hid (HRS.out.owns HXV.out hg2)
      replace HKV := Lib.hid (owns_strs HXV.out hg2 HKV.out)
      replace HXV := Lib.hid hk2
      clear HL12
      clear hk2 hg2
      refine hK.out _ _ (by exact HKS.out _ HRS.out) (fun hHeld => ?_)
      clear hK K
      (try simp only [Act.put, List.setIfInBounds_toArray, List.set_cons_zero, List.set_cons_succ])
      refine wpAnyT_last (i := 11) (o := ⟨none, _, _, _, _, _⟩) (by kernel_rfl) (by decide) rfl (fun K hK => ?_)
      rw [if_pos (by rfl)]
      refine st_cell_wp 37 _ _ rfl w3.heap.size 0 kv5 rfl rfl HKV.out.lsS.one 40 _ HRS.out.hO (by simp) strs_size ?_
      intro V5 h5 k5
      replace HKV := Lib.hid (HKV.out.only k5 HRS.out.hO (by decide))
      replace HXV := Lib.hid (HXV.out.grown k5.by_ (.inr (fun e => owns_not HXV.out HRS.out.hO (by decide) e.symm)))
      replace HRS := Lib.hid (HRS.out.wrote k5 h5 HDIST.out)
      clear h5 k5
      refine hK.out _ _ ?_
      clear hK K
      (try simp only [Act.put, List.setIfInBounds_toArray, List.set_cons_zero, List.set_cons_succ])
      refine wpAnyT_last (i := 12) (o := ⟨some 46, _, _, _, _, _⟩) (by kernel_rfl) (by decide) rfl (fun K hK => ?_)
      go_simp
      refine hK.out _ _ ?_
      clear hK K
      (try simp only [Act.put, List.setIfInBounds_toArray, List.set_cons_zero, List.set_cons_succ])
      refine wpAnyT_last (i := 13) (o := ⟨none, _, _, _, _, _⟩) (by kernel_rfl) (by decide) rfl (fun K hK => ?_)
      rw [if_pos (by rfl)]
      refine st_cell_wp 38 _ _ rfl w3.heap.size 1 xv5 rfl rfl HXV.out.lsI.one 40 _ HRS.out.hO (by simp) ints_size ?_
      intro V6 h6 k6
      replace HKV := Lib.hid (HKV.out.only k6 HRS.out.hO (by decide))
      replace HXV := Lib.hid (HXV.out.grown k6.by_ (.inr (fun e => owns_not HXV.out HRS.out.hO (by decide) e.symm)))
      replace HRS := Lib.hid (HRS.out.wrote k6 h6 HDIST.out)
      clear h6 k6
      refine hK.out _ _ ?_
      clear hK K
      (try simp only [Act.put, List.setIfInBounds_toArray, List.set_cons_zero, List.set_cons_succ])
      refine wpAnyT_done (by kernel_rfl) ?_ _
      go_upto_region 6 with fail
      clear HKS
      have hbd := drawn_below V6
      replace HRS := Lib.hid (HRS.out.later hbd)
      replace HKV := Lib.hid (HKV.out.later hbd)
      replace HXV := Lib.hid (HXV.out.later hbd)
      have HKS : Hid (∀ V, RSt w3 w.heap.size (w.heap.size + 1) w3.heap.size #[.slice a1 N d1, .slice a2 N d2] #[.slice none 0 0, .slice none 0 0] #[kv5, xv5] V → V.cell? ⟨w3.heap.size, 0, none⟩ = some kv5 ∧ V.cell? ⟨w3.heap.size, 1, none⟩ = some xv5 ∧ V.cell? ⟨w.heap.size, 0, none⟩ = some (.slice a1 N d1) ∧ V.cell? ⟨w.heap.size, 1, none⟩ = some (.slice a2 N d2)) := fun V h => ⟨cell_in h.hO rfl, cell_in h.hO rfl, cell_in h.hX rfl, cell_in h.hX rfl⟩
      obtain ⟨V0, hV0⟩ : ∃ V0, V0 = V6.drew := ⟨_, rfl⟩
      rw [← hV0] at HRS HKV HXV
      clear hbd
      refine wp_region_T (S := (fun V => V.cell? ⟨w3.heap.size, 0, none⟩ = some kv5 ∧ V.cell? ⟨w3.heap.size, 1, none⟩ = some xv5 ∧ V.cell? ⟨w.heap.size, 0, none⟩ = some (.slice a1 N d1) ∧ V.cell? ⟨w.heap.size, 1, none⟩ = some (.slice a2 N d2))) [15, 16, 17] (by kernel_rfl) (by rw [← hV0]; exact HKS.out _ HRS.out) (fun hHeld => ?_)
      rw [← hV0] at hHeld ⊢
      clear hV0
      refine wpAnyT_take (i := 0) (oi := ⟨some 47, _, _, _, _, _⟩) (v := ?vg4_1_0) rfl (by kernel_rfl) (by kernel_rfl) (by kernel_rfl) (by kernel_rfl) (fun _ _ _ h => h) (Or.inl ⟨by rfl, ?hg4_1_0⟩) (by assumption) ?rg4_1_0
      case hg4_1_0 => (intro w hSw; (try dsimp only at hSw); first | (go_simp; done) | (go_simp; with_reducible rfl))
      (try simp only [Act.put, List.setIfInBounds_toArray, List.set_cons_zero, List.set_cons_succ])
      refine wpAnyT_take (i := 1) (oi := ⟨some 48, _, _, _, _, _⟩) (v := ?vg4_2_1) rfl (by kernel_rfl) (by kernel_rfl) (by kernel_rfl) (by kernel_rfl) (fun _ _ _ h => h) (Or.inl ⟨by rfl, ?hg4_2_1⟩) (by assumption) ?rg4_2_1
      case hg4_2_1 => (intro w hSw; (try dsimp only at hSw); first | (go_simp; done) | (go_simp; with_reducible rfl))
      (try simp only [Act.put, List.setIfInBounds_toArray, List.set_cons_zero, List.set_cons_succ])
      refine wpAnyT_take (i := 2) (oi := ⟨some 49, _, _, _, _, _⟩) (v := ?vg4_3_2) rfl (by kernel_rfl) (by kernel_rfl) (by kernel_rfl) (by kernel_rfl) (fun _ _ _ h => h) (Or.inl ⟨by rfl, ?hg4_3_2⟩) (by assumption) ?rg4_3_2
      case hg4_3_2 => (intro w hSw; (try dsimp only at hSw); first | (go_simp; done) | (go_simp; with_reducible rfl))
      (try simp only [Act.put, List.setIfInBounds_toArray, List.set_cons_zero, List.set_cons_succ])
      refine wpAnyT_take (i := 3) (oi := ⟨some 50, _, _, _, _, _⟩) (v := ?vg4_4_3) rfl (by kernel_rfl) (by kernel_rfl) (by kernel_rfl) (by kernel_rfl) (fun _ _ _ h => h) (Or.inl ⟨by rfl, ?hg4_4_3⟩) (by assumption) ?rg4_4_3
      case hg4_4_3 => (intro w hSw; (try dsimp only at hSw); first | (go_simp; done) | (go_simp; with_reducible rfl))
      (try simp only [Act.put, List.setIfInBounds_toArray, List.set_cons_zero, List.set_cons_succ])
      refine wpAnyT_take (i := 4) (oi := ⟨some 51, _, _, _, _, _⟩) (v := ?vg4_5_4) rfl (by kernel_rfl) (by kernel_rfl) (by kernel_rfl) (by kernel_rfl) (fun _ _ _ h => h) (Or.inl ⟨by rfl, ?hg4_5_4⟩) (by assumption) ?rg4_5_4
      case hg4_5_4 => (intro w hSw; (try dsimp only at hSw); first | (go_simp; done) | (go_simp; with_reducible rfl))
      (try simp only [Act.put, List.setIfInBounds_toArray, List.set_cons_zero, List.set_cons_succ])
      refine wpAnyT_take (i := 5) (oi := ⟨some 52, _, _, _, _, _⟩) (v := ?vg4_6_5) rfl (by kernel_rfl) (by kernel_rfl) (by kernel_rfl) (by kernel_rfl) (fun _ _ _ h => h) (Or.inl ⟨by rfl, ?hg4_6_5⟩) (by assumption) ?rg4_6_5
      case hg4_6_5 => (intro w hSw; (try dsimp only at hSw); first | (go_simp; done) | (go_simp; with_reducible rfl))
      (try simp only [Act.put, List.setIfInBounds_toArray, List.set_cons_zero, List.set_cons_succ])
      refine wpAnyT_take (i := 7) (oi := ⟨some 54, _, _, _, _, _⟩) (v := ?vg4_7_7) rfl (by kernel_rfl) (by kernel_rfl) (by kernel_rfl) (by kernel_rfl) (fun _ _ _ h => h) (Or.inl ⟨by rfl, ?hg4_7_7⟩) (by assumption) ?rg4_7_7
      case hg4_7_7 => (intro w hSw; (try dsimp only at hSw); first | (go_simp; done) | (go_simp; with_reducible rfl))
      (try simp only [Act.put, List.setIfInBounds_toArray, List.set_cons_zero, List.set_cons_succ])
      refine wpAnyT_take (i := 8) (oi := ⟨some 55, _, _, _, _, _⟩) (v := ?vg4_8_8) rfl (by kernel_rfl) (by kernel_rfl) (by kernel_rfl) (by kernel_rfl) (fun _ _ _ h => h) (Or.inl ⟨by rfl, ?hg4_8_8⟩) (by assumption) ?rg4_8_8
      case hg4_8_8 => (intro w hSw; (try dsimp only at hSw); first | (go_simp; done) | (go_simp; with_reducible rfl))
      (try simp only [Act.put, List.setIfInBounds_toArray, List.set_cons_zero, List.set_cons_succ])
      refine wpAnyT_take (i := 9) (oi := ⟨some 56, _, _, _, _, _⟩) (v := ?vg4_9_9) rfl (by kernel_rfl) (by kernel_rfl) (by kernel_rfl) (by kernel_rfl) (fun _ _ _ h => h) (Or.inl ⟨by rfl, ?hg4_9_9⟩) (by assumption) ?rg4_9_9
      case hg4_9_9 => (intro w hSw; (try dsimp only at hSw); first | (go_simp; done) | (go_simp; with_reducible rfl))
      (try simp only [Act.put, List.setIfInBounds_toArray, List.set_cons_zero, List.set_cons_succ])
      refine wpAnyT_take (i := 10) (oi := ⟨some 57, _, _, _, _, _⟩) (v := ?vg4_10_10) rfl (by kernel_rfl) (by kernel_rfl) (by kernel_rfl) (by kernel_rfl) (fun _ _ _ h => h) (Or.inl ⟨by rfl, ?hg4_10_10⟩) (by assumption) ?rg4_10_10
      case hg4_10_10 => (intro w hSw; (try dsimp only at hSw); first | (go_simp; done) | (go_simp; with_reducible rfl))
      (try simp only [Act.put, List.setIfInBounds_toArray, List.set_cons_zero, List.set_cons_succ])
      refine wpAnyT_take (i := 11) (oi := ⟨some 58, _, _, _, _, _⟩) (v := ?vg4_11_11) rfl (by kernel_rfl) (by kernel_rfl) (by kernel_rfl) (by kernel_rfl) (fun _ _ _ h => h) (Or.inl ⟨by rfl, ?hg4_11_11⟩) (by assumption) ?rg4_11_11
      case hg4_11_11 => (intro w hSw; (try dsimp only at hSw); first | (go_simp; done) | (go_simp; with_reducible rfl))
      (try simp only [Act.put, List.setIfInBounds_toArray, List.set_cons_zero, List.set_cons_succ])
      refine wpAnyT_take (i := 12) (oi := ⟨some 59, _, _, _, _, _⟩) (v := ?vg4_12_12) rfl (by kernel_rfl) (by kernel_rfl) (by kernel_rfl) (by kernel_rfl) (fun _ _ _ h => h) (Or.inl ⟨by rfl, ?hg4_12_12⟩) (by assumption) ?rg4_12_12
      case hg4_12_12 => (intro w hSw; (try dsimp only at hSw); first | (go_simp; done) | (go_simp; with_reducible rfl))
      (try simp only [Act.put, List.setIfInBounds_toArray, List.set_cons_zero, List.set_cons_succ])
      refine wpAnyT_one (i := 6) (o := ⟨some 53, _, _, _, _, _⟩) (by kernel_rfl) rfl (fun K hK => ?_)
      rw [if_pos (by rfl)]
      refine strs_wp _ _ rfl rfl HKV.out rfl (HCK2.out.later HRS.out.bel) (by have h1 := HLEN.out; have h2 := HND.out; simp [keysE_len, valsE_len]; omega) ?_
      intro kv6 V1 hk2 hg2
      replace HRS := Lib.hid (HRS.out.strs HKV.out hg2)
      replace HXV := Lib.hid (strs_owns HKV.out hg2 HXV.out)
      replace HKV := Lib.hid hk2
      clear hk2 hg2
      refine hK.out _ _ (by exact HKS.out _ HRS.out) (fun hHeld => ?_)
      clear hK K
      (try simp only [Act.put, List.setIfInBounds_toArray, List.set_cons_zero, List.set_cons_succ])
      refine wpAnyT_take (i := 14) (oi := ⟨some 61, _, _, _, _, _⟩) (v := ?vg4_13_14) rfl (by kernel_rfl) (by kernel_rfl) (by kernel_rfl) (by kernel_rfl) (fun _ _ _ h => h) (Or.inl ⟨by rfl, ?hg4_13_14⟩) (by assumption) ?rg4_13_14
      case hg4_13_14 => (intro w hSw; (try dsimp only at hSw); first | (go_simp; done) | (go_simp; with_reducible rfl))
      (try simp only [Act.put, List.setIfInBounds_toArray, List.set_cons_zero, List.set_cons_succ])
      refine wpAnyT_one (i := 13) (o := ⟨some 60, _, _, _, _, _⟩) (by kernel_rfl) rfl (fun K hK => ?_)
      rw [if_pos (by rfl)]
      refine ownsN_wp _ _ rfl rfl HXV.out rfl (HCX2.out.later HRS.out.bel) (by have h1 := HLEN.out; have h2 := HND.out; simp [keysE_len, valsE_len]; omega) ?_
      intro xv6 V2 hk2 hg2
      replace HRS := Lib.hid (HRS.out.owns HXV.out hg2)
      replace HKV := Lib.hid (owns_strs HXV.out hg2 HKV.out)
      replace HXV := Lib.hid hk2
      clear hk2 hg2
      refine hK.out _ _ (by exact HKS.out _ HRS.out) (fun hHeld => ?_)
      clear hK K
      (try simp only [Act.put, List.setIfInBounds_toArray, List.set_cons_zero, List.set_cons_succ])
      refine wpAnyT_last (i := 15) (o := ⟨none, _, _, _, _, _⟩) (by kernel_rfl) (by decide) rfl (fun K hK => ?_)
      rw [if_pos (by rfl)]
      refine st_cell_wp 37 _ _ rfl w3.heap.size 0 kv6 rfl rfl HKV.out.lsS.one 40 _ HRS.out.hO (by simp) strs_size ?_
      intro V3 h3 k3
      replace HKV := Lib.hid (HKV.out.only k3 HRS.out.hO (by decide))
      replace HXV := Lib.hid (HXV.out.grown k3.by_ (.inr (fun e => owns_not HXV.out HRS.out.hO (by decide) e.symm)))
      replace HRS := Lib.hid (HRS.out.wrote k3 h3 HDIST.out)
      clear h3 k3
      refine hK.out _ _ ?_
      clear hK K
      (try simp only [Act.put, List.setIfInBounds_toArray, List.set_cons_zero, List.set_cons_succ])
      refine wpAnyT_last (i := 16) (o := ⟨some 62, _, _, _, _, _⟩) (by kernel_rfl) (by decide) rfl (fun K hK => ?_)
      go_simp
      refine hK.out _ _ ?_
      clear hK K
      (try simp only [Act.put, List.setIfInBounds_toArray, List.set_cons_zero, List.set_cons_succ])
      refine wpAnyT_last (i := 17) (o := ⟨none, _, _, _, _, _⟩) (by kernel_rfl) (by decide) rfl (fun K hK => ?_)
      rw [if_pos (by rfl)]
      refine st_cell_wp 38 _ _ rfl w3.heap.size 1 xv6 rfl rfl HXV.out.lsI.one 40 _ HRS.out.hO (by simp) ints_size ?_
      intro V4 h4 k4
      replace HKV := Lib.hid (HKV.out.only k4 HRS.out.hO (by decide))
      replace HXV := Lib.hid (HXV.out.grown k4.by_ (.inr (fun e => owns_not HXV.out HRS.out.hO (by decide) e.symm)))
      replace HRS := Lib.hid (HRS.out.wrote k4 h4 HDIST.out)
      clear h4 k4
      refine hK.out _ _ ?_
      clear hK K
      (try simp only [Act.put, List.setIfInBounds_toArray, List.set_cons_zero, List.set_cons_succ])
      refine wpAnyT_done (by kernel_rfl) ?_ _
      go_wp2_with (first
        | (refine ld_if (by rfl) 40 _ rfl w3.heap.size rfl 40 _ _ _ HRS.out.hO Tryd.underlying40 rfl refm_size ?_)
        | (refine st_agg rfl 40 _ _ rfl (w.heap.size + 1) #[kv6, xv6] rfl rfl 40 _ HRS.out.hR refm_size rfl (RefM.one (HFIN.out _ _ _ HKV.out HXV.out)) ?_; intro w9 h9 k9))
      exact bodyPost_ret (results_cell_row rfl _ _ (w.heap.size + 1) 40 _ (0, 0) _ rfl h9 Tryd.underlying40 rfl refm_size) rfl ⟨_, rfl, (HFIN.out _ _ _ HKV.out HXV.out).but k9 HRS.out.hR (by decide) (by decide), (HB3.out.trans (HRS.out.bel.mono HB3.out.size)).trans (k9.below (by omega))⟩
    · go_simp
      have hb := Below.newly' V1 (.cells #[.int .i64 x] 3)
      have hl12 := heap_alloc_last V1 (.cells #[.int .i64 x] 3)
      obtain ⟨g12, hg12⟩ : ∃ g12, g12 = V1.heap.size := ⟨_, rfl⟩
      rw [← hg12] at hl12
      replace HL3 := Lib.hid ((hb.block _ (Array.getElem?_eq_some_iff.1 HL3.out).1).trans HL3.out)
      replace HRS := Lib.hid (HRS.out.later hb)
      replace HKV := Lib.hid (HKV.out.later hb)
      replace HXV := Lib.hid (HXV.out.later hb)
      have HL12 := Lib.hid hl12
      rw [← hg12]
      obtain ⟨V2, hV2⟩ : ∃ V', V' = V1.alloc (.cells #[.int .i64 x] 3) := ⟨_, rfl⟩
      rw [← hV2] at HRS HKV HXV HL12 HL3
      rw [← hV2]
      clear hb hl12 hg12 hV2
      refine hK.out _ _ (by exact HKS.out _ HRS.out) (fun hHeld => ?_)
      clear hK K
      (try simp only [Act.put, List.setIfInBounds_toArray, List.set_cons_zero, List.set_cons_succ])
      refine wpAnyT_one (i := 4) (o := ⟨some 39, _, _, _, _, _⟩) (by kernel_rfl) rfl (fun K hK => ?_)
      rw [if_pos (by rfl)]
      refine strs_wp _ _ rfl rfl HKV.out rfl (cutS_lit HL3.out) (by have h1 := HLEN.out; have h2 := HND.out; simp [keysE_len, valsE_len]; omega) ?_
      intro kv5 V3 hk2 hg2
      replace HRS := Lib.hid (HRS.out.strs HKV.out hg2)
      replace HXV := Lib.hid (strs_owns HKV.out hg2 HXV.out)
      replace HL12 := Lib.hid (strs_row HKV.out hg2 HL12.out (by decide))
      replace HKV := Lib.hid hk2
      clear HL3
      clear hk2 hg2
      refine hK.out _ _ (by exact HKS.out _ HRS.out) (fun hHeld => ?_)
      clear hK K
      (try simp only [Act.put, List.setIfInBounds_toArray, List.set_cons_zero, List.set_cons_succ])
      refine wpAnyT_take (i := 10) (oi := ⟨some 45, _, _, _, _, _⟩) (v := ?vg3_8_10) rfl (by kernel_rfl) (by kernel_rfl) (by kernel_rfl) (by kernel_rfl) (fun _ _ _ h => h) (Or.inl ⟨by rfl, ?hg3_8_10⟩) (by assumption) ?rg3_8_10
      case hg3_8_10 => (intro w hSw; (try dsimp only at hSw); first | (go_simp; done) | (go_simp; with_reducible rfl))
      (try simp only [Act.put, List.setIfInBounds_toArray, List.set_cons_zero, List.set_cons_succ])
      refine wpAnyT_one (i := 9) (o := ⟨some 44, _, _, _, _, _⟩) (by kernel_rfl) rfl (fun K hK => ?_)
      rw [if_pos (by rfl)]
      refine ownsN_wp _ _ rfl rfl HXV.out rfl (cutN_lit HL12.out) (by have h1 := HLEN.out; have h2 := HND.out; simp [keysE_len, valsE_len]; omega) ?_
      intro xv5 V4 hk2 hg2
      replace HRS := Lib.hid (HRS.out.owns HXV.out hg2)
      replace HKV := Lib.hid (owns_strs HXV.out hg2 HKV.out)
      replace HXV := Lib.hid hk2
      clear HL12
      clear hk2 hg2
      refine hK.out _ _ (by exact HKS.out _ HRS.out) (fun hHeld => ?_)
      clear hK K
      (try simp only [Act.put, List.setIfInBounds_toArray, List.set_cons_zero, List.set_cons_succ])
      refine wpAnyT_last (i := 11) (o := ⟨none, _, _, _, _, _⟩) (by kernel_rfl) (by decide) rfl (fun K hK => ?_)
      rw [if_pos (by rfl)]
      refine st_cell_wp 37 _ _ rfl w3.heap.size 0 kv5 rfl rfl HKV.out.lsS.one 40 _ HRS.out.hO (by simp) strs_size ?_
      intro V5 h5 k5
      replace HKV := Lib.hid (HKV.out.only k5 HRS.out.hO (by decide))
      replace HXV := Lib.hid (HXV.out.grown k5.by_ (.inr (fun e => owns_not HXV.out HRS.out.hO (by decide) e.symm)))
      replace HRS := Lib.hid (HRS.out.wrote k5 h5 HDIST.out)
      clear h5 k5
      refine hK.out _ _ ?_
      clear hK K
      (try simp only [Act.put, List.setIfInBounds_toArray, List.set_cons_zero, List.set_cons_succ])
      refine wpAnyT_last (i := 12) (o := ⟨some 46, _, _, _, _, _⟩) (by kernel_rfl) (by decide) rfl (fun K hK => ?_)
      go_simp
      refine hK.out _ _ ?_
      clear hK K
      (try simp only [Act.put, List.setIfInBounds_toArray, List.set_cons_zero, List.set_cons_succ])
      refine wpAnyT_last (i := 13) (o := ⟨none, _, _, _, _, _⟩) (by kernel_rfl) (by decide) rfl (fun K hK => ?_)
      rw [if_pos (by rfl)]
      refine st_cell_wp 38 _ _ rfl w3.heap.size 1 xv5 rfl rfl HXV.out.lsI.one 40 _ HRS.out.hO (by simp) ints_size ?_
      intro V6 h6 k6
      replace HKV := Lib.hid (HKV.out.only k6 HRS.out.hO (by decide))
      replace HXV := Lib.hid (HXV.out.grown k6.by_ (.inr (fun e => owns_not HXV.out HRS.out.hO (by decide) e.symm)))
      replace HRS := Lib.hid (HRS.out.wrote k6 h6 HDIST.out)
      clear h6 k6
      refine hK.out _ _ ?_
      clear hK K
      (try simp only [Act.put, List.setIfInBounds_toArray, List.set_cons_zero, List.set_cons_succ])
      refine wpAnyT_done (by kernel_rfl) ?_ _
      go_upto_region 6 with fail
      clear HKS
      have hbd := drawn_below V6
      replace HRS := Lib.hid (HRS.out.later hbd)
      replace HKV := Lib.hid (HKV.out.later hbd)
      replace HXV := Lib.hid (HXV.out.later hbd)
      have HKS : Hid (∀ V, RSt w3 w.heap.size (w.heap.size + 1) w3.heap.size #[.slice a1 N d1, .slice a2 N d2] #[.slice none 0 0, .slice none 0 0] #[kv5, xv5] V → V.cell? ⟨w3.heap.size, 0, none⟩ = some kv5 ∧ V.cell? ⟨w3.heap.size, 1, none⟩ = some xv5 ∧ V.cell? ⟨w.heap.size, 0, none⟩ = some (.slice a1 N d1) ∧ V.cell? ⟨w.heap.size, 1, none⟩ = some (.slice a2 N d2)) := fun V h => ⟨cell_in h.hO rfl, cell_in h.hO rfl, cell_in h.hX rfl, cell_in h.hX rfl⟩
      obtain ⟨V0, hV0⟩ : ∃ V0, V0 = V6.drew := ⟨_, rfl⟩
      rw [← hV0] at HRS HKV HXV
      clear hbd
      refine wp_region_T (S := (fun V => V.cell? ⟨w3.heap.size, 0, none⟩ = some kv5 ∧ V.cell? ⟨w3.heap.size, 1, none⟩ = some xv5 ∧ V.cell? ⟨w.heap.size, 0, none⟩ = some (.slice a1 N d1) ∧ V.cell? ⟨w.heap.size, 1, none⟩ = some (.slice a2 N d2))) [15, 16, 17] (by kernel_rfl) (by rw [← hV0]; exact HKS.out _ HRS.out) (fun hHeld => ?_)
      rw [← hV0] at hHeld ⊢
      clear hV0
      refine wpAnyT_take (i := 0) (oi := ⟨some 47, _, _, _, _, _⟩) (v := ?vg5_1_0) rfl (by kernel_rfl) (by kernel_rfl) (by kernel_rfl) (by kernel_rfl) (fun _ _ _ h => h) (Or.inl ⟨by rfl, ?hg5_1_0⟩) (by assumption) ?rg5_1_0
      case hg5_1_0 => (intro w hSw; (try dsimp only at hSw); first | (go_simp; done) | (go_simp; with_reducible rfl))
      (try simp only [Act.put, List.setIfInBounds_toArray, List.set_cons_zero, List.set_cons_succ])
      refine wpAnyT_take (i := 1) (oi := ⟨some 48, _, _, _, _, _⟩) (v := ?vg5_2_1) rfl (by kernel_rfl) (by kernel_rfl) (by kernel_rfl) (by kernel_rfl) (fun _ _ _ h => h) (Or.inl ⟨by rfl, ?hg5_2_1⟩) (by assumption) ?rg5_2_1
      case hg5_2_1 => (intro w hSw; (try dsimp only at hSw); first | (go_simp; done) | (go_simp; with_reducible rfl))
      (try simp only [Act.put, List.setIfInBounds_toArray, List.set_cons_zero, List.set_cons_succ])
      refine wpAnyT_take (i := 2) (oi := ⟨some 49, _, _, _, _, _⟩) (v := ?vg5_3_2) rfl (by kernel_rfl) (by kernel_rfl) (by kernel_rfl) (by kernel_rfl) (fun _ _ _ h => h) (Or.inl ⟨by rfl, ?hg5_3_2⟩) (by assumption) ?rg5_3_2
      case hg5_3_2 => (intro w hSw; (try dsimp only at hSw); first | (go_simp; done) | (go_simp; with_reducible rfl))
      (try simp only [Act.put, List.setIfInBounds_toArray, List.set_cons_zero, List.set_cons_succ])
      refine wpAnyT_take (i := 3) (oi := ⟨some 50, _, _, _, _, _⟩) (v := ?vg5_4_3) rfl (by kernel_rfl) (by kernel_rfl) (by kernel_rfl) (by kernel_rfl) (fun _ _ _ h => h) (Or.inl ⟨by rfl, ?hg5_4_3⟩) (by assumption) ?rg5_4_3
      case hg5_4_3 => (intro w hSw; (try dsimp only at hSw); first | (go_simp; done) | (go_simp; with_reducible rfl))
      (try simp only [Act.put, List.setIfInBounds_toArray, List.set_cons_zero, List.set_cons_succ])
      refine wpAnyT_take (i := 4) (oi := ⟨some 51, _, _, _, _, _⟩) (v := ?vg5_5_4) rfl (by kernel_rfl) (by kernel_rfl) (by kernel_rfl) (by kernel_rfl) (fun _ _ _ h => h) (Or.inl ⟨by rfl, ?hg5_5_4⟩) (by assumption) ?rg5_5_4
      case hg5_5_4 => (intro w hSw; (try dsimp only at hSw); first | (go_simp; done) | (go_simp; with_reducible rfl))
      (try simp only [Act.put, List.setIfInBounds_toArray, List.set_cons_zero, List.set_cons_succ])
      refine wpAnyT_take (i := 5) (oi := ⟨some 52, _, _, _, _, _⟩) (v := ?vg5_6_5) rfl (by kernel_rfl) (by kernel_rfl) (by kernel_rfl) (by kernel_rfl) (fun _ _ _ h => h) (Or.inl ⟨by rfl, ?hg5_6_5⟩) (by assumption) ?rg5_6_5
      case hg5_6_5 => (intro w hSw; (try dsimp only at hSw); first | (go_simp; done) | (go_simp; with_reducible rfl))
      (try simp only [Act.put, List.setIfInBounds_toArray, List.set_cons_zero, List.set_cons_succ])
      refine wpAnyT_take (i := 7) (oi := ⟨some 54, _, _, _, _, _⟩) (v := ?vg5_7_7) rfl (by kernel_rfl) (by kernel_rfl) (by kernel_rfl) (by kernel_rfl) (fun _ _ _ h => h) (Or.inl ⟨by rfl, ?hg5_7_7⟩) (by assumption) ?rg5_7_7
      case hg5_7_7 => (intro w hSw; (try dsimp only at hSw); first | (go_simp; done) | (go_simp; with_reducible rfl))
      (try simp only [Act.put, List.setIfInBounds_toArray, List.set_cons_zero, List.set_cons_succ])
      refine wpAnyT_take (i := 8) (oi := ⟨some 55, _, _, _, _, _⟩) (v := ?vg5_8_8) rfl (by kernel_rfl) (by kernel_rfl) (by kernel_rfl) (by kernel_rfl) (fun _ _ _ h => h) (Or.inl ⟨by rfl, ?hg5_8_8⟩) (by assumption) ?rg5_8_8
      case hg5_8_8 => (intro w hSw; (try dsimp only at hSw); first | (go_simp; done) | (go_simp; with_reducible rfl))
      (try simp only [Act.put, List.setIfInBounds_toArray, List.set_cons_zero, List.set_cons_succ])
      refine wpAnyT_take (i := 9) (oi := ⟨some 56, _, _, _, _, _⟩) (v := ?vg5_9_9) rfl (by kernel_rfl) (by kernel_rfl) (by kernel_rfl) (by kernel_rfl) (fun _ _ _ h => h) (Or.inl ⟨by rfl, ?hg5_9_9⟩) (by assumption) ?rg5_9_9
      case hg5_9_9 => (intro w hSw; (try dsimp only at hSw); first | (go_simp; done) | (go_simp; with_reducible rfl))
      (try simp only [Act.put, List.setIfInBounds_toArray, List.set_cons_zero, List.set_cons_succ])
      refine wpAnyT_take (i := 10) (oi := ⟨some 57, _, _, _, _, _⟩) (v := ?vg5_10_10) rfl (by kernel_rfl) (by kernel_rfl) (by kernel_rfl) (by kernel_rfl) (fun _ _ _ h => h) (Or.inl ⟨by rfl, ?hg5_10_10⟩) (by assumption) ?rg5_10_10
      case hg5_10_10 => (intro w hSw; (try dsimp only at hSw); first | (go_simp; done) | (go_simp; with_reducible rfl))
      (try simp only [Act.put, List.setIfInBounds_toArray, List.set_cons_zero, List.set_cons_succ])
      refine wpAnyT_take (i := 11) (oi := ⟨some 58, _, _, _, _, _⟩) (v := ?vg5_11_11) rfl (by kernel_rfl) (by kernel_rfl) (by kernel_rfl) (by kernel_rfl) (fun _ _ _ h => h) (Or.inl ⟨by rfl, ?hg5_11_11⟩) (by assumption) ?rg5_11_11
      case hg5_11_11 => (intro w hSw; (try dsimp only at hSw); first | (go_simp; done) | (go_simp; with_reducible rfl))
      (try simp only [Act.put, List.setIfInBounds_toArray, List.set_cons_zero, List.set_cons_succ])
      refine wpAnyT_take (i := 12) (oi := ⟨some 59, _, _, _, _, _⟩) (v := ?vg5_12_12) rfl (by kernel_rfl) (by kernel_rfl) (by kernel_rfl) (by kernel_rfl) (fun _ _ _ h => h) (Or.inl ⟨by rfl, ?hg5_12_12⟩) (by assumption) ?rg5_12_12
      case hg5_12_12 => (intro w hSw; (try dsimp only at hSw); first | (go_simp; done) | (go_simp; with_reducible rfl))
      (try simp only [Act.put, List.setIfInBounds_toArray, List.set_cons_zero, List.set_cons_succ])
      refine wpAnyT_one (i := 6) (o := ⟨some 53, _, _, _, _, _⟩) (by kernel_rfl) rfl (fun K hK => ?_)
      rw [if_pos (by rfl)]
      refine strs_wp _ _ rfl rfl HKV.out rfl (HCK2.out.later HRS.out.bel) (by have h1 := HLEN.out; have h2 := HND.out; simp [keysE_len, valsE_len]; omega) ?_
      intro kv6 V1 hk2 hg2
      replace HRS := Lib.hid (HRS.out.strs HKV.out hg2)
      replace HXV := Lib.hid (strs_owns HKV.out hg2 HXV.out)
      replace HKV := Lib.hid hk2
      clear hk2 hg2
      refine hK.out _ _ (by exact HKS.out _ HRS.out) (fun hHeld => ?_)
      clear hK K
      (try simp only [Act.put, List.setIfInBounds_toArray, List.set_cons_zero, List.set_cons_succ])
      refine wpAnyT_take (i := 14) (oi := ⟨some 61, _, _, _, _, _⟩) (v := ?vg5_13_14) rfl (by kernel_rfl) (by kernel_rfl) (by kernel_rfl) (by kernel_rfl) (fun _ _ _ h => h) (Or.inl ⟨by rfl, ?hg5_13_14⟩) (by assumption) ?rg5_13_14
      case hg5_13_14 => (intro w hSw; (try dsimp only at hSw); first | (go_simp; done) | (go_simp; with_reducible rfl))
      (try simp only [Act.put, List.setIfInBounds_toArray, List.set_cons_zero, List.set_cons_succ])
      refine wpAnyT_one (i := 13) (o := ⟨some 60, _, _, _, _, _⟩) (by kernel_rfl) rfl (fun K hK => ?_)
      rw [if_pos (by rfl)]
      refine ownsN_wp _ _ rfl rfl HXV.out rfl (HCX2.out.later HRS.out.bel) (by have h1 := HLEN.out; have h2 := HND.out; simp [keysE_len, valsE_len]; omega) ?_
      intro xv6 V2 hk2 hg2
      replace HRS := Lib.hid (HRS.out.owns HXV.out hg2)
      replace HKV := Lib.hid (owns_strs HXV.out hg2 HKV.out)
      replace HXV := Lib.hid hk2
      clear hk2 hg2
      refine hK.out _ _ (by exact HKS.out _ HRS.out) (fun hHeld => ?_)
      clear hK K
      (try simp only [Act.put, List.setIfInBounds_toArray, List.set_cons_zero, List.set_cons_succ])
      refine wpAnyT_last (i := 15) (o := ⟨none, _, _, _, _, _⟩) (by kernel_rfl) (by decide) rfl (fun K hK => ?_)
      rw [if_pos (by rfl)]
      refine st_cell_wp 37 _ _ rfl w3.heap.size 0 kv6 rfl rfl HKV.out.lsS.one 40 _ HRS.out.hO (by simp) strs_size ?_
      intro V3 h3 k3
      replace HKV := Lib.hid (HKV.out.only k3 HRS.out.hO (by decide))
      replace HXV := Lib.hid (HXV.out.grown k3.by_ (.inr (fun e => owns_not HXV.out HRS.out.hO (by decide) e.symm)))
      replace HRS := Lib.hid (HRS.out.wrote k3 h3 HDIST.out)
      clear h3 k3
      refine hK.out _ _ ?_
      clear hK K
      (try simp only [Act.put, List.setIfInBounds_toArray, List.set_cons_zero, List.set_cons_succ])
      refine wpAnyT_last (i := 16) (o := ⟨some 62, _, _, _, _, _⟩) (by kernel_rfl) (by decide) rfl (fun K hK => ?_)
      go_simp
      refine hK.out _ _ ?_
      clear hK K
      (try simp only [Act.put, List.setIfInBounds_toArray, List.set_cons_zero, List.set_cons_succ])
      refine wpAnyT_last (i := 17) (o := ⟨none, _, _, _, _, _⟩) (by kernel_rfl) (by decide) rfl (fun K hK => ?_)
      rw [if_pos (by rfl)]
      refine st_cell_wp 38 _ _ rfl w3.heap.size 1 xv6 rfl rfl HXV.out.lsI.one 40 _ HRS.out.hO (by simp) ints_size ?_
      intro V4 h4 k4
      replace HKV := Lib.hid (HKV.out.only k4 HRS.out.hO (by decide))
      replace HXV := Lib.hid (HXV.out.grown k4.by_ (.inr (fun e => owns_not HXV.out HRS.out.hO (by decide) e.symm)))
      replace HRS := Lib.hid (HRS.out.wrote k4 h4 HDIST.out)
      clear h4 k4
      refine hK.out _ _ ?_
      clear hK K
      (try simp only [Act.put, List.setIfInBounds_toArray, List.set_cons_zero, List.set_cons_succ])
      refine wpAnyT_done (by kernel_rfl) ?_ _
      go_wp2_with (first
        | (refine ld_if (by rfl) 40 _ rfl w3.heap.size rfl 40 _ _ _ HRS.out.hO Tryd.underlying40 rfl refm_size ?_)
        | (refine st_agg rfl 40 _ _ rfl (w.heap.size + 1) #[kv6, xv6] rfl rfl 40 _ HRS.out.hR refm_size rfl (RefM.one (HFIN.out _ _ _ HKV.out HXV.out)) ?_; intro w9 h9 k9))
      exact bodyPost_ret (results_cell_row rfl _ _ (w.heap.size + 1) 40 _ (0, 0) _ rfl h9 Tryd.underlying40 rfl refm_size) rfl ⟨_, rfl, (HFIN.out _ _ _ HKV.out HXV.out).but k9 HRS.out.hR (by decide) (by decide), (HB3.out.trans (HRS.out.bel.mono HB3.out.size)).trans (k9.below (by omega))⟩
  · go_simp
    have hb := Below.newly' V0 (.cells #[.int .i64 x] 3)
    have hl12 := heap_alloc_last V0 (.cells #[.int .i64 x] 3)
    obtain ⟨g12, hg12⟩ : ∃ g12, g12 = V0.heap.size := ⟨_, rfl⟩
    rw [← hg12] at hl12
    replace HRS := Lib.hid (HRS.out.later hb)
    replace HKV := Lib.hid (HKV.out.later hb)
    replace HXV := Lib.hid (HXV.out.later hb)
    have HL12 := Lib.hid hl12
    rw [← hg12]
    obtain ⟨V1, hV1⟩ : ∃ V', V' = V0.alloc (.cells #[.int .i64 x] 3) := ⟨_, rfl⟩
    rw [← hV1] at HRS HKV HXV HL12
    rw [← hV1]
    clear hb hl12 hg12 hV1
    refine hK.out _ _ (by exact HKS.out _ HRS.out) (fun hHeld => ?_)
    clear hK K
    (try simp only [Act.put, List.setIfInBounds_toArray, List.set_cons_zero, List.set_cons_succ])
    refine wpAnyT_one (i := 3) (o := ⟨some 38, _, _, _, _, _⟩) (by kernel_rfl) rfl (fun K hK => ?_)
    go_simp
    have hb := Below.newly' V1 (.cells #[.string k] 9)
    have hl3 := heap_alloc_last V1 (.cells #[.string k] 9)
    obtain ⟨g3, hg3⟩ : ∃ g3, g3 = V1.heap.size := ⟨_, rfl⟩
    rw [← hg3] at hl3
    replace HL12 := Lib.hid ((hb.block _ (Array.getElem?_eq_some_iff.1 HL12.out).1).trans HL12.out)
    replace HRS := Lib.hid (HRS.out.later hb)
    replace HKV := Lib.hid (HKV.out.later hb)
    replace HXV := Lib.hid (HXV.out.later hb)
    have HL3 := Lib.hid hl3
    rw [← hg3]
    obtain ⟨V2, hV2⟩ : ∃ V', V' = V1.alloc (.cells #[.string k] 9) := ⟨_, rfl⟩
    rw [← hV2] at HRS HKV HXV HL3 HL12
    rw [← hV2]
    clear hb hl3 hg3 hV2
    refine hK.out _ _ (by exact HKS.out _ HRS.out) (fun hHeld => ?_)
    clear hK K
    (try simp only [Act.put, List.setIfInBounds_toArray, List.set_cons_zero, List.set_cons_succ])
    refine wpAnyT_one (i := 4) (o := ⟨some 39, _, _, _, _, _⟩) (by kernel_rfl) rfl (fun K hK => ?_)
    rw [if_pos (by rfl)]
    refine strs_wp _ _ rfl rfl HKV.out rfl (cutS_lit HL3.out) (by have h1 := HLEN.out; have h2 := HND.out; simp [keysE_len, valsE_len]; omega) ?_
    intro kv5 V3 hk2 hg2
    replace HRS := Lib.hid (HRS.out.strs HKV.out hg2)
    replace HXV := Lib.hid (strs_owns HKV.out hg2 HXV.out)
    replace HL12 := Lib.hid (strs_row HKV.out hg2 HL12.out (by decide))
    replace HKV := Lib.hid hk2
    clear HL3
    clear hk2 hg2
    refine hK.out _ _ (by exact HKS.out _ HRS.out) (fun hHeld => ?_)
    clear hK K
    (try simp only [Act.put, List.setIfInBounds_toArray, List.set_cons_zero, List.set_cons_succ])
    refine wpAnyT_take (i := 10) (oi := ⟨some 45, _, _, _, _, _⟩) (v := ?vg3_9_10) rfl (by kernel_rfl) (by kernel_rfl) (by kernel_rfl) (by kernel_rfl) (fun _ _ _ h => h) (Or.inl ⟨by rfl, ?hg3_9_10⟩) (by assumption) ?rg3_9_10
    case hg3_9_10 => (intro w hSw; (try dsimp only at hSw); first | (go_simp; done) | (go_simp; with_reducible rfl))
    (try simp only [Act.put, List.setIfInBounds_toArray, List.set_cons_zero, List.set_cons_succ])
    refine wpAnyT_one (i := 9) (o := ⟨some 44, _, _, _, _, _⟩) (by kernel_rfl) rfl (fun K hK => ?_)
    rw [if_pos (by rfl)]
    refine ownsN_wp _ _ rfl rfl HXV.out rfl (cutN_lit HL12.out) (by have h1 := HLEN.out; have h2 := HND.out; simp [keysE_len, valsE_len]; omega) ?_
    intro xv5 V4 hk2 hg2
    replace HRS := Lib.hid (HRS.out.owns HXV.out hg2)
    replace HKV := Lib.hid (owns_strs HXV.out hg2 HKV.out)
    replace HXV := Lib.hid hk2
    clear HL12
    clear hk2 hg2
    refine hK.out _ _ (by exact HKS.out _ HRS.out) (fun hHeld => ?_)
    clear hK K
    (try simp only [Act.put, List.setIfInBounds_toArray, List.set_cons_zero, List.set_cons_succ])
    refine wpAnyT_last (i := 11) (o := ⟨none, _, _, _, _, _⟩) (by kernel_rfl) (by decide) rfl (fun K hK => ?_)
    rw [if_pos (by rfl)]
    refine st_cell_wp 37 _ _ rfl w3.heap.size 0 kv5 rfl rfl HKV.out.lsS.one 40 _ HRS.out.hO (by simp) strs_size ?_
    intro V5 h5 k5
    replace HKV := Lib.hid (HKV.out.only k5 HRS.out.hO (by decide))
    replace HXV := Lib.hid (HXV.out.grown k5.by_ (.inr (fun e => owns_not HXV.out HRS.out.hO (by decide) e.symm)))
    replace HRS := Lib.hid (HRS.out.wrote k5 h5 HDIST.out)
    clear h5 k5
    refine hK.out _ _ ?_
    clear hK K
    (try simp only [Act.put, List.setIfInBounds_toArray, List.set_cons_zero, List.set_cons_succ])
    refine wpAnyT_last (i := 12) (o := ⟨some 46, _, _, _, _, _⟩) (by kernel_rfl) (by decide) rfl (fun K hK => ?_)
    go_simp
    refine hK.out _ _ ?_
    clear hK K
    (try simp only [Act.put, List.setIfInBounds_toArray, List.set_cons_zero, List.set_cons_succ])
    refine wpAnyT_last (i := 13) (o := ⟨none, _, _, _, _, _⟩) (by kernel_rfl) (by decide) rfl (fun K hK => ?_)
    rw [if_pos (by rfl)]
    refine st_cell_wp 38 _ _ rfl w3.heap.size 1 xv5 rfl rfl HXV.out.lsI.one 40 _ HRS.out.hO (by simp) ints_size ?_
    intro V6 h6 k6
    replace HKV := Lib.hid (HKV.out.only k6 HRS.out.hO (by decide))
    replace HXV := Lib.hid (HXV.out.grown k6.by_ (.inr (fun e => owns_not HXV.out HRS.out.hO (by decide) e.symm)))
    replace HRS := Lib.hid (HRS.out.wrote k6 h6 HDIST.out)
    clear h6 k6
    refine hK.out _ _ ?_
    clear hK K
    (try simp only [Act.put, List.setIfInBounds_toArray, List.set_cons_zero, List.set_cons_succ])
    refine wpAnyT_done (by kernel_rfl) ?_ _
    go_upto_region 6 with fail
    clear HKS
    have hbd := drawn_below V6
    replace HRS := Lib.hid (HRS.out.later hbd)
    replace HKV := Lib.hid (HKV.out.later hbd)
    replace HXV := Lib.hid (HXV.out.later hbd)
    have HKS : Hid (∀ V, RSt w3 w.heap.size (w.heap.size + 1) w3.heap.size #[.slice a1 N d1, .slice a2 N d2] #[.slice none 0 0, .slice none 0 0] #[kv5, xv5] V → V.cell? ⟨w3.heap.size, 0, none⟩ = some kv5 ∧ V.cell? ⟨w3.heap.size, 1, none⟩ = some xv5 ∧ V.cell? ⟨w.heap.size, 0, none⟩ = some (.slice a1 N d1) ∧ V.cell? ⟨w.heap.size, 1, none⟩ = some (.slice a2 N d2)) := fun V h => ⟨cell_in h.hO rfl, cell_in h.hO rfl, cell_in h.hX rfl, cell_in h.hX rfl⟩
    obtain ⟨V0, hV0⟩ : ∃ V0, V0 = V6.drew := ⟨_, rfl⟩
    rw [← hV0] at HRS HKV HXV
    clear hbd
    refine wp_region_T (S := (fun V => V.cell? ⟨w3.heap.size, 0, none⟩ = some kv5 ∧ V.cell? ⟨w3.heap.size, 1, none⟩ = some xv5 ∧ V.cell? ⟨w.heap.size, 0, none⟩ = some (.slice a1 N d1) ∧ V.cell? ⟨w.heap.size, 1, none⟩ = some (.slice a2 N d2))) [15, 16, 17] (by kernel_rfl) (by rw [← hV0]; exact HKS.out _ HRS.out) (fun hHeld => ?_)
    rw [← hV0] at hHeld ⊢
    clear hV0
    refine wpAnyT_take (i := 0) (oi := ⟨some 47, _, _, _, _, _⟩) (v := ?vg6_1_0) rfl (by kernel_rfl) (by kernel_rfl) (by kernel_rfl) (by kernel_rfl) (fun _ _ _ h => h) (Or.inl ⟨by rfl, ?hg6_1_0⟩) (by assumption) ?rg6_1_0
    case hg6_1_0 => (intro w hSw; (try dsimp only at hSw); first | (go_simp; done) | (go_simp; with_reducible rfl))
    (try simp only [Act.put, List.setIfInBounds_toArray, List.set_cons_zero, List.set_cons_succ])
    refine wpAnyT_take (i := 1) (oi := ⟨some 48, _, _, _, _, _⟩) (v := ?vg6_2_1) rfl (by kernel_rfl) (by kernel_rfl) (by kernel_rfl) (by kernel_rfl) (fun _ _ _ h => h) (Or.inl ⟨by rfl, ?hg6_2_1⟩) (by assumption) ?rg6_2_1
    case hg6_2_1 => (intro w hSw; (try dsimp only at hSw); first | (go_simp; done) | (go_simp; with_reducible rfl))
    (try simp only [Act.put, List.setIfInBounds_toArray, List.set_cons_zero, List.set_cons_succ])
    refine wpAnyT_take (i := 2) (oi := ⟨some 49, _, _, _, _, _⟩) (v := ?vg6_3_2) rfl (by kernel_rfl) (by kernel_rfl) (by kernel_rfl) (by kernel_rfl) (fun _ _ _ h => h) (Or.inl ⟨by rfl, ?hg6_3_2⟩) (by assumption) ?rg6_3_2
    case hg6_3_2 => (intro w hSw; (try dsimp only at hSw); first | (go_simp; done) | (go_simp; with_reducible rfl))
    (try simp only [Act.put, List.setIfInBounds_toArray, List.set_cons_zero, List.set_cons_succ])
    refine wpAnyT_take (i := 3) (oi := ⟨some 50, _, _, _, _, _⟩) (v := ?vg6_4_3) rfl (by kernel_rfl) (by kernel_rfl) (by kernel_rfl) (by kernel_rfl) (fun _ _ _ h => h) (Or.inl ⟨by rfl, ?hg6_4_3⟩) (by assumption) ?rg6_4_3
    case hg6_4_3 => (intro w hSw; (try dsimp only at hSw); first | (go_simp; done) | (go_simp; with_reducible rfl))
    (try simp only [Act.put, List.setIfInBounds_toArray, List.set_cons_zero, List.set_cons_succ])
    refine wpAnyT_take (i := 4) (oi := ⟨some 51, _, _, _, _, _⟩) (v := ?vg6_5_4) rfl (by kernel_rfl) (by kernel_rfl) (by kernel_rfl) (by kernel_rfl) (fun _ _ _ h => h) (Or.inl ⟨by rfl, ?hg6_5_4⟩) (by assumption) ?rg6_5_4
    case hg6_5_4 => (intro w hSw; (try dsimp only at hSw); first | (go_simp; done) | (go_simp; with_reducible rfl))
    (try simp only [Act.put, List.setIfInBounds_toArray, List.set_cons_zero, List.set_cons_succ])
    refine wpAnyT_take (i := 5) (oi := ⟨some 52, _, _, _, _, _⟩) (v := ?vg6_6_5) rfl (by kernel_rfl) (by kernel_rfl) (by kernel_rfl) (by kernel_rfl) (fun _ _ _ h => h) (Or.inl ⟨by rfl, ?hg6_6_5⟩) (by assumption) ?rg6_6_5
    case hg6_6_5 => (intro w hSw; (try dsimp only at hSw); first | (go_simp; done) | (go_simp; with_reducible rfl))
    (try simp only [Act.put, List.setIfInBounds_toArray, List.set_cons_zero, List.set_cons_succ])
    refine wpAnyT_take (i := 7) (oi := ⟨some 54, _, _, _, _, _⟩) (v := ?vg6_7_7) rfl (by kernel_rfl) (by kernel_rfl) (by kernel_rfl) (by kernel_rfl) (fun _ _ _ h => h) (Or.inl ⟨by rfl, ?hg6_7_7⟩) (by assumption) ?rg6_7_7
    case hg6_7_7 => (intro w hSw; (try dsimp only at hSw); first | (go_simp; done) | (go_simp; with_reducible rfl))
    (try simp only [Act.put, List.setIfInBounds_toArray, List.set_cons_zero, List.set_cons_succ])
    refine wpAnyT_take (i := 8) (oi := ⟨some 55, _, _, _, _, _⟩) (v := ?vg6_8_8) rfl (by kernel_rfl) (by kernel_rfl) (by kernel_rfl) (by kernel_rfl) (fun _ _ _ h => h) (Or.inl ⟨by rfl, ?hg6_8_8⟩) (by assumption) ?rg6_8_8
    case hg6_8_8 => (intro w hSw; (try dsimp only at hSw); first | (go_simp; done) | (go_simp; with_reducible rfl))
    (try simp only [Act.put, List.setIfInBounds_toArray, List.set_cons_zero, List.set_cons_succ])
    refine wpAnyT_take (i := 9) (oi := ⟨some 56, _, _, _, _, _⟩) (v := ?vg6_9_9) rfl (by kernel_rfl) (by kernel_rfl) (by kernel_rfl) (by kernel_rfl) (fun _ _ _ h => h) (Or.inl ⟨by rfl, ?hg6_9_9⟩) (by assumption) ?rg6_9_9
    case hg6_9_9 => (intro w hSw; (try dsimp only at hSw); first | (go_simp; done) | (go_simp; with_reducible rfl))
    (try simp only [Act.put, List.setIfInBounds_toArray, List.set_cons_zero, List.set_cons_succ])
    refine wpAnyT_take (i := 10) (oi := ⟨some 57, _, _, _, _, _⟩) (v := ?vg6_10_10) rfl (by kernel_rfl) (by kernel_rfl) (by kernel_rfl) (by kernel_rfl) (fun _ _ _ h => h) (Or.inl ⟨by rfl, ?hg6_10_10⟩) (by assumption) ?rg6_10_10
    case hg6_10_10 => (intro w hSw; (try dsimp only at hSw); first | (go_simp; done) | (go_simp; with_reducible rfl))
    (try simp only [Act.put, List.setIfInBounds_toArray, List.set_cons_zero, List.set_cons_succ])
    refine wpAnyT_take (i := 11) (oi := ⟨some 58, _, _, _, _, _⟩) (v := ?vg6_11_11) rfl (by kernel_rfl) (by kernel_rfl) (by kernel_rfl) (by kernel_rfl) (fun _ _ _ h => h) (Or.inl ⟨by rfl, ?hg6_11_11⟩) (by assumption) ?rg6_11_11
    case hg6_11_11 => (intro w hSw; (try dsimp only at hSw); first | (go_simp; done) | (go_simp; with_reducible rfl))
    (try simp only [Act.put, List.setIfInBounds_toArray, List.set_cons_zero, List.set_cons_succ])
    refine wpAnyT_take (i := 12) (oi := ⟨some 59, _, _, _, _, _⟩) (v := ?vg6_12_12) rfl (by kernel_rfl) (by kernel_rfl) (by kernel_rfl) (by kernel_rfl) (fun _ _ _ h => h) (Or.inl ⟨by rfl, ?hg6_12_12⟩) (by assumption) ?rg6_12_12
    case hg6_12_12 => (intro w hSw; (try dsimp only at hSw); first | (go_simp; done) | (go_simp; with_reducible rfl))
    (try simp only [Act.put, List.setIfInBounds_toArray, List.set_cons_zero, List.set_cons_succ])
    refine wpAnyT_one (i := 6) (o := ⟨some 53, _, _, _, _, _⟩) (by kernel_rfl) rfl (fun K hK => ?_)
    rw [if_pos (by rfl)]
    refine strs_wp _ _ rfl rfl HKV.out rfl (HCK2.out.later HRS.out.bel) (by have h1 := HLEN.out; have h2 := HND.out; simp [keysE_len, valsE_len]; omega) ?_
    intro kv6 V1 hk2 hg2
    replace HRS := Lib.hid (HRS.out.strs HKV.out hg2)
    replace HXV := Lib.hid (strs_owns HKV.out hg2 HXV.out)
    replace HKV := Lib.hid hk2
    clear hk2 hg2
    refine hK.out _ _ (by exact HKS.out _ HRS.out) (fun hHeld => ?_)
    clear hK K
    (try simp only [Act.put, List.setIfInBounds_toArray, List.set_cons_zero, List.set_cons_succ])
    refine wpAnyT_take (i := 14) (oi := ⟨some 61, _, _, _, _, _⟩) (v := ?vg6_13_14) rfl (by kernel_rfl) (by kernel_rfl) (by kernel_rfl) (by kernel_rfl) (fun _ _ _ h => h) (Or.inl ⟨by rfl, ?hg6_13_14⟩) (by assumption) ?rg6_13_14
    case hg6_13_14 => (intro w hSw; (try dsimp only at hSw); first | (go_simp; done) | (go_simp; with_reducible rfl))
    (try simp only [Act.put, List.setIfInBounds_toArray, List.set_cons_zero, List.set_cons_succ])
    refine wpAnyT_one (i := 13) (o := ⟨some 60, _, _, _, _, _⟩) (by kernel_rfl) rfl (fun K hK => ?_)
    rw [if_pos (by rfl)]
    refine ownsN_wp _ _ rfl rfl HXV.out rfl (HCX2.out.later HRS.out.bel) (by have h1 := HLEN.out; have h2 := HND.out; simp [keysE_len, valsE_len]; omega) ?_
    intro xv6 V2 hk2 hg2
    replace HRS := Lib.hid (HRS.out.owns HXV.out hg2)
    replace HKV := Lib.hid (owns_strs HXV.out hg2 HKV.out)
    replace HXV := Lib.hid hk2
    clear hk2 hg2
    refine hK.out _ _ (by exact HKS.out _ HRS.out) (fun hHeld => ?_)
    clear hK K
    (try simp only [Act.put, List.setIfInBounds_toArray, List.set_cons_zero, List.set_cons_succ])
    refine wpAnyT_last (i := 15) (o := ⟨none, _, _, _, _, _⟩) (by kernel_rfl) (by decide) rfl (fun K hK => ?_)
    rw [if_pos (by rfl)]
    refine st_cell_wp 37 _ _ rfl w3.heap.size 0 kv6 rfl rfl HKV.out.lsS.one 40 _ HRS.out.hO (by simp) strs_size ?_
    intro V3 h3 k3
    replace HKV := Lib.hid (HKV.out.only k3 HRS.out.hO (by decide))
    replace HXV := Lib.hid (HXV.out.grown k3.by_ (.inr (fun e => owns_not HXV.out HRS.out.hO (by decide) e.symm)))
    replace HRS := Lib.hid (HRS.out.wrote k3 h3 HDIST.out)
    clear h3 k3
    refine hK.out _ _ ?_
    clear hK K
    (try simp only [Act.put, List.setIfInBounds_toArray, List.set_cons_zero, List.set_cons_succ])
    refine wpAnyT_last (i := 16) (o := ⟨some 62, _, _, _, _, _⟩) (by kernel_rfl) (by decide) rfl (fun K hK => ?_)
    go_simp
    refine hK.out _ _ ?_
    clear hK K
    (try simp only [Act.put, List.setIfInBounds_toArray, List.set_cons_zero, List.set_cons_succ])
    refine wpAnyT_last (i := 17) (o := ⟨none, _, _, _, _, _⟩) (by kernel_rfl) (by decide) rfl (fun K hK => ?_)
    rw [if_pos (by rfl)]
    refine st_cell_wp 38 _ _ rfl w3.heap.size 1 xv6 rfl rfl HXV.out.lsI.one 40 _ HRS.out.hO (by simp) ints_size ?_
    intro V4 h4 k4
    replace HKV := Lib.hid (HKV.out.only k4 HRS.out.hO (by decide))
    replace HXV := Lib.hid (HXV.out.grown k4.by_ (.inr (fun e => owns_not HXV.out HRS.out.hO (by decide) e.symm)))
    replace HRS := Lib.hid (HRS.out.wrote k4 h4 HDIST.out)
    clear h4 k4
    refine hK.out _ _ ?_
    clear hK K
    (try simp only [Act.put, List.setIfInBounds_toArray, List.set_cons_zero, List.set_cons_succ])
    refine wpAnyT_done (by kernel_rfl) ?_ _
    go_wp2_with (first
      | (refine ld_if (by rfl) 40 _ rfl w3.heap.size rfl 40 _ _ _ HRS.out.hO Tryd.underlying40 rfl refm_size ?_)
      | (refine st_agg rfl 40 _ _ rfl (w.heap.size + 1) #[kv6, xv6] rfl rfl 40 _ HRS.out.hR refm_size rfl (RefM.one (HFIN.out _ _ _ HKV.out HXV.out)) ?_; intro w9 h9 k9))
    exact bodyPost_ret (results_cell_row rfl _ _ (w.heap.size + 1) 40 _ (0, 0) _ rfl h9 Tryd.underlying40 rfl refm_size) rfl ⟨_, rfl, (HFIN.out _ _ _ HKV.out HXV.out).but k9 HRS.out.hR (by decide) (by decide), (HB3.out.trans (HRS.out.bel.mono HB3.out.size)).trans (k9.below (by omega))⟩
end Go.Proofs.YtnnlfgfgfegjkaaDoor
