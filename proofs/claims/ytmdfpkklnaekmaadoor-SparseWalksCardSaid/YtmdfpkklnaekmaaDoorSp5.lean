/- Package sparse: Cut. (written by tools/gen06/spset.py) -/
import Derived.Test.YtmdfpkklnaekmaaDoorSp4
namespace Go.Proofs.YtmdfpkklnaekmaaDoor
open Go.RowKit
set_option maxRecDepth 1000000
set_option linter.unusedSimpArgs false

theorem cut_none {R : Rw} {j : Nat} (hj : j < 32) (h : (R j).isSome = false) : cutR R (j : Int) = R := by
  rw [cut_on hj]
  funext k
  split
  · rename_i e
    subst e
    cases hr : R k with
    | none => rfl
    | some x => rw [hr] at h; cases h
  · rfl
set_option maxHeartbeats 4000000 in
theorem sp_Cut (W : World) (R : Rw) (c : Array Value) (i : Int) (h : At6 W R c) :
    Calls Tryd.prog 24 #[.agg c, .int .i64 i] W fun e W' => ∃ c', e = .returned (.agg c') ∧ At6 W' (cutR R i) c' ∧ Below W.heap.size W W' := by
  by_cases ho : onP i = true
  · have hok0 := h.1
    have hok := h.1.cut i
    obtain ⟨_, v, rfl, h2⟩ := h
    obtain ⟨j, rfl, hj⟩ := on_nat ho
    have HB := Lib.hid (sp_bit_on j hj)
    have hz := cut_bits R hj
    have hm := and_bit_on R hj
    have hm0 := and_bit_off R (j := j)
    obtain ⟨b', hb'⟩ : ∃ b', b' = bitsR (cutR R (j : Int)) 32 := ⟨_, rfl⟩
    rw [← hb'] at hz
    obtain ⟨p, hp⟩ : ∃ p, p = 2 ^ j := ⟨_, rfl⟩
    rw [← hp] at HB hz hm hm0
    have hpn : ((p : Int) == 0) = false := beq_eq_false_iff_ne.2 (by have : 0 < p := by rw [hp]; exact Nat.two_pow_pos j
                                                                     omega)
    have HA := Lib.hid (fun w => sp_around (bitsR R 32) (lt_32 R) v j hj w)
    rw [rk_cnt R j (by omega), rk_cnt R (j + 1) (by omega)] at HA
    have HOK := Lib.hid hok
    have HL := Lib.hid h2
    have HS := Lib.hid (lis_cut R hj)
    have hc1 := cnt_mono R (show j ≤ j + 1 by omega)
    have hc2 := cnt_mono R (show j + 1 ≤ 32 by omega)
    have hc3 := cnt_le R 32
    have HLEN := Lib.hid (show ((lisR R).take (cntR R j)).length + ((lisR R).drop (cntR R (j + 1))).length ≤ 4000 by rw [List.length_take, List.length_drop, lisR_len]; omega)
    rw [← lisR_len] at hc2
    obtain ⟨a1, n1, c1, a3, n3, c3, hs1, hs3, hr1, hr3⟩ := sp_cuts h2 (cntR R j) (cntR R (j + 1)) (by omega) hc2
    have HS1' := Lib.hid hs1
    have HS3' := Lib.hid hs3
    clear hs1 hs3
    clear ho h2 hok hc1 hc2 hc3
    have HP := Lib.hid hp
    have HB' := Lib.hid hb'
    clear hp hb'
    by_cases hsome : (R j).isSome = true
    case neg =>
      have hz0 := hm0 (by simpa using hsome)
      have HH : Hid (At6 W (cutR R (j : Int)) #[.int .u32 (bitsR R 32 : Nat), v]) := by
        rw [cut_none hj (by simpa using hsome)]
        exact ⟨hok0, v, rfl, HL.out⟩
      clear hm hm0 hz hok0
      obtain ⟨a, n, rfl, _⟩ := HL.out.shape
      have hl := heap_alloc_last (W.alloc (.cells #[.int .u32 (bitsR R 32 : Nat), .slice a (lisR R).length n] 27)) (.cells #[.int .u32 0, .slice none 0 0] 27)
      rw [World.size_alloc] at hl
      have HY := Lib.hid (fun m => (show (((W.alloc (.cells #[.int .u32 (bitsR R 32 : Nat), .slice a (lisR R).length n] 27)).alloc (.cells #[.int .u32 0, .slice none 0 0] 27)).drewN m).heap[W.heap.size + 1]? = _ from hl))
      clear hl
      go_enter Tryd.func24, Tryd.ntmps24
      go_upto_region 1 with fail
      go_quiet (first | (go_at_call 30; exact Calls.quiet_of_same (HB.out _)))
      go_wp2_with (refine st_agg rfl 27 _ _ rfl (W.heap.size + 1) #[.int .u32 (bitsR R 32 : Nat), .slice a (lisR R).length n] rfl rfl 27 #[.int .u32 0, .slice none 0 0] (HY.out _) zeroRow_info rfl (by simp [Value.oneCell']) ?_; intro w6 h6 k6)
      refine bodyPost_ret (results_cell_row rfl _ _ (W.heap.size + 1) 27 _ (0, 0) _ rfl h6 Tryd.underlying27 rfl zeroRow_info) rfl ⟨_, rfl, HH.out.later ((Below.drewMany (Below.more (Below.newly' _ _) _) _).trans (k6.below (by omega))), (Below.drewMany (Below.more (Below.newly' _ _) _) _).trans (k6.below (by omega))⟩
    have hz1 := hm hsome
    clear hm hm0 hok0
    go_enter Tryd.func24, Tryd.ntmps24
    go_upto_region 1 with fail
    go_quiet (first | (go_at_call 30; exact Calls.quiet_of_same (HB.out _)))
    go_upto_region 4 with (first
      | (go_at_call 31; refine (HA.out _).mono ?_; rintro e w3 ⟨rfl, hb⟩))
    obtain ⟨w2, hw2⟩ : ∃ w2, w2 = (W.alloc (.cells #[.int .u32 (bitsR R 32 : Nat), v] 27)).alloc (.cells #[.int .u32 0, .slice none 0 0] 27) := ⟨_, rfl⟩
    have hb2 : Below W.heap.size W w2 := by rw [hw2]; exact Below.more (Below.newly' _ _) _
    have hX2 : w2.heap[W.heap.size]? = some (.cells #[.int .u32 (bitsR R 32 : Nat), v] 27 (0, 0)) := by rw [hw2]; exact ((Below.newly' _ _).block _ (by simp)).trans (heap_alloc_last _ _)
    have hY2 : w2.heap[W.heap.size + 1]? = some (.cells #[.int .u32 0, .slice none 0 0] 27 (0, 0)) := by
      have h := heap_alloc_last (W.alloc (.cells #[.int .u32 (bitsR R 32 : Nat), v] 27)) (.cells #[.int .u32 0, .slice none 0 0] 27)
      rw [hw2]
      simpa using h
    replace hb : Below w2.heap.size w2 w3 := by
      rw [hw2]
      refine Below.trans (Below.drewMany (Below.refl _ _) _) (hb.mono ?_)
      simp
    clear hw2
    have hs2 := (Array.getElem?_eq_some_iff.1 hY2).1
    have hX3 := (hb.block _ (by omega)).trans hX2
    have hY3 := (hb.block _ hs2).trans hY2
    have hb3 : Below W.heap.size W w3 := hb2.trans (hb.mono (by omega))
    have HSZ := Lib.hid (show W.heap.size + 1 < w3.heap.size from (Array.getElem?_eq_some_iff.1 hY3).1)
    have HK : Hid (w3.drew.cell? ⟨W.heap.size, 0, none⟩ = some (.int .u32 (bitsR R 32 : Nat)) ∧ w3.drew.cell? ⟨W.heap.size, 1, none⟩ = some v) := ⟨cell_in (W := w3) hX3 rfl, cell_in (W := w3) hX3 rfl⟩
    have HY : Hid (w3.drew.heap[W.heap.size + 1]? = some (.cells #[.int .u32 0, .slice none 0 0] 27 (0, 0))) := hY3
    have HS1 : Hid (SegAt w3.drew (.slice a1 n1 c1) ((lisR R).take (cntR R j))) := HS1'.out.later (hb3.trans (Below.drewMany (Below.refl _ w3) 1))
    have HS3 : Hid (SegAt w3.drew (.slice a3 n3 c3) ((lisR R).drop (cntR R (j + 1)))) := HS3'.out.later (hb3.trans (Below.drewMany (Below.refl _ w3) 1))
    have HB3 := Lib.hid hb3
    clear hs2 hX2 hY2 hX3 hY3 hb2 hb3 hb HS1' HS3'
    refine wp_region_T (S := (fun V => V.cell? ⟨W.heap.size, 0, none⟩ = some (.int .u32 (bitsR R 32 : Nat)) ∧ V.cell? ⟨W.heap.size, 1, none⟩ = some v)) [16] (by kernel_rfl) (by first | exact HK.out | exact keep_new HK.out | exact keep_new (keep_new HK.out) | exact HK5.out) (fun hHeld => ?_)
    refine wpAnyT_take (i := 0) (oi := ⟨some 20, _, _, _, _, _⟩) (v := ?vg2_0) rfl (by kernel_rfl) (by kernel_rfl) (by kernel_rfl) (by kernel_rfl) (fun _ _ _ h => h) (Or.inl ⟨by rfl, ?hg2_0⟩) (by assumption) ?rg2_0
    case hg2_0 => (intro w hSw; (try dsimp only at hSw); first | (go_simp; done) | (go_simp; with_reducible rfl))
    (try simp only [Act.put, List.setIfInBounds_toArray, List.set_cons_zero, List.set_cons_succ])
    refine wpAnyT_take (i := 1) (oi := ⟨some 21, _, _, _, _, _⟩) (v := ?vg2_1) rfl (by kernel_rfl) (by kernel_rfl) (by kernel_rfl) (by kernel_rfl) (fun _ _ _ h => h) (Or.inl ⟨by rfl, ?hg2_1⟩) (by assumption) ?rg2_1
    case hg2_1 => (intro w hSw; (try dsimp only at hSw); first | (go_simp; done) | (go_simp; with_reducible rfl))
    (try simp only [Act.put, List.setIfInBounds_toArray, List.set_cons_zero, List.set_cons_succ])
    refine wpAnyT_take (i := 2) (oi := ⟨some 22, _, _, _, _, _⟩) (v := ?vg2_2) rfl (by kernel_rfl) (by kernel_rfl) (by kernel_rfl) (by kernel_rfl) (fun _ _ _ h => h) (Or.inl ⟨by rfl, ?hg2_2⟩) (by assumption) ?rg2_2
    case hg2_2 => (intro w hSw; (try dsimp only at hSw); first | (go_simp; done) | (go_simp; with_reducible rfl))
    (try simp only [Act.put, List.setIfInBounds_toArray, List.set_cons_zero, List.set_cons_succ])
    refine wpAnyT_takeC (i := 3) (oi := ⟨some 23, _, _, _, _, _⟩) (v := .int .u32 (p : Int)) rfl (by kernel_rfl) (by kernel_rfl) (by kernel_rfl) (by kernel_rfl) (fun _ _ _ h => h) ⟨by rfl, fun w hSw => ⟨30, #[.int .i64 (j : Int)], ?hg2_3, HB.out w⟩⟩ (by assumption) ?rg2_3
    case hg2_3 => go_simp
    (try simp only [Act.put, List.setIfInBounds_toArray, List.set_cons_zero, List.set_cons_succ])
    refine wpAnyT_take (i := 4) (oi := ⟨some 24, _, _, _, _, _⟩) (v := ?vg2_4) rfl (by kernel_rfl) (by kernel_rfl) (by kernel_rfl) (by kernel_rfl) (fun _ _ _ h => h) (Or.inl ⟨by rfl, ?hg2_4⟩) (by assumption) ?rg2_4
    case hg2_4 => (intro w hSw; (try dsimp only at hSw); first | (go_simp; done) | (go_simp; with_reducible rfl))
    (try simp only [Act.put, List.setIfInBounds_toArray, List.set_cons_zero, List.set_cons_succ])
    refine wpAnyT_take (i := 5) (oi := ⟨some 25, _, _, _, _, _⟩) (v := ?vg2_5) rfl (by kernel_rfl) (by kernel_rfl) (by kernel_rfl) (by kernel_rfl) (fun _ _ _ h => h) (Or.inl ⟨by rfl, ?hg2_5⟩) (by assumption) ?rg2_5
    case hg2_5 => (intro w hSw; (try dsimp only at hSw); first | (go_simp; done) | (go_simp; with_reducible rfl))
    (try simp only [Act.put, List.setIfInBounds_toArray, List.set_cons_zero, List.set_cons_succ])
    refine wpAnyT_take (i := 6) (oi := ⟨some 26, _, _, _, _, _⟩) (v := ?vg2_6) rfl (by kernel_rfl) (by kernel_rfl) (by kernel_rfl) (by kernel_rfl) (fun _ _ _ h => h) (Or.inl ⟨by rfl, ?hg2_6⟩) (by assumption) ?rg2_6
    case hg2_6 => (intro w hSw; (try dsimp only at hSw); first | (go_simp; done) | (go_simp; with_reducible rfl))
    (try simp only [Act.put, List.setIfInBounds_toArray, List.set_cons_zero, List.set_cons_succ])
    refine wpAnyT_take (i := 7) (oi := ⟨some 27, _, _, _, _, _⟩) (v := ?vg2_7) rfl (by kernel_rfl) (by kernel_rfl) (by kernel_rfl) (by kernel_rfl) (fun _ _ _ h => h) (Or.inl ⟨by rfl, ?hg2_7⟩) (by assumption) ?rg2_7
    case hg2_7 => (intro w hSw; (try dsimp only at hSw); first | (go_simp; done) | (go_simp; with_reducible rfl))
    (try simp only [Act.put, List.setIfInBounds_toArray, List.set_cons_zero, List.set_cons_succ])
    refine wpAnyT_take (i := 8) (oi := ⟨some 28, _, _, _, _, _⟩) (v := ?vg2_8) rfl (by kernel_rfl) (by kernel_rfl) (by kernel_rfl) (by kernel_rfl) (fun _ _ _ h => h) (Or.inl ⟨by rfl, ?hg2_8⟩) (by assumption) ?rg2_8
    case hg2_8 => (intro w hSw; (try dsimp only at hSw); first | (go_simp; done) | (go_simp; with_reducible rfl))
    (try simp only [Act.put, List.setIfInBounds_toArray, List.set_cons_zero, List.set_cons_succ])
    refine wpAnyT_take (i := 9) (oi := ⟨some 29, _, _, _, _, _⟩) (v := ?vg2_9) rfl (by kernel_rfl) (by kernel_rfl) (by kernel_rfl) (by kernel_rfl) (fun _ _ _ h => h) (Or.inl ⟨by rfl, ?hg2_9⟩) (by assumption) ?rg2_9
    case hg2_9 => (intro w hSw; (try dsimp only at hSw); first | (go_simp; done) | (go_simp; with_reducible rfl))
    (try simp only [Act.put, List.setIfInBounds_toArray, List.set_cons_zero, List.set_cons_succ])
    refine wpAnyT_take (i := 10) (oi := ⟨some 30, _, _, _, _, _⟩) (v := ?vg2_10) rfl (by kernel_rfl) (by kernel_rfl) (by kernel_rfl) (by kernel_rfl) (fun _ _ _ h => h) (Or.inl ⟨by rfl, ?hg2_10⟩) (by assumption) ?rg2_10
    case hg2_10 => (intro w hSw; (try dsimp only at hSw); first | (go_simp; done) | (go_simp; with_reducible rfl))
    (try simp only [Act.put, List.setIfInBounds_toArray, List.set_cons_zero, List.set_cons_succ])
    refine wpAnyT_take (i := 11) (oi := ⟨some 31, _, _, _, _, _⟩) (v := ?vg2_11) rfl (by kernel_rfl) (by kernel_rfl) (by kernel_rfl) (by kernel_rfl) (fun _ _ _ h => h) (Or.inl ⟨by rfl, ?hg2_11⟩) (by assumption) ?rg2_11
    case hg2_11 => (intro w hSw; (try dsimp only at hSw); first | (go_simp; done) | (go_simp; with_reducible rfl))
    (try simp only [Act.put, List.setIfInBounds_toArray, List.set_cons_zero, List.set_cons_succ])
    refine wpAnyT_take (i := 12) (oi := ⟨some 32, _, _, _, _, _⟩) (v := ?vg2_12) rfl (by kernel_rfl) (by kernel_rfl) (by kernel_rfl) (by kernel_rfl) (fun _ _ _ h => h) (Or.inl ⟨by rfl, ?hg2_12⟩) (by assumption) ?rg2_12
    case hg2_12 => (intro w hSw; (try dsimp only at hSw); first | (go_simp; done) | (go_simp; with_reducible rfl))
    (try simp only [Act.put, List.setIfInBounds_toArray, List.set_cons_zero, List.set_cons_succ])
    refine wpAnyT_one (i := 13) (o := ⟨some 33, _, _, _, _, _⟩) (by kernel_rfl) rfl (fun K hK => ?_)
    go_simp
    refine hK.out _ _ (by first | exact HK.out | exact keep_new HK.out | exact keep_new (keep_new HK.out) | exact HK5.out) (fun hHeld => ?_)
    clear hK K
    (try simp only [Act.put, List.setIfInBounds_toArray, List.set_cons_zero, List.set_cons_succ])
    refine wpAnyT_one (i := 14) (o := ⟨some 34, _, _, _, _, _⟩) (by kernel_rfl) rfl (fun K hK => ?_)
    go_simp
    go_at_call 37
    refine (sp_join2 w3.drew _ _ _ _ HS1.out HS3.out (by have := HLEN.out; omega)).mono ?_
    rintro e w5 ⟨a5, n5, c5, rfl, hl5, hb5⟩
    have HK5 := Lib.hid (keep_below (keep_new HK.out) hb5)
    have HY5 := Lib.hid ((hb5.block _ (by simp; have := HSZ.out; omega)).trans (((Below.newly' _ _).block _ (by have := HSZ.out; simpa using (by omega : W.heap.size + 1 < w3.heap.size))).trans HY.out))
    have HB5 := Lib.hid ((((HB3.out.trans (Below.drewMany (Below.refl _ w3) 1)).trans ((Below.newly' _ _).mono (by have := HSZ.out; simpa using (by omega : W.heap.size ≤ w3.heap.size)))).trans (hb5.mono (by simp; have := HSZ.out; omega))))
    have HL5 := Lib.hid hl5
    clear hl5 hb5
    dsimp only
    refine hK.out _ _ (by first | exact HK.out | exact keep_new HK.out | exact keep_new (keep_new HK.out) | exact HK5.out) (fun hHeld => ?_)
    clear hK K
    (try simp only [Act.put, List.setIfInBounds_toArray, List.set_cons_zero, List.set_cons_succ])
    refine wpAnyT_take (i := 15) (oi := ⟨some 35, _, _, _, _, _⟩) (v := ?vg2_15) rfl (by kernel_rfl) (by kernel_rfl) (by kernel_rfl) (by kernel_rfl) (fun _ _ _ h => h) (Or.inl ⟨by rfl, ?hg2_15⟩) (by assumption) ?rg2_15
    case hg2_15 => (intro w hSw; (try dsimp only at hSw); first | (go_simp; done) | (go_simp; with_reducible rfl))
    (try simp only [Act.put, List.setIfInBounds_toArray, List.set_cons_zero, List.set_cons_succ])
    refine wpAnyT_last (i := 16) (o := ⟨none, _, _, _, _, _⟩) (by kernel_rfl) (by decide) rfl (fun K hK => ?_)
    refine st_agg_wp 27 _ _ rfl (W.heap.size + 1) #[.int .u32 (b' : Int), .slice a5 n5 c5] rfl rfl 27 #[.int .u32 0, .slice none 0 0] HY5.out zeroRow_info rfl (by simp [Value.oneCell']) ?_
    intro w6 h6 k6
    refine hK.out _ _ ?_
    clear hK K
    (try simp only [Act.put, List.setIfInBounds_toArray, List.set_cons_zero, List.set_cons_succ])
    refine wpAnyT_done (by kernel_rfl) ?_ _
    go_wp2_with fail
    refine bodyPost_ret (results_cell_row rfl _ _ (W.heap.size + 1) 27 _ (0, 0) _ rfl h6 Tryd.underlying27 rfl zeroRow_info) rfl ⟨_, rfl, ⟨HOK.out, _, by rw [HB'.out], ?_⟩, HB5.out.trans (k6.below (by omega))⟩
    have hl := HL5.out
    rw [← HS.out] at hl
    exact hl.kept k6.by_ (fun Y e => by cases e; exact ⟨_, _, _, HY5.out, by decide⟩)
  · rw [cut_off ho]
    have HB := Lib.hid (sp_bit_off i ho)
    have hz := and_none (bitsR R 32)
    have hh := h
    obtain ⟨_, v, rfl, h2⟩ := hh
    obtain ⟨a, n, rfl, _⟩ := h2.shape
    have HH := Lib.hid h
    clear h2 ho h
    have hl := heap_alloc_last (W.alloc (.cells #[.int .u32 (bitsR R 32 : Nat), .slice a (lisR R).length n] 27)) (.cells #[.int .u32 0, .slice none 0 0] 27)
    rw [World.size_alloc] at hl
    have HY := Lib.hid (fun m => (show (((W.alloc (.cells #[.int .u32 (bitsR R 32 : Nat), .slice a (lisR R).length n] 27)).alloc (.cells #[.int .u32 0, .slice none 0 0] 27)).drewN m).heap[W.heap.size + 1]? = _ from hl))
    clear hl
    go_enter Tryd.func24, Tryd.ntmps24
    go_upto_region 1 with fail
    go_quiet (first | (go_at_call 30; exact Calls.quiet_of_same (HB.out _)))
    go_wp2_with (refine st_agg rfl 27 _ _ rfl (W.heap.size + 1) #[.int .u32 (bitsR R 32 : Nat), .slice a (lisR R).length n] rfl rfl 27 #[.int .u32 0, .slice none 0 0] (HY.out _) zeroRow_info rfl (by simp [Value.oneCell']) ?_; intro w6 h6 k6)
    refine bodyPost_ret (results_cell_row rfl _ _ (W.heap.size + 1) 27 _ (0, 0) _ rfl h6 Tryd.underlying27 rfl zeroRow_info) rfl ⟨_, rfl, HH.out.later ((Below.drewMany (Below.more (Below.newly' _ _) _) _).trans (k6.below (by omega))), (Below.drewMany (Below.more (Below.newly' _ _) _) _).trans (k6.below (by omega))⟩
end Go.Proofs.YtmdfpkklnaekmaaDoor
