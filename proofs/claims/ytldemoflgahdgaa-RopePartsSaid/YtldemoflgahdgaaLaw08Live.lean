/- Layer 8's laws: the chapter's examples. -/
import Derived.Test.YtldemoflgahdgaaLaw08Same
namespace Go.Proofs.Ytldemoflgahdgaa
open Go.RowKit
set_option maxRecDepth 1000000
set_option linter.unusedSimpArgs false

set_option maxHeartbeats 2000000 in
theorem rp_top1 (w : World) {S : Nat → Prop} (h : Nat) (v : Value) (p : Kid) (hn : NodesR S w h v [p]) :
    Calls Try.prog 30 #[v] w fun e w' => e = .returned (.agg (kidc h p).toArray) ∧ Below w.heap.size w w' := by
  obtain ⟨w1, hw1⟩ : ∃ w1, w.alloc (.cells #[.int .i64 0, .int .i64 0, .slice none 0 0, .slice none 0 0] 33) = w1 := ⟨_, rfl⟩
  obtain ⟨hb1, hx1, hs1⟩ := nodes_new hw1
  have HX1 := Lib.hid hx1
  have HB1 := Lib.hid hb1
  obtain ⟨g, o, c, rfl, hr⟩ := nodes_first hn
  have HR := Lib.hid (range_later hr hb1)
  clear hn hr hx1 hb1 hs1
  go_enter Try.func30, Try.ntmps30
  go_upto_region 1 with fail
  clear hw1
  go_wp2_with fail
  go_loopw [0] (fun v wr => v = .slice (some ⟨g, o, none⟩) 1 c ∧ wr = w1) (fun _ _ => 0)
  case atStart => exact ⟨rfl, rfl⟩
  case round =>
    obtain ⟨rfl, rfl⟩ := hrel
    go_wp2_with (first
      | (refine wpList_load_mid rfl 33 _ rfl g o rfl (kidc h p) _ HR.out Try.underlying33 rfl rnode_size ?_)
      | (refine st_agg rfl 33 _ _ rfl w.heap.size (kidc h p).toArray rfl rfl 33 _ HX1.out rnode_size rfl (kid_one h p) ?_; intro w5 h5 k5))
    exact bodyPost_ret (results_cell_row rfl _ _ w.heap.size 33 _ (0, 0) _ rfl h5 Try.underlying33 rfl rnode_size) rfl ⟨rfl, HB1.out.trans (k5.below (Nat.le_refl _))⟩
set_option maxHeartbeats 2000000 in
/-- A rope of up to 16 things is a leaf. -/
theorem rp_Of16 (W : World) {S : Nat → Prop} (v : Value) (l : List Int) (hv : CutAt S W 1 v (iv l) l.length) (h0 : 0 < l.length) (hN : l.length ≤ 16) :
    Calls Try.prog 16 #[v] W fun e W' => ∃ p : Kid, e = .returned (.agg (kidc 0 p).toArray) ∧ Below W.heap.size W W' := by
  obtain ⟨w1, hw1⟩ : ∃ w1, W.alloc (.cells #[.int .i64 0, .int .i64 0, .slice none 0 0, .slice none 0 0] 35) = w1 := ⟨_, rfl⟩
  obtain ⟨hb1, hx1, hs1⟩ := box_new hw1
  have HX1 := Lib.hid hx1
  have HB1 := Lib.hid hb1
  have HS1 := Lib.hid hs1
  have HL := Lib.hid (leaves_new (S := S) w1 [(v, l)] (fun p hp => by simp only [List.mem_singleton] at hp; subst hp; exact hv.later hb1) l (by simp [catE]) (by omega) (by simp))
  obtain ⟨a, cap, rfl, _⟩ := hv.shape
  have HN := Lib.hid (And.intro h0 hN)
  clear hb1 hx1 hs1 hv h0 hN
  go_enter Try.func16, Try.ntmps16
  go_upto_region 1 with fail
  clear hw1
  go_wp2_with (first
    | (go_at_call 31
       refine HL.out.mono ?_
       rintro e w4 ⟨v4, rfl, ks, hn4, hc4, hf4, hb4⟩
       have hk1 : ks.length = 1 := (by have := hf4.1; have := HN.out; unfold cntN at *; omega)
       obtain ⟨p, rfl⟩ : ∃ p, ks = [p] := List.length_eq_one_iff.1 hk1
       obtain ⟨⟨qa, na, ca, ea⟩, qb, nb, cb, eb⟩ := (hn4.2 p (List.mem_singleton.2 rfl)).shape
       have HT := Lib.hid (rp_top1 w4 0 v4 p hn4)
       obtain ⟨g4, o4, c4, rfl, _⟩ := nodes_first hn4
       have HB4 := Lib.hid hb4
       have HX4 := Lib.hid ((hb4.block W.heap.size (by have := HS1.out; omega)).trans HX1.out)
       have HEA := Lib.hid ea
       have HEB := Lib.hid eb
       clear hn4 hc4 hf4 hb4 hk1 ea eb)
    | (go_at_call 30
       refine HT.out.mono ?_
       rintro e w5 ⟨rfl, hb5⟩
       have HB5 := Lib.hid hb5
       have HX5 := Lib.hid ((hb5.block W.heap.size (by have := HS1.out; have := HB4.out.size; omega)).trans HX4.out)
       have HK : Hid ((kidc 0 p).toArray = #[.int .i64 (p.l.length : Int), .int .i64 1, .slice qa na ca, .slice qb nb cb]) := (by show _ = _; rw [kidc, HEA.out, HEB.out]; rfl)
       rw [HK.out]
       obtain ⟨N5, hN5⟩ : ∃ N, N = p.l.length := ⟨_, rfl⟩
       rw [← hN5] at HK ⊢
       clear hb5 hN5)
    | (refine st_agg rfl 35 _ _ rfl W.heap.size _ rfl rfl 35 _ HX5.out rope_size rfl (one4 rfl rfl rfl rfl) ?_; intro w6 h6 k6))
  refine bodyPost_ret (results_cell_row rfl _ _ W.heap.size 35 _ (0, 0) _ rfl h6 Try.underlying35 rfl rope_size) rfl ⟨p, by rw [HK.out], ?_⟩
  have hs1 := HS1.out
  have hs4 := HB4.out.size
  exact ((HB1.out.trans (HB4.out.mono (by omega))).trans (HB5.out.mono (by omega))).trans (k6.below (by omega))
set_option maxHeartbeats 1000000 in
theorem rp_DepthK (w : World) (h : Nat) (p : Kid) : Calls Try.prog 15 #[.agg (kidc h p).toArray] w fun e w' => e = .returned (.int .i64 ((h + 1 : Nat) : Int)) ∧ Below w.heap.size w w' := by
  obtain ⟨w1, hw1⟩ : ∃ w1, w.alloc (.cells (kidc h p).toArray 35) = w1 := ⟨_, rfl⟩
  obtain ⟨hb1, hx1, hs1⟩ := box_new hw1
  obtain ⟨d, hd⟩ : ∃ d, d = h + 1 := ⟨_, rfl⟩
  have ca : w1.cell? ⟨w.heap.size, 1, none⟩ = some (.int .i64 (d : Int)) := by rw [hd]; exact cell_in hx1 rfl
  have HB1 := Lib.hid hb1
  rw [← hd]
  clear hb1 hx1 hs1 hd
  go_enter Try.func15, Try.ntmps15
  go_upto_region 1 with fail
  clear hw1
  go_wp2_with fail
  go_ret
  exact ⟨rfl, HB1.out⟩
theorem depth17 {d : Nat} (h : DepthOk d 17) : d = 2 := by
  obtain ⟨h1, h2, h3, h4⟩ := h
  have a1 : ¬ d = 0 := fun e => by have := h2.1 e; omega
  have a2 : ¬ d = 1 := fun e => by subst e; omega
  apply Classical.byContradiction
  intro hne
  have h5 := h3 (by omega)
  have h6 : 8 ^ 2 ≤ 8 ^ (d - 1) := Nat.pow_le_pow_right (by decide) (by omega)
  omega
theorem ex8_cut : cutL (runL 0 (Int.toNat 5)) (-2) 9 = [3, 4] := by decide +kernel
set_option maxHeartbeats 4000000 in
theorem live8 (w : World) : Calls Try.prog 8 #[] w fun e w' => e = .returned (.bool true) ∧ Below w.heap.size w w' := by
  have HR17 := Lib.hid (fun w => ref_Run 0 17 (by decide) w)
  have HR5 := Lib.hid (fun w => ref_Run 0 5 (by decide) w)
  have HR16 := Lib.hid (fun w => ref_Run 0 16 (by decide) w)
  go_enter Try.func8, Try.ntmps8
  go_upto_region 2 with (first
    | (go_at_call 17; (with_reducible refine (HR17.out _).mono ?_); rintro e w1 ⟨v1, rfl, hi1, hb1⟩; have HOF := Lib.hid (rp_Of w1 v1 _ hi1.cutI (by rw [runL_len]; decide)); have HB1 := Lib.hid hb1; clear hi1 hb1)
    | (go_at_call 16; (with_reducible refine HOF.out.mono ?_); rintro e w2 ⟨c2, rfl, hv2, hb2⟩; have HV2 := Lib.hid hv2.rl; have HB2 := Lib.hid (HB1.out.trans (hb2.mono HB1.out.size)); clear hv2 hb2)
    | (refine st_agg rfl 35 _ _ rfl w2.heap.size c2 rfl rfl 35 _ (heap_alloc_last w2 _) (by rw [HV2.out.size]; exact rope_size) (by rw [HV2.out.size]; rfl) HV2.out.one ?_; intro w3 h3 k3; have HX3 := Lib.hid h3; have HV3 := Lib.hid (RL.but (RL.later HV2.out (Below.newly' w2 _)) k3 (heap_alloc_last w2 _) (by decide) (by decide)); have HB3 := Lib.hid ((HB2.out.alloc HB2.out.size _).trans (k3.below HB2.out.size)); clear h3 k3))
  obtain ⟨X1, hX1⟩ : ∃ X1, X1 = w2.heap.size := ⟨_, rfl⟩
  rw [← hX1] at HX3 ⊢
  clear hX1
  go_upto_region 3 with (first
    | (go_at_call 17; (with_reducible refine (HR5.out _).mono ?_); rintro e w4 ⟨v4, rfl, hi4, hb4⟩; have HOF4 := Lib.hid (rp_Of w4 v4 _ hi4.cutI (by rw [runL_len]; decide)); have HX4 := Lib.hid ((hb4.block _ (Array.getElem?_eq_some_iff.1 HX3.out).1).trans HX3.out); have HV4 := Lib.hid (HV3.out.later hb4); have HB4 := Lib.hid (HB3.out.trans (hb4.mono HB3.out.size)); clear hi4 hb4)
    | (go_at_call 16; (with_reducible refine HOF4.out.mono ?_); rintro e w5 ⟨c5, rfl, hv5, hb5⟩; have HSL := Lib.hid (rp_Slice w5 hv5 (-2) 9 (by unfold InR; decide) (by unfold InR; decide) (by rw [runL_len]; decide)); rw [ex8_cut] at HSL; have HX5 := Lib.hid ((hb5.block _ (Array.getElem?_eq_some_iff.1 HX4.out).1).trans HX4.out); have HV5 := Lib.hid (HV4.out.later hb5); have HB5 := Lib.hid (HB4.out.trans (hb5.mono HB4.out.size)); clear hv5 hb5)
    | (go_at_call 22; (with_reducible refine HSL.out.mono ?_); rintro e w6 ⟨c6, rfl, hv6, hb6⟩; have HS6 := Lib.hid hv6.rl; have HX6 := Lib.hid ((hb6.block _ (Array.getElem?_eq_some_iff.1 HX5.out).1).trans HX5.out); have HV6 := Lib.hid (HV5.out.later hb6); have HB6 := Lib.hid (HB5.out.trans (hb6.mono HB5.out.size)); clear hv6 hb6)
    | (refine st_agg rfl 35 _ _ rfl w6.heap.size c6 rfl rfl 35 _ (heap_alloc_last w6 _) (by rw [HS6.out.size]; exact rope_size) (by rw [HS6.out.size]; rfl) HS6.out.one ?_; intro w7 h7 k7; have hk7 := (Below.newly' w6 _).trans (k7.below (Nat.le_refl _)); have HY7 := Lib.hid h7; have HX7 := Lib.hid ((hk7.block _ (Array.getElem?_eq_some_iff.1 HX6.out).1).trans HX6.out); have HV7 := Lib.hid (HV6.out.later hk7); have HS7 := Lib.hid (HS6.out.later hk7); have HB7 := Lib.hid (HB6.out.trans (hk7.mono HB6.out.size)); clear h7 k7 hk7))
  obtain ⟨X2, hX2⟩ : ∃ X2, X2 = w6.heap.size := ⟨_, rfl⟩
  rw [← hX2] at HY7 ⊢
  clear hX2
  have hg7 := rp_Get w7 HS7.out 0 (by decide)
  rw [show getF (fun j => ([3, 4] : List Int).getD j 0) ([3, 4] : List Int).length 0 = (3, true) by decide] at hg7
  have HG7 := Lib.hid hg7
  have HC2 := Lib.hid HV7.out.size
  have HC6 := Lib.hid HS7.out.size
  clear hg7
  go_upto_region 4 with (first
    | (refine ld_if (by rfl) 35 _ rfl X2 rfl 35 _ _ _ HY7.out Try.underlying35 rfl (by rw [HC6.out]; exact rope_size) ?_)
    | (go_at_call 11; (with_reducible refine HG7.out.mono ?_); rintro e w8 ⟨rfl, hb⟩; have HX8 := Lib.hid ((hb.block _ (Array.getElem?_eq_some_iff.1 HX7.out).1).trans HX7.out); have HY8 := Lib.hid ((hb.block _ (Array.getElem?_eq_some_iff.1 HY7.out).1).trans HY7.out); have HV8 := Lib.hid (HV7.out.later hb); have HS8 := Lib.hid (HS7.out.later hb); have HB8 := Lib.hid (HB7.out.trans (hb.mono HB7.out.size)); clear hb))
  have hd8 := rp_Depth w8 HV8.out
  rw [runL_len] at hd8
  have HD8 := Lib.hid hd8
  clear hd8
  have HLN := Lib.hid (fun V (h : Below w8.heap.size w8 V) => rp_Len V (HV8.out.later h))
  have HLS := Lib.hid (fun V (h : Below w8.heap.size w8 V) => rp_Len V (HS8.out.later h))
  rw [show ((runL 0 (Int.toNat 17)).length : Int) = 17 by rw [runL_len]; rfl] at HLN
  rw [show ((([3, 4] : List Int).length : Nat) : Int) = 2 by decide] at HLS
  go_wp2_with (first
    | (refine ld_if (by rfl) 35 _ rfl X1 rfl 35 _ _ _ HX8.out Try.underlying35 rfl (by rw [HC2.out]; exact rope_size) ?_)
    | (go_at_call 15; (with_reducible refine HD8.out.mono ?_); rintro e w9 ⟨v9, rfl, d, rfl, hd, hb⟩; obtain rfl := depth17 hd; have HX9 := Lib.hid ((hb.block _ (Array.getElem?_eq_some_iff.1 HX8.out).1).trans HX8.out); have HY9 := Lib.hid ((hb.block _ (Array.getElem?_eq_some_iff.1 HY8.out).1).trans HY8.out); have HW9 := Lib.hid hb; clear hb hd)
    | (refine ld_if (by rfl) 35 _ rfl X1 rfl 35 _ _ _ HX9.out Try.underlying35 rfl (by rw [HC2.out]; exact rope_size) ?_)
    | (go_at_call 21; (with_reducible refine (HLN.out _ HW9.out).mono ?_); rintro e w10 ⟨rfl, hw⟩; have hb : Below w9.heap.size w9 w10 := (by rw [hw]; exact Below.newly' _ _); have HY10 := Lib.hid ((hb.block _ (Array.getElem?_eq_some_iff.1 HY9.out).1).trans HY9.out); have HW10 := Lib.hid (HW9.out.trans (hb.mono HW9.out.size)); clear hb hw)
    | (go_at_call 17; (with_reducible refine (HR16.out _).mono ?_); rintro e w11 ⟨v11, rfl, hi11, hb⟩; have HOF11 := Lib.hid (rp_Of16 w11 v11 _ hi11.cutI (by rw [runL_len]; decide) (by rw [runL_len]; decide)); have HY11 := Lib.hid ((hb.block _ (Array.getElem?_eq_some_iff.1 HY10.out).1).trans HY10.out); have HW11 := Lib.hid (HW10.out.trans (hb.mono HW10.out.size)); clear hi11 hb)
    | (go_at_call 16; (with_reducible refine HOF11.out.mono ?_); rintro e w12 ⟨p12, rfl, hb⟩; have HD12 := Lib.hid (rp_DepthK w12 0 p12); have HY12 := Lib.hid ((hb.block _ (Array.getElem?_eq_some_iff.1 HY11.out).1).trans HY11.out); have HW12 := Lib.hid (HW11.out.trans (hb.mono HW11.out.size)); clear hb)
    | (go_at_call 15; (with_reducible refine HD12.out.mono ?_); rintro e w13 ⟨rfl, hb⟩; have HY13 := Lib.hid ((hb.block _ (Array.getElem?_eq_some_iff.1 HY12.out).1).trans HY12.out); have HW13 := Lib.hid (HW12.out.trans (hb.mono HW12.out.size)); clear hb)
    | (refine ld_if (by rfl) 35 _ rfl X2 rfl 35 _ _ _ HY13.out Try.underlying35 rfl (by rw [HC6.out]; exact rope_size) ?_)
    | (go_at_call 21; (with_reducible refine (HLS.out _ HW13.out).mono ?_); rintro e w14 ⟨rfl, hw⟩; have hb : Below w13.heap.size w13 w14 := (by rw [hw]; exact Below.newly' _ _); have HW14 := Lib.hid (HW13.out.trans (hb.mono HW13.out.size)); clear hb hw))
  go_ret
  exact ⟨rfl, HB8.out.trans (HW14.out.mono HB8.out.size)⟩
end Go.Proofs.Ytldemoflgahdgaa
