/- Package pvec: Push, Of. (written by tools/gen07/pv9.py) -/
import Derived.Test.YtpjbhdplginbaaaPv10
namespace Go.Proofs.Ytpjbhdplginbaaa
open Go.RowKit
set_option maxRecDepth 1000000
set_option linter.unusedSimpArgs false

/-- v reads as n numbers behind a plain address. -/
def SpotAt (W : World) (v : Value) (f : Nat → Int) (n : Nat) : Prop := ∃ (a : Option Addr) (b o cap : Nat), v = .slice a n cap ∧ n ≤ cap ∧ (0 < n → a = some ⟨b, o, none⟩) ∧ ∀ j, j < n → W.cell? ⟨b, o + j, none⟩ = some (.int .i64 (f j))
theorem SpotAt.later {W W' : World} {v : Value} {f : Nat → Int} {n : Nat} (h : SpotAt W v f n) (hb : Below W.heap.size W W') : SpotAt W' v f n := by
  obtain ⟨a, b, o, cap, h1, h2, h3, h4⟩ := h
  exact ⟨a, b, o, cap, h1, h2, h3, fun j hj => (hb.cell (p := ⟨b, o + j, none⟩) (World.block_lt_of_cell? W _ (h4 j hj))).trans (h4 j hj)⟩
theorem SpotAt.congr {W : World} {v : Value} {f g : Nat → Int} {n : Nat} (h : SpotAt W v f n) (e : ∀ j, j < n → f j = g j) : SpotAt W v g n := by
  obtain ⟨a, b, o, cap, h1, h2, h3, h4⟩ := h
  exact ⟨a, b, o, cap, h1, h2, h3, fun j hj => by rw [← e j hj]; exact h4 j hj⟩
theorem SpotAt.places {W : World} {v : Value} {f : Nat → Int} {n : Nat} (h : SpotAt W v f n) : PlacesAt W 1 v (fi f) n := by
  obtain ⟨a, b, o, cap, rfl, h2, h3, h4⟩ := h
  exact ⟨a, cap, rfl, fun h0 => ⟨_, h3 h0, fun j hj => by rw [add_at]; exact h4 j (by omega)⟩⟩
/-- 'l[k:]' of a list of numbers that lies plainly. -/
theorem ints_drop (b o n c k : Nat) (h1 : k ≤ n) (w : World) : (Instr.slice 26 (.slice (some ⟨b, o, none⟩) n c) (some (.int .i64 (k : Int))) none none).run Try.prog w = .ok (.slice (if c = k then some ⟨b, o, none⟩ else some ⟨b, o + k, none⟩) (n - k) (c - k)) w := by
  have hu : Try.prog.underlying 26 = some (.slice (Try.prog.elem 26)) := by kernel_rfl
  have hs : (sizeOf (Try.prog.elem 26)).run Try.prog w = .ok 1 w := by
    have e : Try.prog.elem 26 = 3 := by kernel_rfl
    rw [e]
    obtain ⟨i, hi, _, h1, _⟩ := info_parts int_info
    simp [sizeOf, typeInfo, hi, h1]
  rw [run_slice_l w _ _ _ _ hu _ _ (by omega) (by omega), hs]
  simp only [Result.andThen_ok, sliced, Int.toNat_natCast, Nat.mul_one, Option.map_some, add_at]
theorem spot_drop {W : World} {b o n c k : Nat} {f : Nat → Int} (h : SpotAt W (.slice (some ⟨b, o, none⟩) n c) f n) (hk : k ≤ n) : SpotAt W (.slice (if c = k then some ⟨b, o, none⟩ else some ⟨b, o + k, none⟩) (n - k) (c - k)) (fun j => f (k + j)) (n - k) := by
  obtain ⟨a, b', o', cap, e, h2, h3, h4⟩ := h
  simp only [Value.slice.injEq, true_and] at e
  obtain ⟨rfl, rfl⟩ := e
  refine ⟨_, b, o + k, _, rfl, by omega, fun h0 => by rw [if_neg (by omega)], fun j hj => ?_⟩
  have e2 := h3 (by omega)
  simp only [Option.some.injEq, Addr.mk.injEq, and_true] at e2
  obtain ⟨rfl, rfl⟩ := e2
  rw [Nat.add_assoc]
  exact h4 (k + j) (by omega)
/-- How long a list is. -/
def lenV : Value → Nat
  | .slice _ n _ => n
  | _ => 0
/-- What a vector has with others behind its own. -/
def appF (f : Nat → Int) (n : Nat) (g : Nat → Int) : Nat → Int := fun j => if j < n then f j else g (j - n)
set_option maxHeartbeats 4000000 in
theorem pv_PushS {S : Nat → Prop} {c : Array Value} {f g : Nat → Int} {n k : Nat} (W : World) (h : VecG S W c f n (n - othN n)) (lv : Value) (hl : SpotAt W lv g k) (hk : n + k ≤ 1000000) : Calls Try.prog 19 #[.agg c, lv] W fun e W' =>
    ∃ c', e = .returned (.agg c') ∧ VecG (fun g => S g ∨ W.heap.size ≤ g) W' c' (appF f n g) (n + k) (n + k - othN (n + k)) ∧ Below W.heap.size W W' := by
  obtain ⟨S0, hS0⟩ : ∃ S0 : Nat → Prop, S0 = fun g => S g ∨ W.heap.size ≤ g := ⟨_, rfl⟩
  have HSU : Hid (∀ g, W.heap.size ≤ g → S0 g) := by intro g hg; rw [hS0]; exact .inr hg
  have h : VecG S0 W c f n (n - othN n) := VecG.weak (fun g hg => by rw [hS0]; exact .inl hg) h
  rw [← hS0]
  clear hS0
  obtain ⟨f', hf'⟩ : ∃ f', f' = appF f n g := ⟨_, rfl⟩
  have hv : VecG S0 W c f' n (n - othN n) := VecG.congr h fun j hj => by rw [hf']; unfold appF; rw [if_pos hj]
  have hsp : SpotAt W lv (fun j => f' (n + j)) k := hl.congr fun j _ => by rw [hf']; unfold appF; rw [if_neg (by omega)]; congr 1; omega
  rw [← hf']
  obtain ⟨N, hN⟩ : ∃ N, N = n + k := ⟨_, rfl⟩
  rw [← hN]
  rw [show k = N - n by omega] at hsp
  have HNN := Lib.hid (show n ≤ N ∧ N ≤ 1000000 from ⟨by omega, by omega⟩)
  have HV : Hid (VecG S0 W c f' n (n - othN n)) := hv
  have HS0 := Lib.hid (VecG.size h)
  have HSP := Lib.hid hsp
  obtain ⟨w2, hw2⟩ : ∃ w2, (W.alloc (.cells c 30)).alloc (.cells #[.int .i64 0, .slice none 0 0, .slice none 0 0, .slice none 0 0] 30) = w2 := ⟨_, rfl⟩
  obtain ⟨hb2, hx2, hy2, hs2⟩ := pair_new hw2
  have HB2 := Lib.hid hb2
  have HX2 := Lib.hid hx2
  have HY2 := Lib.hid hy2
  clear h hl hk hf' hv hsp hN hb2 hx2 hy2 hs2
  go_enter Try.func19, Try.ntmps19
  go_upto_region 1 with fail
  clear hw2
  go_loopw [1] (fun lv wr => ∃ (n1 t1 : Nat) (c1 : Array Value), SpotAt W lv (fun j => f' (n1 + j)) (N - n1) ∧ (n ≤ n1 ∧ n1 ≤ N ∧ (n1 = 0 ∨ 0 < t1)) ∧ wr.heap[W.heap.size]? = some (.cells c1 30 (0, 0)) ∧ wr.heap[W.heap.size + 1]? = some (.cells #[.int .i64 0, .slice none 0 0, .slice none 0 0, .slice none 0 0] 30 (0, 0)) ∧ VecG S0 wr c1 f' n1 t1 ∧ Below W.heap.size W wr) (fun lv _ => lenV lv)
  case atStart => exact ⟨n, n - othN n, c, HSP.out, ⟨Nat.le_refl _, HNN.out.1, by rcases Nat.eq_zero_or_pos n with e | e; exact .inl e; exact .inr (by have := oth_tail e; omega)⟩, HX2.out, HY2.out, HV.out.later HB2.out, HB2.out⟩
  case round =>
    clear HSP HX2 HY2 HV HB2
    obtain ⟨n1, t1, c1, hsp, hq, hx, hy, hv, hb⟩ := hrel
    have HX4 := Lib.hid hx
    have HY4 := Lib.hid hy
    have HV4 := Lib.hid hv
    have HB4 := Lib.hid hb
    have HQ1 := Lib.hid hq
    have HSPW := Lib.hid hsp
    obtain ⟨al, bb, oo, cl, rfl, hlc, hla, hlcell⟩ := hsp
    obtain ⟨L, hL⟩ : ∃ L, L = N - n1 := ⟨_, rfl⟩
    have HLL := Lib.hid hL
    rw [← hL] at hlc hla hlcell HSPW ⊢
    clear hx hy hb hq hL
    by_cases h0 : L = 0
    · have h0' : ¬ (0 : Int) < (L : Int) := by omega
      have HSZ := Lib.hid hv.size
      have HONE := Lib.hid hv.one
      clear h0 hv hlc hla hlcell
      go_wp2_with (first
        | (refine ld_if rfl 30 _ rfl W.heap.size rfl 30 _ _ _ HX4.out Try.underlying30 rfl (by rw [HSZ.out]; exact vec_size) ?_)
        | (refine st_agg rfl 30 _ _ rfl (W.heap.size + 1) c1 rfl rfl 30 #[.int .i64 0, .slice none 0 0, .slice none 0 0, .slice none 0 0] HY4.out (by rw [HSZ.out]; exact vec_size) (by rw [HSZ.out]; rfl) HONE.out ?_; intro w5 h5 k5))
      refine bodyPost_ret (results_cell_row rfl _ _ (W.heap.size + 1) 30 _ (0, 0) _ rfl h5 Try.underlying30 rfl (by rw [HSZ.out]; exact vec_size)) rfl ⟨_, rfl, ?_, HB4.out.trans (k5.below (by omega))⟩
      have hv5 := HV4.out.but k5 HY4.out (by decide) (by decide)
      have hq := HQ1.out
      have hL := HLL.out
      obtain ⟨g1, g2, g3, g4, _⟩ := HV4.out
      have en : n1 = N := by omega
      subst en
      have et : t1 = n1 - othN n1 := by unfold othN; omega
      rw [← et]
      exact hv5
    · have h0' : (0 : Int) < (L : Int) := by omega
      obtain rfl := hla (by omega)
      have hL16 : (L : Int) ≤ 1000000 := by have := HLL.out; have := HNN.out; omega
      by_cases ht : t1 = 32
      · subst ht
        obtain ⟨a0, b0, v0, cp0, rfl, hc0, _⟩ := hv.laid
        have q43 : wr.cell? ⟨W.heap.size, 3, none⟩ = some (.slice v0 32 cp0) := cell_in HX4.out rfl
        have HST := Lib.hid (pv_stowed wr HV4.out)
        obtain ⟨t1, ht1⟩ : ∃ t1, t1 = 0 := ⟨_, rfl⟩
        obtain ⟨q, hqe⟩ : ∃ q, q = min L (32 - t1) := ⟨_, rfl⟩
        have hmin : min (L : Int) (32 - (t1 : Int)) = (q : Int) := by omega
        have HQ := Lib.hid (show 0 < q ∧ q ≤ L ∧ t1 + q ≤ 32 ∧ q ≤ cl ∧ L ≤ cl from ⟨by omega, by omega, by omega, by omega, hlc⟩)
        have ht32 : (t1 : Int) ≤ 32 := by omega
        have HT1 := Lib.hid ht1
        clear h0 hv hc0 hqe ht1 hlcell hla
        go_upto_region 5 with (first
          | (refine ld_if rfl 30 _ rfl W.heap.size rfl 30 _ _ _ HX4.out Try.underlying30 rfl vec_size ?_)
          | (go_at_call 32; with_reducible refine HST.out.mono ?_; rintro e w4 ⟨c4, rfl, hv4, hb⟩; rw [← HT1.out] at hv4; replace hv4 := VecG.weak (S' := S0) (fun g hg => hg.elim id (fun h => HSU.out g (Nat.le_trans HB4.out.size h))) hv4; obtain ⟨a, b, v, cp, rfl, hc1, g1, g2, g3, g4, g6, g7⟩ := hv4.laid; have HX41 := Lib.hid ((hb.block _ (Array.getElem?_eq_some_iff.1 HX4.out).1).trans HX4.out); have HY41 := Lib.hid ((hb.block _ (Array.getElem?_eq_some_iff.1 HY4.out).1).trans HY4.out); have HB41 := Lib.hid (HB4.out.trans (hb.mono HB4.out.size)); have HVV := Lib.hid hv4; have HONE := Lib.hid g6.one; have HG := Lib.hid (show t1 ≤ n1 ∧ (n1 - t1) % 32 = 0 ∧ n1 ≤ 1000000 from ⟨g1, g3, g4⟩); clear hb hv4 hc1 g1 g2 g3 g4 g6 g7)
          | (refine st_agg rfl 30 _ _ rfl W.heap.size #[.int .i64 (n1 : Int), a, b, .slice v t1 cp] rfl rfl 30 _ HX41.out vec_size rfl (by simp [HONE.out.1, HONE.out.2]; exact ⟨rfl, rfl⟩) ?_; intro w5 h5 k5; have HX5 := Lib.hid h5; have HY5 := Lib.hid (k5.other HY41.out (by omega)); have HB5 := Lib.hid (HB41.out.trans (k5.below (Nat.le_refl _))); have HVG := Lib.hid (HVV.out.but k5 HX41.out (by decide) (by decide)); have q53 : w5.cell? ⟨W.heap.size, 3, none⟩ = some (.slice v t1 cp) := cell_in h5 rfl; clear h5 k5))
        have HX6 : Hid (w5.drew.heap[W.heap.size]? = some (.cells #[.int .i64 (n1 : Int), a, b, .slice v t1 cp] 30 (0, 0))) := HX5.out
        have HY6 : Hid (w5.drew.heap[W.heap.size + 1]? = some (.cells #[.int .i64 0, .slice none 0 0, .slice none 0 0, .slice none 0 0] 30 (0, 0))) := HY5.out
        have HB6 := Lib.hid (HB5.out.trans ((drawn_below w5).mono HB5.out.size))
        obtain ⟨n2, hn2⟩ : ∃ n2, n2 = n1 + q := ⟨_, rfl⟩
        have hadd : (n1 : Int) + (q : Int) = (n2 : Int) := by omega
        have haddw : IntKind.i64.wrap (n2 : Int) = (n2 : Int) := by rw [IntKind.wrap_i64]; have := HQ.out; have := HG.out; omega
        have HN2 := Lib.hid hn2
        have hcut := ints_cut ⟨bb, oo, none⟩ L cl q (by have := HQ.out; omega)
        have hdrop := ints_drop bb oo L cl q (by have := HQ.out; omega)
        obtain ⟨u1, u2, u3, u4, a', b', v', e', hT, hR⟩ := HVG.out
        obtain ⟨rfl, rfl, rfl⟩ : a = a' ∧ b = b' ∧ Value.slice v t1 cp = v' := by simp only [Array.mk.injEq, List.cons.injEq, and_true] at e'; exact ⟨e'.2.1, e'.2.2.1, e'.2.2.2⟩
        have HTR := Lib.hid hT
        have HTA := Lib.hid (hR.places.later (drawn_below w5))
        have HTB : Hid (PlacesAt w5.drew 1 (.slice (some ⟨bb, oo, none⟩) q cl) (fi fun j => f' (n1 + j)) q) := by
          obtain ⟨av, cv, ev, hv⟩ := HSPW.out.places
          simp only [Value.slice.injEq, true_and] at ev
          obtain ⟨rfl, rfl⟩ := ev
          refine ⟨_, _, rfl, fun _ => ?_⟩
          obtain ⟨ad, e1, hc⟩ := hv (by have := HQ.out; omega)
          obtain rfl := Option.some.inj e1
          exact ⟨_, rfl, fun j hj => (HB6.out.cell (p := (⟨bb, oo, none⟩ : Addr).add j) (World.block_lt_of_cell? W _ (hc j (by have := HQ.out; omega)))).trans (hc j (by have := HQ.out; omega))⟩
        clear hn2 hT hR u1 u2 u3 u4 e'
        refine wp_region_T (S := fun V => V.cell? ⟨W.heap.size, 0, none⟩ = some (.int .i64 (n1 : Int)) ∧ V.rangeAt W.heap.size 1 [a, b] ∧ V.cell? ⟨W.heap.size, 3, none⟩ = some (.slice v t1 cp)) [14] (by kernel_rfl) (by first | exact ⟨cell_in HX6.out rfl, root_range HX6.out, cell_in HX6.out rfl⟩ | exact ⟨cell_in HX7.out rfl, root_range HX7.out, cell_in HX7.out rfl⟩ | exact ⟨cell_in HX8.out rfl, root_range HX8.out, cell_in HX8.out rfl⟩) (fun hHeld => ?_)
        refine wpAnyT_take (i := 0) (oi := ⟨some 22, _, _, _, _, _⟩) (v := ?vg4_0) rfl (by kernel_rfl) (by kernel_rfl) (by kernel_rfl) (by kernel_rfl) (fun _ _ _ h => h) (Or.inl ⟨by rfl, ?hg4_0⟩) (by assumption) ?rg4_0
        case hg4_0 => (intro w hSw; (try dsimp only at hSw); first | (go_simp; done) | (go_simp; with_reducible rfl))
        (try simp only [Act.put, List.setIfInBounds_toArray, List.set_cons_zero, List.set_cons_succ])
        refine wpAnyT_take (i := 1) (oi := ⟨some 23, _, _, _, _, _⟩) (v := ?vg4_1) rfl (by kernel_rfl) (by kernel_rfl) (by kernel_rfl) (by kernel_rfl) (fun _ _ _ h => h) (Or.inl ⟨by rfl, ?hg4_1⟩) (by assumption) ?rg4_1
        case hg4_1 => (intro w hSw; (try dsimp only at hSw); first | (go_simp; done) | (go_simp; with_reducible rfl))
        (try simp only [Act.put, List.setIfInBounds_toArray, List.set_cons_zero, List.set_cons_succ])
        refine wpAnyT_take (i := 2) (oi := ⟨some 24, _, _, _, _, _⟩) (v := ?vg4_2) rfl (by kernel_rfl) (by kernel_rfl) (by kernel_rfl) (by kernel_rfl) (fun _ _ _ h => h) (Or.inl ⟨by rfl, ?hg4_2⟩) (by assumption) ?rg4_2
        case hg4_2 => (intro w hSw; (try dsimp only at hSw); first | (go_simp; done) | (go_simp; with_reducible rfl))
        (try simp only [Act.put, List.setIfInBounds_toArray, List.set_cons_zero, List.set_cons_succ])
        refine wpAnyT_take (i := 3) (oi := ⟨some 25, _, _, _, _, _⟩) (v := ?vg4_3) rfl (by kernel_rfl) (by kernel_rfl) (by kernel_rfl) (by kernel_rfl) (fun _ _ _ h => h) (Or.inl ⟨by rfl, ?hg4_3⟩) (by assumption) ?rg4_3
        case hg4_3 => (intro w hSw; (try dsimp only at hSw); first | (go_simp; done) | (go_simp; with_reducible rfl))
        (try simp only [Act.put, List.setIfInBounds_toArray, List.set_cons_zero, List.set_cons_succ])
        refine wpAnyT_take (i := 4) (oi := ⟨some 26, _, _, _, _, _⟩) (v := ?vg4_4) rfl (by kernel_rfl) (by kernel_rfl) (by kernel_rfl) (by kernel_rfl) (fun _ _ _ h => h) (Or.inl ⟨by rfl, ?hg4_4⟩) (by assumption) ?rg4_4
        case hg4_4 => (intro w hSw; (try dsimp only at hSw); first | (go_simp; done) | (go_simp; with_reducible rfl))
        (try simp only [Act.put, List.setIfInBounds_toArray, List.set_cons_zero, List.set_cons_succ])
        refine wpAnyT_take (i := 5) (oi := ⟨some 27, _, _, _, _, _⟩) (v := _) rfl (by kernel_rfl) (by kernel_rfl) (by kernel_rfl) (by kernel_rfl) (fun _ _ _ h => h) (yieldsIf_load_mid (by rfl) 28 _ rfl W.heap.size 1 rfl [a, b] _ (fun w hw => hw.2.1) Try.underlying28 rfl node_size) (by assumption) ?_
        (try simp only [Act.put, List.setIfInBounds_toArray, List.set_cons_zero, List.set_cons_succ])
        refine wpAnyT_take (i := 6) (oi := ⟨some 28, _, _, _, _, _⟩) (v := ?vg4_6) rfl (by kernel_rfl) (by kernel_rfl) (by kernel_rfl) (by kernel_rfl) (fun _ _ _ h => h) (Or.inl ⟨by rfl, ?hg4_6⟩) (by assumption) ?rg4_6
        case hg4_6 => (intro w hSw; (try dsimp only at hSw); first | (go_simp; done) | (go_simp; with_reducible rfl))
        (try simp only [Act.put, List.setIfInBounds_toArray, List.set_cons_zero, List.set_cons_succ])
        refine wpAnyT_take (i := 7) (oi := ⟨some 29, _, _, _, _, _⟩) (v := ?vg4_7) rfl (by kernel_rfl) (by kernel_rfl) (by kernel_rfl) (by kernel_rfl) (fun _ _ _ h => h) (Or.inl ⟨by rfl, ?hg4_7⟩) (by assumption) ?rg4_7
        case hg4_7 => (intro w hSw; (try dsimp only at hSw); first | (go_simp; done) | (go_simp; with_reducible rfl))
        (try simp only [Act.put, List.setIfInBounds_toArray, List.set_cons_zero, List.set_cons_succ])
        refine wpAnyT_take (i := 8) (oi := ⟨some 30, _, _, _, _, _⟩) (v := ?vg4_8) rfl (by kernel_rfl) (by kernel_rfl) (by kernel_rfl) (by kernel_rfl) (fun _ _ _ h => h) (Or.inl ⟨by rfl, ?hg4_8⟩) (by assumption) ?rg4_8
        case hg4_8 => (intro w hSw; (try dsimp only at hSw); first | (go_simp; done) | (go_simp; with_reducible rfl))
        (try simp only [Act.put, List.setIfInBounds_toArray, List.set_cons_zero, List.set_cons_succ])
        refine wpAnyT_take (i := 9) (oi := ⟨some 31, _, _, _, _, _⟩) (v := ?vg4_9) rfl (by kernel_rfl) (by kernel_rfl) (by kernel_rfl) (by kernel_rfl) (fun _ _ _ h => h) (Or.inl ⟨by rfl, ?hg4_9⟩) (by assumption) ?rg4_9
        case hg4_9 => (intro w hSw; (try dsimp only at hSw); first | (go_simp; done) | (go_simp; with_reducible rfl))
        (try simp only [Act.put, List.setIfInBounds_toArray, List.set_cons_zero, List.set_cons_succ])
        refine wpAnyT_take (i := 10) (oi := ⟨some 32, _, _, _, _, _⟩) (v := ?vg4_10) rfl (by kernel_rfl) (by kernel_rfl) (by kernel_rfl) (by kernel_rfl) (fun _ _ _ h => h) (Or.inl ⟨by rfl, ?hg4_10⟩) (by assumption) ?rg4_10
        case hg4_10 => (intro w hSw; (try dsimp only at hSw); first | (go_simp; done) | (go_simp; with_reducible rfl))
        (try simp only [Act.put, List.setIfInBounds_toArray, List.set_cons_zero, List.set_cons_succ])
        refine wpAnyT_one (i := 11) (o := ⟨some 33, _, _, _, _, _⟩) (by kernel_rfl) rfl (fun K hK => ?_)
        go_simp
        have HX7 := Lib.hid (((Below.newly' w5.drew (.cells #[.slice v t1 cp, .slice (some ⟨bb, oo, none⟩) q cl] 26)).block _ (Array.getElem?_eq_some_iff.1 HX6.out).1).trans HX6.out)
        refine hK.out _ _ (by first | exact ⟨cell_in HX6.out rfl, root_range HX6.out, cell_in HX6.out rfl⟩ | exact ⟨cell_in HX7.out rfl, root_range HX7.out, cell_in HX7.out rfl⟩ | exact ⟨cell_in HX8.out rfl, root_range HX8.out, cell_in HX8.out rfl⟩) (fun hHeld => ?_)
        clear hK K
        (try simp only [Act.put, List.setIfInBounds_toArray, List.set_cons_zero, List.set_cons_succ])
        refine wpAnyT_one (i := 12) (o := ⟨some 34, _, _, _, _, _⟩) (by kernel_rfl) rfl (fun K hK => ?_)
        go_simp
        go_at_call 33
        refine (pv_joined2 w5.drew _ _ _ _ t1 q HTA.out HTB.out (by have := HQ.out; omega) (by have := HQ.out; omega)).mono ?_
        rintro e w8 ⟨v8, rfl, hr8, hb⟩
        have HX8 := Lib.hid (((hb).block _ (Array.getElem?_eq_some_iff.1 HX6.out).1).trans HX6.out); have HY8 := Lib.hid (((hb).block _ (Array.getElem?_eq_some_iff.1 HY6.out).1).trans HY6.out); have HB8 := Lib.hid (HB6.out.trans ((hb).mono HB6.out.size))
        have HR8 := Lib.hid (hr8.weak (S' := S0) (fun g hg => HSU.out g (Nat.le_trans HB6.out.size hg)))
        have HT8 := Lib.hid ((HTR.out.later (drawn_below w5)).later hb)
        obtain ⟨a8, c8, rfl, _⟩ := hr8.shape
        clear hb hr8
        dsimp only
        refine hK.out _ _ (by first | exact ⟨cell_in HX6.out rfl, root_range HX6.out, cell_in HX6.out rfl⟩ | exact ⟨cell_in HX7.out rfl, root_range HX7.out, cell_in HX7.out rfl⟩ | exact ⟨cell_in HX8.out rfl, root_range HX8.out, cell_in HX8.out rfl⟩) (fun hHeld => ?_)
        clear hK K
        (try simp only [Act.put, List.setIfInBounds_toArray, List.set_cons_zero, List.set_cons_succ])
        refine wpAnyT_take (i := 13) (oi := ⟨some 35, _, _, _, _, _⟩) (v := ?vg4_13) rfl (by kernel_rfl) (by kernel_rfl) (by kernel_rfl) (by kernel_rfl) (fun _ _ _ h => h) (Or.inl ⟨by rfl, ?hg4_13⟩) (by assumption) ?rg4_13
        case hg4_13 => (intro w hSw; (try dsimp only at hSw); first | (go_simp; done) | (go_simp; with_reducible rfl))
        (try simp only [Act.put, List.setIfInBounds_toArray, List.set_cons_zero, List.set_cons_succ])
        refine wpAnyT_last (i := 14) (o := ⟨none, _, _, _, _, _⟩) (by kernel_rfl) (by decide) rfl (fun K hK => ?_)
        refine st_agg_wp 30 _ _ rfl W.heap.size #[.int .i64 (n2 : Int), a, b, .slice a8 (t1 + q) c8] rfl rfl 30 #[.int .i64 (n1 : Int), a, b, .slice v t1 cp] HX8.out vec_size rfl (by simp [HONE.out.1, HONE.out.2]; exact ⟨rfl, rfl⟩) ?_
        intro w9 h9 k9
        refine hK.out _ _ ?_
        clear hK K
        (try simp only [Act.put, List.setIfInBounds_toArray, List.set_cons_zero, List.set_cons_succ])
        refine wpAnyT_done (by kernel_rfl) ?_ _
        go_wp2_with fail
        go_roundw
        case rel =>
          have hq := HQ.out
          have hg := HG.out
          have hL := HLL.out
          have hq1 := HQ1.out
          have hNN := HNN.out
          obtain rfl := HN2.out
          refine ⟨n1 + q, t1 + q, _, ?_, ⟨by omega, by omega, .inr (by omega)⟩, h9, k9.other HY8.out (by omega), ⟨by omega, by omega, by omega, by omega, _, _, _, rfl, ?_, ?_⟩, HB8.out.trans (k9.below (Nat.le_refl _))⟩
          · rw [show N - (n1 + q) = L - q by omega]
            exact (spot_drop HSPW.out hq.2.1).congr fun j _ => by rw [Nat.add_assoc]
          · rw [show n1 + q - (t1 + q) = n1 - t1 by omega]
            exact HT8.out.keptT k9.by_ (fun X e => by cases e; exact ⟨_, HX8.out, fun cs fr => ⟨fun e => (by simp only [Obj.cells.injEq] at e; exact absurd e.2.1 (by decide)), fun e => (by simp only [Obj.cells.injEq] at e; exact absurd e.2.1 (by decide))⟩⟩)
          · rw [show n1 + q - (t1 + q) = n1 - t1 by omega]
            refine (HR8.out.keptT k9.by_ (fun X e => by cases e; exact ⟨_, HX8.out, fun cs fr e => (by simp only [Obj.cells.injEq] at e; exact absurd e.2.1 (by decide))⟩)).congr fun j hj => ?_
            show Value.int .i64 (if j < t1 then f' (n1 - t1 + j) else f' (n1 + (j - t1))) = Value.int .i64 (f' (n1 - t1 + j))
            by_cases e : j < t1
            · rw [if_pos e]
            · rw [if_neg e, show n1 + (j - t1) = n1 - t1 + j by omega]
        case measure => show L - q < L; have := HQ.out; omega
      · have ht' : ((t1 : Int) == 32) = false := beq_eq_false_iff_ne.2 (by omega)
        obtain ⟨a, b, v, cp, rfl, hc1, g1, g2, g3, g4, g6, g7⟩ := hv.laid
        have HX5 := Lib.hid HX4.out
        have HY5 := Lib.hid HY4.out
        have HB5 := Lib.hid HB4.out
        have HVG := Lib.hid HV4.out
        have HONE := Lib.hid g6.one
        have HG := Lib.hid (show t1 ≤ n1 ∧ (n1 - t1) % 32 = 0 ∧ n1 ≤ 1000000 from ⟨g1, g3, g4⟩)
        have q53 : wr.cell? ⟨W.heap.size, 3, none⟩ = some (.slice v t1 cp) := cell_in HX4.out rfl
        obtain ⟨q, hqe⟩ : ∃ q, q = min L (32 - t1) := ⟨_, rfl⟩
        have hmin : min (L : Int) (32 - (t1 : Int)) = (q : Int) := by omega
        have HQ := Lib.hid (show 0 < q ∧ q ≤ L ∧ t1 + q ≤ 32 ∧ q ≤ cl ∧ L ≤ cl from ⟨by omega, by omega, by omega, by omega, hlc⟩)
        have ht32 : (t1 : Int) ≤ 32 := by omega
        clear h0 hv hc1 hqe ht g1 g2 g3 g4 g6 g7 hlcell hla
        go_upto_region 5 with fail
        have HX6 : Hid (wr.drew.heap[W.heap.size]? = some (.cells #[.int .i64 (n1 : Int), a, b, .slice v t1 cp] 30 (0, 0))) := HX5.out
        have HY6 : Hid (wr.drew.heap[W.heap.size + 1]? = some (.cells #[.int .i64 0, .slice none 0 0, .slice none 0 0, .slice none 0 0] 30 (0, 0))) := HY5.out
        have HB6 := Lib.hid (HB5.out.trans ((drawn_below wr).mono HB5.out.size))
        obtain ⟨n2, hn2⟩ : ∃ n2, n2 = n1 + q := ⟨_, rfl⟩
        have hadd : (n1 : Int) + (q : Int) = (n2 : Int) := by omega
        have haddw : IntKind.i64.wrap (n2 : Int) = (n2 : Int) := by rw [IntKind.wrap_i64]; have := HQ.out; have := HG.out; omega
        have HN2 := Lib.hid hn2
        have hcut := ints_cut ⟨bb, oo, none⟩ L cl q (by have := HQ.out; omega)
        have hdrop := ints_drop bb oo L cl q (by have := HQ.out; omega)
        obtain ⟨u1, u2, u3, u4, a', b', v', e', hT, hR⟩ := HVG.out
        obtain ⟨rfl, rfl, rfl⟩ : a = a' ∧ b = b' ∧ Value.slice v t1 cp = v' := by simp only [Array.mk.injEq, List.cons.injEq, and_true] at e'; exact ⟨e'.2.1, e'.2.2.1, e'.2.2.2⟩
        have HTR := Lib.hid hT
        have HTA := Lib.hid (hR.places.later (drawn_below wr))
        have HTB : Hid (PlacesAt wr.drew 1 (.slice (some ⟨bb, oo, none⟩) q cl) (fi fun j => f' (n1 + j)) q) := by
          obtain ⟨av, cv, ev, hv⟩ := HSPW.out.places
          simp only [Value.slice.injEq, true_and] at ev
          obtain ⟨rfl, rfl⟩ := ev
          refine ⟨_, _, rfl, fun _ => ?_⟩
          obtain ⟨ad, e1, hc⟩ := hv (by have := HQ.out; omega)
          obtain rfl := Option.some.inj e1
          exact ⟨_, rfl, fun j hj => (HB6.out.cell (p := (⟨bb, oo, none⟩ : Addr).add j) (World.block_lt_of_cell? W _ (hc j (by have := HQ.out; omega)))).trans (hc j (by have := HQ.out; omega))⟩
        clear hn2 hT hR u1 u2 u3 u4 e'
        refine wp_region_T (S := fun V => V.cell? ⟨W.heap.size, 0, none⟩ = some (.int .i64 (n1 : Int)) ∧ V.rangeAt W.heap.size 1 [a, b] ∧ V.cell? ⟨W.heap.size, 3, none⟩ = some (.slice v t1 cp)) [14] (by kernel_rfl) (by first | exact ⟨cell_in HX6.out rfl, root_range HX6.out, cell_in HX6.out rfl⟩ | exact ⟨cell_in HX7.out rfl, root_range HX7.out, cell_in HX7.out rfl⟩ | exact ⟨cell_in HX8.out rfl, root_range HX8.out, cell_in HX8.out rfl⟩) (fun hHeld => ?_)
        refine wpAnyT_take (i := 0) (oi := ⟨some 22, _, _, _, _, _⟩) (v := ?vg5_0) rfl (by kernel_rfl) (by kernel_rfl) (by kernel_rfl) (by kernel_rfl) (fun _ _ _ h => h) (Or.inl ⟨by rfl, ?hg5_0⟩) (by assumption) ?rg5_0
        case hg5_0 => (intro w hSw; (try dsimp only at hSw); first | (go_simp; done) | (go_simp; with_reducible rfl))
        (try simp only [Act.put, List.setIfInBounds_toArray, List.set_cons_zero, List.set_cons_succ])
        refine wpAnyT_take (i := 1) (oi := ⟨some 23, _, _, _, _, _⟩) (v := ?vg5_1) rfl (by kernel_rfl) (by kernel_rfl) (by kernel_rfl) (by kernel_rfl) (fun _ _ _ h => h) (Or.inl ⟨by rfl, ?hg5_1⟩) (by assumption) ?rg5_1
        case hg5_1 => (intro w hSw; (try dsimp only at hSw); first | (go_simp; done) | (go_simp; with_reducible rfl))
        (try simp only [Act.put, List.setIfInBounds_toArray, List.set_cons_zero, List.set_cons_succ])
        refine wpAnyT_take (i := 2) (oi := ⟨some 24, _, _, _, _, _⟩) (v := ?vg5_2) rfl (by kernel_rfl) (by kernel_rfl) (by kernel_rfl) (by kernel_rfl) (fun _ _ _ h => h) (Or.inl ⟨by rfl, ?hg5_2⟩) (by assumption) ?rg5_2
        case hg5_2 => (intro w hSw; (try dsimp only at hSw); first | (go_simp; done) | (go_simp; with_reducible rfl))
        (try simp only [Act.put, List.setIfInBounds_toArray, List.set_cons_zero, List.set_cons_succ])
        refine wpAnyT_take (i := 3) (oi := ⟨some 25, _, _, _, _, _⟩) (v := ?vg5_3) rfl (by kernel_rfl) (by kernel_rfl) (by kernel_rfl) (by kernel_rfl) (fun _ _ _ h => h) (Or.inl ⟨by rfl, ?hg5_3⟩) (by assumption) ?rg5_3
        case hg5_3 => (intro w hSw; (try dsimp only at hSw); first | (go_simp; done) | (go_simp; with_reducible rfl))
        (try simp only [Act.put, List.setIfInBounds_toArray, List.set_cons_zero, List.set_cons_succ])
        refine wpAnyT_take (i := 4) (oi := ⟨some 26, _, _, _, _, _⟩) (v := ?vg5_4) rfl (by kernel_rfl) (by kernel_rfl) (by kernel_rfl) (by kernel_rfl) (fun _ _ _ h => h) (Or.inl ⟨by rfl, ?hg5_4⟩) (by assumption) ?rg5_4
        case hg5_4 => (intro w hSw; (try dsimp only at hSw); first | (go_simp; done) | (go_simp; with_reducible rfl))
        (try simp only [Act.put, List.setIfInBounds_toArray, List.set_cons_zero, List.set_cons_succ])
        refine wpAnyT_take (i := 5) (oi := ⟨some 27, _, _, _, _, _⟩) (v := _) rfl (by kernel_rfl) (by kernel_rfl) (by kernel_rfl) (by kernel_rfl) (fun _ _ _ h => h) (yieldsIf_load_mid (by rfl) 28 _ rfl W.heap.size 1 rfl [a, b] _ (fun w hw => hw.2.1) Try.underlying28 rfl node_size) (by assumption) ?_
        (try simp only [Act.put, List.setIfInBounds_toArray, List.set_cons_zero, List.set_cons_succ])
        refine wpAnyT_take (i := 6) (oi := ⟨some 28, _, _, _, _, _⟩) (v := ?vg5_6) rfl (by kernel_rfl) (by kernel_rfl) (by kernel_rfl) (by kernel_rfl) (fun _ _ _ h => h) (Or.inl ⟨by rfl, ?hg5_6⟩) (by assumption) ?rg5_6
        case hg5_6 => (intro w hSw; (try dsimp only at hSw); first | (go_simp; done) | (go_simp; with_reducible rfl))
        (try simp only [Act.put, List.setIfInBounds_toArray, List.set_cons_zero, List.set_cons_succ])
        refine wpAnyT_take (i := 7) (oi := ⟨some 29, _, _, _, _, _⟩) (v := ?vg5_7) rfl (by kernel_rfl) (by kernel_rfl) (by kernel_rfl) (by kernel_rfl) (fun _ _ _ h => h) (Or.inl ⟨by rfl, ?hg5_7⟩) (by assumption) ?rg5_7
        case hg5_7 => (intro w hSw; (try dsimp only at hSw); first | (go_simp; done) | (go_simp; with_reducible rfl))
        (try simp only [Act.put, List.setIfInBounds_toArray, List.set_cons_zero, List.set_cons_succ])
        refine wpAnyT_take (i := 8) (oi := ⟨some 30, _, _, _, _, _⟩) (v := ?vg5_8) rfl (by kernel_rfl) (by kernel_rfl) (by kernel_rfl) (by kernel_rfl) (fun _ _ _ h => h) (Or.inl ⟨by rfl, ?hg5_8⟩) (by assumption) ?rg5_8
        case hg5_8 => (intro w hSw; (try dsimp only at hSw); first | (go_simp; done) | (go_simp; with_reducible rfl))
        (try simp only [Act.put, List.setIfInBounds_toArray, List.set_cons_zero, List.set_cons_succ])
        refine wpAnyT_take (i := 9) (oi := ⟨some 31, _, _, _, _, _⟩) (v := ?vg5_9) rfl (by kernel_rfl) (by kernel_rfl) (by kernel_rfl) (by kernel_rfl) (fun _ _ _ h => h) (Or.inl ⟨by rfl, ?hg5_9⟩) (by assumption) ?rg5_9
        case hg5_9 => (intro w hSw; (try dsimp only at hSw); first | (go_simp; done) | (go_simp; with_reducible rfl))
        (try simp only [Act.put, List.setIfInBounds_toArray, List.set_cons_zero, List.set_cons_succ])
        refine wpAnyT_take (i := 10) (oi := ⟨some 32, _, _, _, _, _⟩) (v := ?vg5_10) rfl (by kernel_rfl) (by kernel_rfl) (by kernel_rfl) (by kernel_rfl) (fun _ _ _ h => h) (Or.inl ⟨by rfl, ?hg5_10⟩) (by assumption) ?rg5_10
        case hg5_10 => (intro w hSw; (try dsimp only at hSw); first | (go_simp; done) | (go_simp; with_reducible rfl))
        (try simp only [Act.put, List.setIfInBounds_toArray, List.set_cons_zero, List.set_cons_succ])
        refine wpAnyT_one (i := 11) (o := ⟨some 33, _, _, _, _, _⟩) (by kernel_rfl) rfl (fun K hK => ?_)
        go_simp
        have HX7 := Lib.hid (((Below.newly' wr.drew (.cells #[.slice v t1 cp, .slice (some ⟨bb, oo, none⟩) q cl] 26)).block _ (Array.getElem?_eq_some_iff.1 HX6.out).1).trans HX6.out)
        refine hK.out _ _ (by first | exact ⟨cell_in HX6.out rfl, root_range HX6.out, cell_in HX6.out rfl⟩ | exact ⟨cell_in HX7.out rfl, root_range HX7.out, cell_in HX7.out rfl⟩ | exact ⟨cell_in HX8.out rfl, root_range HX8.out, cell_in HX8.out rfl⟩) (fun hHeld => ?_)
        clear hK K
        (try simp only [Act.put, List.setIfInBounds_toArray, List.set_cons_zero, List.set_cons_succ])
        refine wpAnyT_one (i := 12) (o := ⟨some 34, _, _, _, _, _⟩) (by kernel_rfl) rfl (fun K hK => ?_)
        go_simp
        go_at_call 33
        refine (pv_joined2 wr.drew _ _ _ _ t1 q HTA.out HTB.out (by have := HQ.out; omega) (by have := HQ.out; omega)).mono ?_
        rintro e w8 ⟨v8, rfl, hr8, hb⟩
        have HX8 := Lib.hid (((hb).block _ (Array.getElem?_eq_some_iff.1 HX6.out).1).trans HX6.out); have HY8 := Lib.hid (((hb).block _ (Array.getElem?_eq_some_iff.1 HY6.out).1).trans HY6.out); have HB8 := Lib.hid (HB6.out.trans ((hb).mono HB6.out.size))
        have HR8 := Lib.hid (hr8.weak (S' := S0) (fun g hg => HSU.out g (Nat.le_trans HB6.out.size hg)))
        have HT8 := Lib.hid ((HTR.out.later (drawn_below wr)).later hb)
        obtain ⟨a8, c8, rfl, _⟩ := hr8.shape
        clear hb hr8
        dsimp only
        refine hK.out _ _ (by first | exact ⟨cell_in HX6.out rfl, root_range HX6.out, cell_in HX6.out rfl⟩ | exact ⟨cell_in HX7.out rfl, root_range HX7.out, cell_in HX7.out rfl⟩ | exact ⟨cell_in HX8.out rfl, root_range HX8.out, cell_in HX8.out rfl⟩) (fun hHeld => ?_)
        clear hK K
        (try simp only [Act.put, List.setIfInBounds_toArray, List.set_cons_zero, List.set_cons_succ])
        refine wpAnyT_take (i := 13) (oi := ⟨some 35, _, _, _, _, _⟩) (v := ?vg5_13) rfl (by kernel_rfl) (by kernel_rfl) (by kernel_rfl) (by kernel_rfl) (fun _ _ _ h => h) (Or.inl ⟨by rfl, ?hg5_13⟩) (by assumption) ?rg5_13
        case hg5_13 => (intro w hSw; (try dsimp only at hSw); first | (go_simp; done) | (go_simp; with_reducible rfl))
        (try simp only [Act.put, List.setIfInBounds_toArray, List.set_cons_zero, List.set_cons_succ])
        refine wpAnyT_last (i := 14) (o := ⟨none, _, _, _, _, _⟩) (by kernel_rfl) (by decide) rfl (fun K hK => ?_)
        refine st_agg_wp 30 _ _ rfl W.heap.size #[.int .i64 (n2 : Int), a, b, .slice a8 (t1 + q) c8] rfl rfl 30 #[.int .i64 (n1 : Int), a, b, .slice v t1 cp] HX8.out vec_size rfl (by simp [HONE.out.1, HONE.out.2]; exact ⟨rfl, rfl⟩) ?_
        intro w9 h9 k9
        refine hK.out _ _ ?_
        clear hK K
        (try simp only [Act.put, List.setIfInBounds_toArray, List.set_cons_zero, List.set_cons_succ])
        refine wpAnyT_done (by kernel_rfl) ?_ _
        go_wp2_with fail
        go_roundw
        case rel =>
          have hq := HQ.out
          have hg := HG.out
          have hL := HLL.out
          have hq1 := HQ1.out
          have hNN := HNN.out
          obtain rfl := HN2.out
          refine ⟨n1 + q, t1 + q, _, ?_, ⟨by omega, by omega, .inr (by omega)⟩, h9, k9.other HY8.out (by omega), ⟨by omega, by omega, by omega, by omega, _, _, _, rfl, ?_, ?_⟩, HB8.out.trans (k9.below (Nat.le_refl _))⟩
          · rw [show N - (n1 + q) = L - q by omega]
            exact (spot_drop HSPW.out hq.2.1).congr fun j _ => by rw [Nat.add_assoc]
          · rw [show n1 + q - (t1 + q) = n1 - t1 by omega]
            exact HT8.out.keptT k9.by_ (fun X e => by cases e; exact ⟨_, HX8.out, fun cs fr => ⟨fun e => (by simp only [Obj.cells.injEq] at e; exact absurd e.2.1 (by decide)), fun e => (by simp only [Obj.cells.injEq] at e; exact absurd e.2.1 (by decide))⟩⟩)
          · rw [show n1 + q - (t1 + q) = n1 - t1 by omega]
            refine (HR8.out.keptT k9.by_ (fun X e => by cases e; exact ⟨_, HX8.out, fun cs fr e => (by simp only [Obj.cells.injEq] at e; exact absurd e.2.1 (by decide))⟩)).congr fun j hj => ?_
            show Value.int .i64 (if j < t1 then f' (n1 - t1 + j) else f' (n1 + (j - t1))) = Value.int .i64 (f' (n1 - t1 + j))
            by_cases e : j < t1
            · rw [if_pos e]
            · rw [if_neg e, show n1 + (j - t1) = n1 - t1 + j by omega]
        case measure => show L - q < L; have := HQ.out; omega
theorem pv_Push {c : Array Value} {f g : Nat → Int} {n k : Nat} (W : World) (h : VecAt W c f n) (lv : Value) (hl : SpotAt W lv g k) (hk : n + k ≤ 1000000) : Calls Try.prog 19 #[.agg c, lv] W fun e W' =>
    ∃ c', e = .returned (.agg c') ∧ VecAt W' c' (appF f n g) (n + k) ∧ Below W.heap.size W W' :=
  (pv_PushS W h lv hl hk).mono fun _ _ ⟨c', h1, h2, h3⟩ => ⟨c', h1, VecG.weak (fun _ _ => trivial) h2, h3⟩
end Go.Proofs.Ytpjbhdplginbaaa
