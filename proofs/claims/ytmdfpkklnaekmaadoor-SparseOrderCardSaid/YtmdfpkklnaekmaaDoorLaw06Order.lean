/- Layer 6's law SparseOrder, over what package sparse's rows answer. -/
import Derived.Test.YtmdfpkklnaekmaaDoorLaw06Ops
namespace Go.Proofs.YtmdfpkklnaekmaaDoor
open Go.RowKit
set_option maxRecDepth 1000000
set_option linter.unusedSimpArgs false

section
variable {Tb : World → Prop} {At : World → Rw → Array Value → Prop} (S : RSpec Tb At)
include S
set_option maxHeartbeats 4000000 in
theorem sparseOrder_of (v : Value) (l : List Opr) (a b : Opr) (ha : In64 a.1 ∧ In64 a.2.1) (hb : In64 b.1 ∧ In64 b.2.1) (w : World) (hl : OpsAt w v l) (hT : Tb w) :
    Calls Tryd.prog 8 #[v, .agg (opC a), .agg (opC b)] w fun e w' => e = .returned (.bool true) ∧ Below w.heap.size w w' := by
  have hops := hl
  obtain ⟨ad, cap, bb, oo, rfl, h1, h2, h3, h4⟩ := hl
  have HLO := Lib.hid h1
  have HLC := Lib.hid h2
  have HLI := Lib.hid h3
  have HIA := Lib.hid ha
  have HIB := Lib.hid hb
  clear h1 h2 h3 ha hb hops
  go_enter Tryd.func8, Tryd.ntmps8
  go_upto_region 1 with fail
  obtain ⟨w0, hw0⟩ : ∃ w0, (w.alloc (.cells (opC a) 35)).alloc (.cells (opC b) 35) = w0 := ⟨_, rfl⟩
  rw [hw0]
  obtain ⟨hx, hy, hbl⟩ := pair_laid hw0
  have HA0 := Lib.hid hx
  have HB0 := Lib.hid hy
  have HW0 := Lib.hid hbl
  clear hx hy hbl hw0
  by_cases hlen : l.length ≤ 100
  case neg =>
    have hl' : (100 : Int) < (l.length : Int) := by omega
    clear hlen
    go_wp2_with (first
      | (go_at_call 9; with_reducible refine (live6_true S w0 (S.tab hT HW0.out)).mono ?_; rintro e w1 ⟨rfl, hb⟩; have HW1 := Lib.hid (HW0.out.trans (hb.mono HW0.out.size)); clear hb)
      | (go_at_call 9; with_reducible refine (live6_true S w1 (S.tab hT HW1.out)).mono ?_; rintro e w2 ⟨rfl, hb⟩; have HW2 := Lib.hid (HW1.out.trans (hb.mono HW1.out.size)); clear hb))
    go_ret
    exact ⟨rfl, HW2.out⟩
  have hl' : ¬ (100 : Int) < (l.length : Int) := by omega
  go_upto_region 4 with (first
    | (go_at_call 9; with_reducible refine (live6_true S w0 (S.tab hT HW0.out)).mono ?_; rintro e w1 ⟨rfl, hb⟩; have HA1 := Lib.hid ((hb.block _ (Array.getElem?_eq_some_iff.1 HA0.out).1).trans HA0.out); have HB1 := Lib.hid ((hb.block _ (Array.getElem?_eq_some_iff.1 HB0.out).1).trans HB0.out); have HW1 := Lib.hid (HW0.out.trans (hb.mono HW0.out.size)); clear hb))
  obtain ⟨X, hX⟩ : ∃ X, X = w1.heap.size := ⟨_, rfl⟩
  obtain ⟨V, hV⟩ : ∃ V, w1.alloc (.cells zeroS 27) = V := ⟨_, rfl⟩
  rw [hV, ← hX]
  have HVB : Hid (Below X w1 V) := by show Below _ _ _; rw [← hV, hX]; exact Below.newly' _ _
  have HVX : Hid (V.heap[X]? = some (.cells zeroS 27 (0, 0))) := by show _ = _; rw [← hV, hX]; exact heap_alloc_last _ _
  have HX1 : Hid (w.heap.size + 1 < X) := by show _ < _; rw [hX]; exact (Array.getElem?_eq_some_iff.1 HB1.out).1
  have HWV : Hid (Below w.heap.size w V) := by show Below _ _ _; exact HW1.out.trans (HVB.out.mono (by have := HX1.out; omega))
  have HXV : Hid (X < V.heap.size) := (Array.getElem?_eq_some_iff.1 HVX.out).1
  clear hV hX
  go_wp2_with fail
  go_loopw [22] (fun i wl => ∃ (n : Nat) (c : Array Value) (R : Rw), n ≤ l.length ∧ i = .int .i64 n ∧ wl.heap[X]? = some (.cells c 27 (0, 0)) ∧ At wl R c ∧ Below X V wl) (fun i _ => l.length - (intOf i).toNat)
  case atStart => exact ⟨0, _, noR, Nat.zero_le _, rfl, HVX.out, S.zero _, Below.refl _ _⟩
  case round =>
    obtain ⟨n, c, R, hn, rfl, hz, hc, hbl⟩ := hrel
    have HZ4 := Lib.hid hz
    have HC4 := Lib.hid hc
    have HV4 := Lib.hid hbl
    have HW4 : Hid (Below w.heap.size w wr) := HWV.out.trans (hbl.mono (by have := HX1.out; omega))
    have HS4 : Hid (X < wr.heap.size) := (Array.getElem?_eq_some_iff.1 hz).1
    clear hz hc hbl
    by_cases hlt : n < l.length
    · have hlt' : (n : Int) < (l.length : Int) := by omega
      have i0 : (0 : Int) ≤ (n : Int) := by omega
      have had : ad = some ⟨bb, oo, none⟩ := HLO.out (by omega)
      subst had
      have HI := Lib.hid (HLI.out l[n] (List.getElem_mem hlt))
      have HR := Lib.hid ((HLC.out n hlt).later HW4.out)
      obtain ⟨x, hx⟩ : ∃ x, x = l[n] := ⟨_, rfl⟩
      rw [← hx] at HR HI
      clear hx
      go_upto_region 7 with (refine ld_op rfl _ rfl bb (oo + n * 3) rfl x HR.out ?_)

      obtain ⟨w5, hw5⟩ : ∃ w5, wr.alloc (.cells (opC x) 35) = w5 := ⟨_, rfl⟩
      rw [hw5]
      have hb : Below wr.heap.size wr w5 := by rw [← hw5]; exact Below.newly' _ _
      have HO5 : Hid (w5.heap[wr.heap.size]? = some (.cells (opC x) 35 (0, 0))) := by show _ = _; rw [← hw5]; exact heap_alloc_last _ _
      clear hw5
      have HZ5 := Lib.hid ((hb.block _ (Array.getElem?_eq_some_iff.1 HZ4.out).1).trans HZ4.out)
      have HC5 := Lib.hid (S.later HC4.out hb)
      have HW5 := Lib.hid (HW4.out.trans (hb.mono HW4.out.size))
      have HV5 := Lib.hid (HV4.out.trans (hb.mono (Nat.le_trans (Nat.le_of_lt HXV.out) HV4.out.size)))
      clear hb
      go_wp2_with (first
        | (refine ld_if rfl 27 _ rfl (X) rfl 27 _ _ _ HZ5.out Tryd.underlying27 rfl (by rw [S.size HC5.out]; exact srow_info) ?_)
        | (refine ld_if rfl 35 _ rfl (wr.heap.size) rfl 35 _ _ _ HO5.out Tryd.underlying35 rfl (op_info) ?_)
        | (go_at_call 10; refine (does_walk S R c x HI.out.1 HI.out.2 _ HC5.out).mono ?_; rintro e w6 ⟨c', rfl, hc', hb⟩; have HD6 := Lib.hid hc'; clear hc'; have HZ6 := Lib.hid ((hb.block _ (Array.getElem?_eq_some_iff.1 HZ5.out).1).trans HZ5.out); have HC6 := Lib.hid (S.later HC5.out hb); have HW6 := Lib.hid (HW5.out.trans (hb.mono HW5.out.size)); have HV6 := Lib.hid (HV5.out.trans (hb.mono (Nat.le_trans (Nat.le_of_lt HXV.out) HV5.out.size))); clear hb)
        | (refine st_agg rfl 27 _ _ rfl X c' rfl rfl 27 c HZ6.out (by rw [S.size HD6.out]; exact srow_info) (by rw [S.size HC6.out, S.size HD6.out]) (S.one HD6.out) ?_; intro w7 h7 k7; have HZ7 := Lib.hid h7; have HC7 := Lib.hid (S.but HD6.out k7 HZ6.out (by decide)); have HV7 := Lib.hid (HV6.out.trans (k7.below (Nat.le_refl _))); clear h7 k7))
      case roundEnd => exact ⟨⟨n + 1, c', doR R x, by omega, by go_num, HZ7.out, HC7.out, HV7.out⟩, by simp [intOf]; omega⟩
    · obtain rfl : n = l.length := by omega
      have hax : w.heap.size < X := by have := HX1.out; omega
      have HA5 : Hid (wr.drew.heap[w.heap.size]? = some (.cells (opC a) 35 (0, 0))) := (HV4.out.block _ hax).trans ((HVB.out.block _ hax).trans HA1.out)
      have HB5 : Hid (wr.drew.heap[w.heap.size + 1]? = some (.cells (opC b) 35 (0, 0))) := (HV4.out.block _ HX1.out).trans ((HVB.out.block _ HX1.out).trans HB1.out)
      have HZ5 : Hid (wr.drew.heap[X]? = some (.cells c 27 (0, 0))) := HZ4.out
      have HC5 : Hid (At wr.drew R c) := S.later (W := wr) HC4.out (Below.drewMany (Below.refl _ wr) 1)
      have HW5 : Hid (Below w.heap.size w wr.drew) := Below.drewMany HW4.out 1
      clear HLO HLC HLI HVB HWV HV4 HW4 HZ4 HC4 HVX HXV HS4 hlt hl' hn hax HA0 HB0 HW0 HA1 HB1 HW1
      by_cases hab : a.1 = b.1
      · have hne : (a.1 != b.1) = false := by simp [hab]
        clear hab
        go_upto_region 9 with fail
        refine wp_region_T (S := fun W => W.heap[w.heap.size]? = some (.cells (opC a) 35 (0, 0)) ∧ W.heap[(w.heap.size + 1)]? = some (.cells (opC b) 35 (0, 0)) ∧ W.heap[X]? = some (.cells c 27 (0, 0)) ∧ W.cell? ⟨w.heap.size, 0, none⟩ = some (.int .i64 a.1) ∧ W.cell? ⟨(w.heap.size + 1), 0, none⟩ = some (.int .i64 b.1)) [] (by kernel_rfl) (by first | exact ⟨HA5.out, HB5.out, HZ5.out, cell_in HA5.out rfl, cell_in HB5.out rfl⟩) (fun hHeld => ?_)
        refine wpAnyT_take (i := 0) (oi := ⟨some 30, _, _, _, _, _⟩) (v := ?vg1_0) rfl (by kernel_rfl) (by kernel_rfl) (by kernel_rfl) (by kernel_rfl) (fun _ _ _ h => h) (Or.inl ⟨by rfl, ?hg1_0⟩) (by assumption) ?rg1_0
        case hg1_0 => (intro w hSw; (try dsimp only at hSw); first | (go_simp; done) | (go_simp; with_reducible rfl))
        (try simp only [Act.put, List.setIfInBounds_toArray, List.set_cons_zero, List.set_cons_succ])
        refine wpAnyT_take (i := 1) (oi := ⟨some 31, _, _, _, _, _⟩) (v := ?vg1_1) rfl (by kernel_rfl) (by kernel_rfl) (by kernel_rfl) (by kernel_rfl) (fun _ _ _ h => h) (Or.inl ⟨by rfl, ?hg1_1⟩) (by assumption) ?rg1_1
        case hg1_1 => (intro w hSw; (try dsimp only at hSw); first | (go_simp; done) | (go_simp; with_reducible rfl))
        (try simp only [Act.put, List.setIfInBounds_toArray, List.set_cons_zero, List.set_cons_succ])
        refine wpAnyT_take (i := 2) (oi := ⟨some 32, _, _, _, _, _⟩) (v := ?vg1_2) rfl (by kernel_rfl) (by kernel_rfl) (by kernel_rfl) (by kernel_rfl) (fun _ _ _ h => h) (Or.inl ⟨by rfl, ?hg1_2⟩) (by assumption) ?rg1_2
        case hg1_2 => (intro w hSw; (try dsimp only at hSw); first | (go_simp; done) | (go_simp; with_reducible rfl))
        (try simp only [Act.put, List.setIfInBounds_toArray, List.set_cons_zero, List.set_cons_succ])
        refine wpAnyT_take (i := 3) (oi := ⟨some 33, _, _, _, _, _⟩) (v := ?vg1_3) rfl (by kernel_rfl) (by kernel_rfl) (by kernel_rfl) (by kernel_rfl) (fun _ _ _ h => h) (Or.inl ⟨by rfl, ?hg1_3⟩) (by assumption) ?rg1_3
        case hg1_3 => (intro w hSw; (try dsimp only at hSw); first | (go_simp; done) | (go_simp; with_reducible rfl))
        (try simp only [Act.put, List.setIfInBounds_toArray, List.set_cons_zero, List.set_cons_succ])
        refine wpAnyT_take (i := 4) (oi := ⟨some 34, _, _, _, _, _⟩) (v := ?vg1_4) rfl (by kernel_rfl) (by kernel_rfl) (by kernel_rfl) (by kernel_rfl) (fun _ _ _ h => h) (Or.inl ⟨by rfl, ?hg1_4⟩) (by assumption) ?rg1_4
        case hg1_4 => (intro w hSw; (try dsimp only at hSw); first | (go_simp; done) | (go_simp; with_reducible rfl))
        (try simp only [Act.put, List.setIfInBounds_toArray, List.set_cons_zero, List.set_cons_succ])
        refine wpAnyT_take (i := 5) (oi := ⟨some 35, _, _, _, _, _⟩) (v := ?vg1_5) rfl (by kernel_rfl) (by kernel_rfl) (by kernel_rfl) (by kernel_rfl) (fun _ _ _ h => h) (Or.inl ⟨by rfl, ?hg1_5⟩) (by assumption) ?rg1_5
        case hg1_5 => (intro w hSw; (try dsimp only at hSw); first | (go_simp; done) | (go_simp; with_reducible rfl))
        (try simp only [Act.put, List.setIfInBounds_toArray, List.set_cons_zero, List.set_cons_succ])
        refine wpAnyT_take (i := 6) (oi := ⟨some 36, _, _, _, _, _⟩) (v := undef) rfl (by kernel_rfl) (by kernel_rfl) (by kernel_rfl) (by kernel_rfl) (fun _ _ _ h => h) (Or.inr ⟨by rfl, rfl⟩) (by assumption) ?_
        (try simp only [Act.put, List.setIfInBounds_toArray, List.set_cons_zero, List.set_cons_succ])
        refine wpAnyT_take (i := 7) (oi := ⟨some 37, _, _, _, _, _⟩) (v := undef) rfl (by kernel_rfl) (by kernel_rfl) (by kernel_rfl) (by kernel_rfl) (fun _ _ _ h => h) (Or.inr ⟨by rfl, rfl⟩) (by assumption) ?_
        (try simp only [Act.put, List.setIfInBounds_toArray, List.set_cons_zero, List.set_cons_succ])
        refine wpAnyT_take (i := 8) (oi := ⟨some 38, _, _, _, _, _⟩) (v := undef) rfl (by kernel_rfl) (by kernel_rfl) (by kernel_rfl) (by kernel_rfl) (fun _ _ _ h => h) (Or.inr ⟨by rfl, rfl⟩) (by assumption) ?_
        (try simp only [Act.put, List.setIfInBounds_toArray, List.set_cons_zero, List.set_cons_succ])
        refine wpAnyT_take (i := 9) (oi := ⟨some 39, _, _, _, _, _⟩) (v := undef) rfl (by kernel_rfl) (by kernel_rfl) (by kernel_rfl) (by kernel_rfl) (fun _ _ _ h => h) (Or.inr ⟨by rfl, rfl⟩) (by assumption) ?_
        (try simp only [Act.put, List.setIfInBounds_toArray, List.set_cons_zero, List.set_cons_succ])
        refine wpAnyT_take (i := 10) (oi := ⟨some 40, _, _, _, _, _⟩) (v := undef) rfl (by kernel_rfl) (by kernel_rfl) (by kernel_rfl) (by kernel_rfl) (fun _ _ _ h => h) (Or.inr ⟨by rfl, rfl⟩) (by assumption) ?_
        (try simp only [Act.put, List.setIfInBounds_toArray, List.set_cons_zero, List.set_cons_succ])
        refine wpAnyT_take (i := 11) (oi := ⟨some 41, _, _, _, _, _⟩) (v := undef) rfl (by kernel_rfl) (by kernel_rfl) (by kernel_rfl) (by kernel_rfl) (fun _ _ _ h => h) (Or.inr ⟨by rfl, rfl⟩) (by assumption) ?_
        (try simp only [Act.put, List.setIfInBounds_toArray, List.set_cons_zero, List.set_cons_succ])
        refine wpAnyT_take (i := 12) (oi := ⟨some 42, _, _, _, _, _⟩) (v := undef) rfl (by kernel_rfl) (by kernel_rfl) (by kernel_rfl) (by kernel_rfl) (fun _ _ _ h => h) (Or.inr ⟨by rfl, rfl⟩) (by assumption) ?_
        (try simp only [Act.put, List.setIfInBounds_toArray, List.set_cons_zero, List.set_cons_succ])
        refine wpAnyT_take (i := 13) (oi := ⟨some 43, _, _, _, _, _⟩) (v := undef) rfl (by kernel_rfl) (by kernel_rfl) (by kernel_rfl) (by kernel_rfl) (fun _ _ _ h => h) (Or.inr ⟨by rfl, rfl⟩) (by assumption) ?_
        (try simp only [Act.put, List.setIfInBounds_toArray, List.set_cons_zero, List.set_cons_succ])
        refine wpAnyT_take (i := 14) (oi := ⟨some 44, _, _, _, _, _⟩) (v := undef) rfl (by kernel_rfl) (by kernel_rfl) (by kernel_rfl) (by kernel_rfl) (fun _ _ _ h => h) (Or.inr ⟨by rfl, rfl⟩) (by assumption) ?_
        (try simp only [Act.put, List.setIfInBounds_toArray, List.set_cons_zero, List.set_cons_succ])
        refine wpAnyT_take (i := 15) (oi := ⟨some 45, _, _, _, _, _⟩) (v := undef) rfl (by kernel_rfl) (by kernel_rfl) (by kernel_rfl) (by kernel_rfl) (fun _ _ _ h => h) (Or.inr ⟨by rfl, rfl⟩) (by assumption) ?_
        (try simp only [Act.put, List.setIfInBounds_toArray, List.set_cons_zero, List.set_cons_succ])
        refine wpAnyT_take (i := 16) (oi := ⟨some 46, _, _, _, _, _⟩) (v := undef) rfl (by kernel_rfl) (by kernel_rfl) (by kernel_rfl) (by kernel_rfl) (fun _ _ _ h => h) (Or.inr ⟨by rfl, rfl⟩) (by assumption) ?_
        (try simp only [Act.put, List.setIfInBounds_toArray, List.set_cons_zero, List.set_cons_succ])
        refine wpAnyT_take (i := 17) (oi := ⟨some 47, _, _, _, _, _⟩) (v := undef) rfl (by kernel_rfl) (by kernel_rfl) (by kernel_rfl) (by kernel_rfl) (fun _ _ _ h => h) (Or.inr ⟨by rfl, rfl⟩) (by assumption) ?_
        (try simp only [Act.put, List.setIfInBounds_toArray, List.set_cons_zero, List.set_cons_succ])
        refine wpAnyT_take (i := 18) (oi := ⟨some 48, _, _, _, _, _⟩) (v := ?vg1_18) rfl (by kernel_rfl) (by kernel_rfl) (by kernel_rfl) (by kernel_rfl) (fun _ _ _ h => h) (Or.inl ⟨by rfl, ?hg1_18⟩) (by assumption) ?rg1_18
        case hg1_18 => (intro w hSw; (try dsimp only at hSw); first | (go_simp; done) | (go_simp; with_reducible rfl))
        (try simp only [Act.put, List.setIfInBounds_toArray, List.set_cons_zero, List.set_cons_succ])
        refine wpAnyT_done (by kernel_rfl) ?_ _
        obtain ⟨w5, hw5⟩ : ∃ w5, w5 = wr.drew := ⟨_, rfl⟩
        rw [← hw5] at HA5 HB5 HZ5 HC5 HW5 ⊢
        clear hw5 hHeld
        have HQ := Lib.hid (cut_back R a)
        have HG := Lib.hid (fun W h => S.get W R c a.1 h HIA.out.1)
        obtain ⟨⟨gx, q⟩, hq⟩ : ∃ p, p = getR R a.1 := ⟨_, rfl⟩
        rw [← hq] at HQ HG
        simp only at HQ HG
        clear hq
        have k0 := cell_in (j := 0) (v := .int .i64 a.1) HA5.out rfl
        go_upto_region 12 with (first
          | (refine ld_if rfl 27 _ rfl (X) rfl 27 _ _ _ HZ5.out Tryd.underlying27 rfl (by rw [S.size HC5.out]; exact srow_info) ?_)
          | (go_at_call 12; refine (HG.out _ HC5.out).mono ?_; rintro e w6 ⟨rfl, hb⟩; have HA6 := Lib.hid ((hb.block _ (Array.getElem?_eq_some_iff.1 HA5.out).1).trans HA5.out); have HB6 := Lib.hid ((hb.block _ (Array.getElem?_eq_some_iff.1 HB5.out).1).trans HB5.out); have HZ6 := Lib.hid ((hb.block _ (Array.getElem?_eq_some_iff.1 HZ5.out).1).trans HZ5.out); have HC6 := Lib.hid (S.later HC5.out hb); have HW6 := Lib.hid (HW5.out.trans (hb.mono HW5.out.size)); clear hb))
        clear k0
        have HA7 : Hid (w6.drew.heap[w.heap.size]? = some (.cells (opC a) 35 (0, 0))) := HA6.out
        have HB7 : Hid (w6.drew.heap[(w.heap.size + 1)]? = some (.cells (opC b) 35 (0, 0))) := HB6.out
        have HZ7 : Hid (w6.drew.heap[X]? = some (.cells c 27 (0, 0))) := HZ6.out
        have HC7 : Hid (At w6.drew R c) := S.later (W := w6) HC6.out (Below.drewMany (Below.refl _ w6) 1)
        have HW7 : Hid (Below w.heap.size w w6.drew) := Below.drewMany HW6.out 1
        refine wp_region_T (S := fun W => W.heap[w.heap.size]? = some (.cells (opC a) 35 (0, 0)) ∧ W.heap[(w.heap.size + 1)]? = some (.cells (opC b) 35 (0, 0)) ∧ W.heap[X]? = some (.cells c 27 (0, 0)) ∧ W.cell? ⟨w.heap.size, 0, none⟩ = some (.int .i64 a.1) ∧ W.cell? ⟨(w.heap.size + 1), 0, none⟩ = some (.int .i64 b.1)) [] (by kernel_rfl) (by first | exact ⟨HA7.out, HB7.out, HZ7.out, cell_in HA7.out rfl, cell_in HB7.out rfl⟩ | exact ⟨HA8.out, HB8.out, HZ8.out, cell_in HA8.out rfl, cell_in HB8.out rfl⟩ | exact ⟨HA9.out, HB9.out, HZ9.out, cell_in HA9.out rfl, cell_in HB9.out rfl⟩ | exact ⟨HA10.out, HB10.out, HZ10.out, cell_in HA10.out rfl, cell_in HB10.out rfl⟩ | exact ⟨HA11.out, HB11.out, HZ11.out, cell_in HA11.out rfl, cell_in HB11.out rfl⟩ | exact ⟨HA12.out, HB12.out, HZ12.out, cell_in HA12.out rfl, cell_in HB12.out rfl⟩ | exact ⟨HA13.out, HB13.out, HZ13.out, cell_in HA13.out rfl, cell_in HB13.out rfl⟩ | exact ⟨HA14.out, HB14.out, HZ14.out, cell_in HA14.out rfl, cell_in HB14.out rfl⟩) (fun hHeld => ?_)
        refine wpAnyT_take (i := 0) (oi := ⟨some 56, _, _, _, _, _⟩) (v := _) rfl (by kernel_rfl) (by kernel_rfl) (by kernel_rfl) (by kernel_rfl) (fun _ _ _ h => h) (yieldsIf_load_row (by rfl) 27 _ rfl X rfl c 27 (0, 0) _ (fun w hw => hw.2.2.1) Tryd.underlying27 rfl (by rw [S.size HC7.out]; exact srow_info)) (by assumption) ?_
        (try simp only [Act.put, List.setIfInBounds_toArray, List.set_cons_zero, List.set_cons_succ])
        refine wpAnyT_take (i := 1) (oi := ⟨some 57, _, _, _, _, _⟩) (v := _) rfl (by kernel_rfl) (by kernel_rfl) (by kernel_rfl) (by kernel_rfl) (fun _ _ _ h => h) (yieldsIf_load_row (by rfl) 35 _ rfl w.heap.size rfl (opC a) 35 (0, 0) _ (fun w hw => hw.1) Tryd.underlying35 rfl (by exact op_info)) (by assumption) ?_
        (try simp only [Act.put, List.setIfInBounds_toArray, List.set_cons_zero, List.set_cons_succ])
        refine wpAnyT_take (i := 3) (oi := ⟨some 59, _, _, _, _, _⟩) (v := ?vg4_3) rfl (by kernel_rfl) (by kernel_rfl) (by kernel_rfl) (by kernel_rfl) (fun _ _ _ h => h) (Or.inl ⟨by rfl, ?hg4_3⟩) (by assumption) ?rg4_3
        case hg4_3 => (intro w hSw; (try dsimp only at hSw); first | (go_simp; done) | (go_simp; with_reducible rfl))
        (try simp only [Act.put, List.setIfInBounds_toArray, List.set_cons_zero, List.set_cons_succ])
        refine wpAnyT_take (i := 4) (oi := ⟨some 60, _, _, _, _, _⟩) (v := ?vg4_4) rfl (by kernel_rfl) (by kernel_rfl) (by kernel_rfl) (by kernel_rfl) (fun _ _ _ h => h) (Or.inl ⟨by rfl, ?hg4_4⟩) (by assumption) ?rg4_4
        case hg4_4 => (intro w hSw; (try dsimp only at hSw); first | (go_simp; done) | (go_simp; with_reducible rfl))
        (try simp only [Act.put, List.setIfInBounds_toArray, List.set_cons_zero, List.set_cons_succ])
        refine wpAnyT_take (i := 6) (oi := ⟨some 62, _, _, _, _, _⟩) (v := _) rfl (by kernel_rfl) (by kernel_rfl) (by kernel_rfl) (by kernel_rfl) (fun _ _ _ h => h) (yieldsIf_load_row (by rfl) 27 _ rfl X rfl c 27 (0, 0) _ (fun w hw => hw.2.2.1) Tryd.underlying27 rfl (by rw [S.size HC7.out]; exact srow_info)) (by assumption) ?_
        (try simp only [Act.put, List.setIfInBounds_toArray, List.set_cons_zero, List.set_cons_succ])
        refine wpAnyT_take (i := 9) (oi := ⟨some 65, _, _, _, _, _⟩) (v := ?vg4_9) rfl (by kernel_rfl) (by kernel_rfl) (by kernel_rfl) (by kernel_rfl) (fun _ _ _ h => h) (Or.inl ⟨by rfl, ?hg4_9⟩) (by assumption) ?rg4_9
        case hg4_9 => (intro w hSw; (try dsimp only at hSw); first | (go_simp; done) | (go_simp; with_reducible rfl))
        (try simp only [Act.put, List.setIfInBounds_toArray, List.set_cons_zero, List.set_cons_succ])
        refine wpAnyT_one (i := 2) (o := ⟨some 58, _, _, _, _, _⟩) (by kernel_rfl) rfl (fun K hK => ?_)
        go_simp
        go_at_call 10
        refine (does_walk S R c a HIA.out.1 HIA.out.2 _ HC7.out).mono ?_
        rintro e w8 ⟨e1, rfl, hc', hb⟩
        have HE8 := Lib.hid hc'
        clear hc'
        have HA8 := Lib.hid ((hb.block _ (Array.getElem?_eq_some_iff.1 HA7.out).1).trans HA7.out)
        have HB8 := Lib.hid ((hb.block _ (Array.getElem?_eq_some_iff.1 HB7.out).1).trans HB7.out)
        have HZ8 := Lib.hid ((hb.block _ (Array.getElem?_eq_some_iff.1 HZ7.out).1).trans HZ7.out)
        have HC8 := Lib.hid (S.later HC7.out hb)
        have HW8 := Lib.hid (HW7.out.trans (hb.mono HW7.out.size))
        clear hb
        (try go_wp2_with fail)
        refine hK.out _ _ (by first | exact ⟨HA7.out, HB7.out, HZ7.out, cell_in HA7.out rfl, cell_in HB7.out rfl⟩ | exact ⟨HA8.out, HB8.out, HZ8.out, cell_in HA8.out rfl, cell_in HB8.out rfl⟩ | exact ⟨HA9.out, HB9.out, HZ9.out, cell_in HA9.out rfl, cell_in HB9.out rfl⟩ | exact ⟨HA10.out, HB10.out, HZ10.out, cell_in HA10.out rfl, cell_in HB10.out rfl⟩ | exact ⟨HA11.out, HB11.out, HZ11.out, cell_in HA11.out rfl, cell_in HB11.out rfl⟩ | exact ⟨HA12.out, HB12.out, HZ12.out, cell_in HA12.out rfl, cell_in HB12.out rfl⟩ | exact ⟨HA13.out, HB13.out, HZ13.out, cell_in HA13.out rfl, cell_in HB13.out rfl⟩ | exact ⟨HA14.out, HB14.out, HZ14.out, cell_in HA14.out rfl, cell_in HB14.out rfl⟩) (fun hHeld => ?_)
        clear hK K
        (try simp only [Act.put, List.setIfInBounds_toArray, List.set_cons_zero, List.set_cons_succ])
        refine wpAnyT_one (i := 5) (o := ⟨some 61, _, _, _, _, _⟩) (by kernel_rfl) rfl (fun K hK => ?_)
        go_simp
        go_at_call 24
        refine (S.cut _ (doR R a) e1 a.1 HE8.out HIA.out.1).mono ?_
        rintro e w9 ⟨e2, rfl, hc', hb⟩
        have HF9 := Lib.hid hc'
        clear hc'
        have HA9 := Lib.hid ((hb.block _ (Array.getElem?_eq_some_iff.1 HA8.out).1).trans HA8.out)
        have HB9 := Lib.hid ((hb.block _ (Array.getElem?_eq_some_iff.1 HB8.out).1).trans HB8.out)
        have HZ9 := Lib.hid ((hb.block _ (Array.getElem?_eq_some_iff.1 HZ8.out).1).trans HZ8.out)
        have HC9 := Lib.hid (S.later HC8.out hb)
        have HW9 := Lib.hid (HW8.out.trans (hb.mono HW8.out.size))
        have HE9 := Lib.hid (S.later HE8.out hb)
        clear hb
        (try go_wp2_with fail)
        refine hK.out _ _ (by first | exact ⟨HA7.out, HB7.out, HZ7.out, cell_in HA7.out rfl, cell_in HB7.out rfl⟩ | exact ⟨HA8.out, HB8.out, HZ8.out, cell_in HA8.out rfl, cell_in HB8.out rfl⟩ | exact ⟨HA9.out, HB9.out, HZ9.out, cell_in HA9.out rfl, cell_in HB9.out rfl⟩ | exact ⟨HA10.out, HB10.out, HZ10.out, cell_in HA10.out rfl, cell_in HB10.out rfl⟩ | exact ⟨HA11.out, HB11.out, HZ11.out, cell_in HA11.out rfl, cell_in HB11.out rfl⟩ | exact ⟨HA12.out, HB12.out, HZ12.out, cell_in HA12.out rfl, cell_in HB12.out rfl⟩ | exact ⟨HA13.out, HB13.out, HZ13.out, cell_in HA13.out rfl, cell_in HB13.out rfl⟩ | exact ⟨HA14.out, HB14.out, HZ14.out, cell_in HA14.out rfl, cell_in HB14.out rfl⟩) (fun hHeld => ?_)
        clear hK K
        (try simp only [Act.put, List.setIfInBounds_toArray, List.set_cons_zero, List.set_cons_succ])
        refine wpAnyT_one (i := 7) (o := ⟨some 63, _, _, _, _, _⟩) (by kernel_rfl) rfl (fun K hK => ?_)
        go_simp
        go_at_call 23
        refine (alike_walk S (cutR (doR R a) a.1) R e2 c _ HF9.out HC9.out).mono ?_
        rintro e w10 ⟨b1, rfl, hiff, hb⟩
        obtain rfl : b1 = !q := (not_of (hiff.trans HQ.out))
        clear hiff
        have HA10 := Lib.hid ((hb.block _ (Array.getElem?_eq_some_iff.1 HA9.out).1).trans HA9.out)
        have HB10 := Lib.hid ((hb.block _ (Array.getElem?_eq_some_iff.1 HB9.out).1).trans HB9.out)
        have HZ10 := Lib.hid ((hb.block _ (Array.getElem?_eq_some_iff.1 HZ9.out).1).trans HZ9.out)
        have HC10 := Lib.hid (S.later HC9.out hb)
        have HW10 := Lib.hid (HW9.out.trans (hb.mono HW9.out.size))
        have HE10 := Lib.hid (S.later HE9.out hb)
        have HF10 := Lib.hid (S.later HF9.out hb)
        clear hb
        (try go_wp2_with fail)
        refine hK.out _ _ (by first | exact ⟨HA7.out, HB7.out, HZ7.out, cell_in HA7.out rfl, cell_in HB7.out rfl⟩ | exact ⟨HA8.out, HB8.out, HZ8.out, cell_in HA8.out rfl, cell_in HB8.out rfl⟩ | exact ⟨HA9.out, HB9.out, HZ9.out, cell_in HA9.out rfl, cell_in HB9.out rfl⟩ | exact ⟨HA10.out, HB10.out, HZ10.out, cell_in HA10.out rfl, cell_in HB10.out rfl⟩ | exact ⟨HA11.out, HB11.out, HZ11.out, cell_in HA11.out rfl, cell_in HB11.out rfl⟩ | exact ⟨HA12.out, HB12.out, HZ12.out, cell_in HA12.out rfl, cell_in HB12.out rfl⟩ | exact ⟨HA13.out, HB13.out, HZ13.out, cell_in HA13.out rfl, cell_in HB13.out rfl⟩ | exact ⟨HA14.out, HB14.out, HZ14.out, cell_in HA14.out rfl, cell_in HB14.out rfl⟩) (fun hHeld => ?_)
        clear hK K
        (try simp only [Act.put, List.setIfInBounds_toArray, List.set_cons_zero, List.set_cons_succ])
        refine wpAnyT_take (i := 8) (oi := ⟨some 64, _, _, _, _, _⟩) (v := ?vg4_8) rfl (by kernel_rfl) (by kernel_rfl) (by kernel_rfl) (by kernel_rfl) (fun _ _ _ h => h) (Or.inl ⟨by rfl, ?hg4_8⟩) (by assumption) ?rg4_8
        case hg4_8 => (intro w hSw; (try dsimp only at hSw); first | (go_simp; done) | (go_simp; with_reducible rfl))
        (try simp only [Act.put, List.setIfInBounds_toArray, List.set_cons_zero, List.set_cons_succ])
        refine wpAnyT_take (i := 10) (oi := ⟨some 66, _, _, _, _, _⟩) (v := ?vg4_10) rfl (by kernel_rfl) (by kernel_rfl) (by kernel_rfl) (by kernel_rfl) (fun _ _ _ h => h) (Or.inl ⟨by rfl, ?hg4_10⟩) (by assumption) ?rg4_10
        case hg4_10 => (intro w hSw; (try dsimp only at hSw); first | (go_simp; done) | (go_simp; with_reducible rfl))
        (try simp only [Act.put, List.setIfInBounds_toArray, List.set_cons_zero, List.set_cons_succ])
        refine wpAnyT_take (i := 11) (oi := ⟨some 67, _, _, _, _, _⟩) (v := ?vg4_11) rfl (by kernel_rfl) (by kernel_rfl) (by kernel_rfl) (by kernel_rfl) (fun _ _ _ h => h) (Or.inl ⟨by rfl, ?hg4_11⟩) (by assumption) ?rg4_11
        case hg4_11 => (intro w hSw; (try dsimp only at hSw); first | (go_simp; done) | (go_simp; with_reducible rfl))
        (try simp only [Act.put, List.setIfInBounds_toArray, List.set_cons_zero, List.set_cons_succ])
        refine wpAnyT_take (i := 12) (oi := ⟨some 68, _, _, _, _, _⟩) (v := _) rfl (by kernel_rfl) (by kernel_rfl) (by kernel_rfl) (by kernel_rfl) (fun _ _ _ h => h) (yieldsIf_load_row (by rfl) 27 _ rfl X rfl c 27 (0, 0) _ (fun w hw => hw.2.2.1) Tryd.underlying27 rfl (by rw [S.size HC10.out]; exact srow_info)) (by assumption) ?_
        (try simp only [Act.put, List.setIfInBounds_toArray, List.set_cons_zero, List.set_cons_succ])
        refine wpAnyT_take (i := 13) (oi := ⟨some 69, _, _, _, _, _⟩) (v := _) rfl (by kernel_rfl) (by kernel_rfl) (by kernel_rfl) (by kernel_rfl) (fun _ _ _ h => h) (yieldsIf_load_row (by rfl) 35 _ rfl w.heap.size rfl (opC a) 35 (0, 0) _ (fun w hw => hw.1) Tryd.underlying35 rfl (by exact op_info)) (by assumption) ?_
        (try simp only [Act.put, List.setIfInBounds_toArray, List.set_cons_zero, List.set_cons_succ])
        refine wpAnyT_take (i := 15) (oi := ⟨some 71, _, _, _, _, _⟩) (v := _) rfl (by kernel_rfl) (by kernel_rfl) (by kernel_rfl) (by kernel_rfl) (fun _ _ _ h => h) (yieldsIf_load_row (by rfl) 35 _ rfl w.heap.size rfl (opC a) 35 (0, 0) _ (fun w hw => hw.1) Tryd.underlying35 rfl (by exact op_info)) (by assumption) ?_
        (try simp only [Act.put, List.setIfInBounds_toArray, List.set_cons_zero, List.set_cons_succ])
        refine wpAnyT_take (i := 17) (oi := ⟨some 73, _, _, _, _, _⟩) (v := _) rfl (by kernel_rfl) (by kernel_rfl) (by kernel_rfl) (by kernel_rfl) (fun _ _ _ h => h) (yieldsIf_load_row (by rfl) 27 _ rfl X rfl c 27 (0, 0) _ (fun w hw => hw.2.2.1) Tryd.underlying27 rfl (by rw [S.size HC10.out]; exact srow_info)) (by assumption) ?_
        (try simp only [Act.put, List.setIfInBounds_toArray, List.set_cons_zero, List.set_cons_succ])
        refine wpAnyT_take (i := 18) (oi := ⟨some 74, _, _, _, _, _⟩) (v := _) rfl (by kernel_rfl) (by kernel_rfl) (by kernel_rfl) (by kernel_rfl) (fun _ _ _ h => h) (yieldsIf_load_row (by rfl) 35 _ rfl w.heap.size rfl (opC a) 35 (0, 0) _ (fun w hw => hw.1) Tryd.underlying35 rfl (by exact op_info)) (by assumption) ?_
        (try simp only [Act.put, List.setIfInBounds_toArray, List.set_cons_zero, List.set_cons_succ])
        refine wpAnyT_one (i := 14) (o := ⟨some 70, _, _, _, _, _⟩) (by kernel_rfl) rfl (fun K hK => ?_)
        go_simp
        go_at_call 10
        refine (does_walk S R c a HIA.out.1 HIA.out.2 _ HC10.out).mono ?_
        rintro e w11 ⟨e3, rfl, hc', hb⟩
        have HE11 := Lib.hid hc'
        clear hc'
        have HA11 := Lib.hid ((hb.block _ (Array.getElem?_eq_some_iff.1 HA10.out).1).trans HA10.out)
        have HB11 := Lib.hid ((hb.block _ (Array.getElem?_eq_some_iff.1 HB10.out).1).trans HB10.out)
        have HZ11 := Lib.hid ((hb.block _ (Array.getElem?_eq_some_iff.1 HZ10.out).1).trans HZ10.out)
        have HC11 := Lib.hid (S.later HC10.out hb)
        have HW11 := Lib.hid (HW10.out.trans (hb.mono HW10.out.size))
        clear hb
        (try go_wp2_with fail)
        refine hK.out _ _ (by first | exact ⟨HA7.out, HB7.out, HZ7.out, cell_in HA7.out rfl, cell_in HB7.out rfl⟩ | exact ⟨HA8.out, HB8.out, HZ8.out, cell_in HA8.out rfl, cell_in HB8.out rfl⟩ | exact ⟨HA9.out, HB9.out, HZ9.out, cell_in HA9.out rfl, cell_in HB9.out rfl⟩ | exact ⟨HA10.out, HB10.out, HZ10.out, cell_in HA10.out rfl, cell_in HB10.out rfl⟩ | exact ⟨HA11.out, HB11.out, HZ11.out, cell_in HA11.out rfl, cell_in HB11.out rfl⟩ | exact ⟨HA12.out, HB12.out, HZ12.out, cell_in HA12.out rfl, cell_in HB12.out rfl⟩ | exact ⟨HA13.out, HB13.out, HZ13.out, cell_in HA13.out rfl, cell_in HB13.out rfl⟩ | exact ⟨HA14.out, HB14.out, HZ14.out, cell_in HA14.out rfl, cell_in HB14.out rfl⟩) (fun hHeld => ?_)
        clear hK K
        (try simp only [Act.put, List.setIfInBounds_toArray, List.set_cons_zero, List.set_cons_succ])
        refine wpAnyT_one (i := 16) (o := ⟨some 72, _, _, _, _, _⟩) (by kernel_rfl) rfl (fun K hK => ?_)
        go_simp
        go_at_call 10
        refine (does_walk S (doR R a) e3 a HIA.out.1 HIA.out.2 _ HE11.out).mono ?_
        rintro e w12 ⟨e4, rfl, hc', hb⟩
        have HF12 := Lib.hid hc'
        clear hc'
        have HA12 := Lib.hid ((hb.block _ (Array.getElem?_eq_some_iff.1 HA11.out).1).trans HA11.out)
        have HB12 := Lib.hid ((hb.block _ (Array.getElem?_eq_some_iff.1 HB11.out).1).trans HB11.out)
        have HZ12 := Lib.hid ((hb.block _ (Array.getElem?_eq_some_iff.1 HZ11.out).1).trans HZ11.out)
        have HC12 := Lib.hid (S.later HC11.out hb)
        have HW12 := Lib.hid (HW11.out.trans (hb.mono HW11.out.size))
        have HE12 := Lib.hid (S.later HE11.out hb)
        clear hb
        (try go_wp2_with fail)
        refine hK.out _ _ (by first | exact ⟨HA7.out, HB7.out, HZ7.out, cell_in HA7.out rfl, cell_in HB7.out rfl⟩ | exact ⟨HA8.out, HB8.out, HZ8.out, cell_in HA8.out rfl, cell_in HB8.out rfl⟩ | exact ⟨HA9.out, HB9.out, HZ9.out, cell_in HA9.out rfl, cell_in HB9.out rfl⟩ | exact ⟨HA10.out, HB10.out, HZ10.out, cell_in HA10.out rfl, cell_in HB10.out rfl⟩ | exact ⟨HA11.out, HB11.out, HZ11.out, cell_in HA11.out rfl, cell_in HB11.out rfl⟩ | exact ⟨HA12.out, HB12.out, HZ12.out, cell_in HA12.out rfl, cell_in HB12.out rfl⟩ | exact ⟨HA13.out, HB13.out, HZ13.out, cell_in HA13.out rfl, cell_in HB13.out rfl⟩ | exact ⟨HA14.out, HB14.out, HZ14.out, cell_in HA14.out rfl, cell_in HB14.out rfl⟩) (fun hHeld => ?_)
        clear hK K
        (try simp only [Act.put, List.setIfInBounds_toArray, List.set_cons_zero, List.set_cons_succ])
        refine wpAnyT_one (i := 19) (o := ⟨some 75, _, _, _, _, _⟩) (by kernel_rfl) rfl (fun K hK => ?_)
        go_simp
        go_at_call 10
        refine (does_walk S R c a HIA.out.1 HIA.out.2 _ HC12.out).mono ?_
        rintro e w13 ⟨e5, rfl, hc', hb⟩
        have HG13 := Lib.hid hc'
        clear hc'
        have HA13 := Lib.hid ((hb.block _ (Array.getElem?_eq_some_iff.1 HA12.out).1).trans HA12.out)
        have HB13 := Lib.hid ((hb.block _ (Array.getElem?_eq_some_iff.1 HB12.out).1).trans HB12.out)
        have HZ13 := Lib.hid ((hb.block _ (Array.getElem?_eq_some_iff.1 HZ12.out).1).trans HZ12.out)
        have HC13 := Lib.hid (S.later HC12.out hb)
        have HW13 := Lib.hid (HW12.out.trans (hb.mono HW12.out.size))
        have HF13 := Lib.hid (S.later HF12.out hb)
        clear hb
        (try go_wp2_with fail)
        refine hK.out _ _ (by first | exact ⟨HA7.out, HB7.out, HZ7.out, cell_in HA7.out rfl, cell_in HB7.out rfl⟩ | exact ⟨HA8.out, HB8.out, HZ8.out, cell_in HA8.out rfl, cell_in HB8.out rfl⟩ | exact ⟨HA9.out, HB9.out, HZ9.out, cell_in HA9.out rfl, cell_in HB9.out rfl⟩ | exact ⟨HA10.out, HB10.out, HZ10.out, cell_in HA10.out rfl, cell_in HB10.out rfl⟩ | exact ⟨HA11.out, HB11.out, HZ11.out, cell_in HA11.out rfl, cell_in HB11.out rfl⟩ | exact ⟨HA12.out, HB12.out, HZ12.out, cell_in HA12.out rfl, cell_in HB12.out rfl⟩ | exact ⟨HA13.out, HB13.out, HZ13.out, cell_in HA13.out rfl, cell_in HB13.out rfl⟩ | exact ⟨HA14.out, HB14.out, HZ14.out, cell_in HA14.out rfl, cell_in HB14.out rfl⟩) (fun hHeld => ?_)
        clear hK K
        (try simp only [Act.put, List.setIfInBounds_toArray, List.set_cons_zero, List.set_cons_succ])
        refine wpAnyT_one (i := 20) (o := ⟨some 76, _, _, _, _, _⟩) (by kernel_rfl) rfl (fun K hK => ?_)
        go_simp
        go_at_call 23
        refine (alike_walk S (doR (doR R a) a) (doR R a) e4 e5 _ HF13.out HG13.out).mono ?_
        rintro e w14 ⟨b2, rfl, hiff, hb⟩
        obtain rfl : b2 = true := hiff.2 (do_twice R a)
        clear hiff
        have HA14 := Lib.hid ((hb.block _ (Array.getElem?_eq_some_iff.1 HA13.out).1).trans HA13.out)
        have HB14 := Lib.hid ((hb.block _ (Array.getElem?_eq_some_iff.1 HB13.out).1).trans HB13.out)
        have HZ14 := Lib.hid ((hb.block _ (Array.getElem?_eq_some_iff.1 HZ13.out).1).trans HZ13.out)
        have HC14 := Lib.hid (S.later HC13.out hb)
        have HW14 := Lib.hid (HW13.out.trans (hb.mono HW13.out.size))
        have HF14 := Lib.hid (S.later HF13.out hb)
        have HG14 := Lib.hid (S.later HG13.out hb)
        clear hb
        (try go_wp2_with fail)
        refine hK.out _ _ (by first | exact ⟨HA7.out, HB7.out, HZ7.out, cell_in HA7.out rfl, cell_in HB7.out rfl⟩ | exact ⟨HA8.out, HB8.out, HZ8.out, cell_in HA8.out rfl, cell_in HB8.out rfl⟩ | exact ⟨HA9.out, HB9.out, HZ9.out, cell_in HA9.out rfl, cell_in HB9.out rfl⟩ | exact ⟨HA10.out, HB10.out, HZ10.out, cell_in HA10.out rfl, cell_in HB10.out rfl⟩ | exact ⟨HA11.out, HB11.out, HZ11.out, cell_in HA11.out rfl, cell_in HB11.out rfl⟩ | exact ⟨HA12.out, HB12.out, HZ12.out, cell_in HA12.out rfl, cell_in HB12.out rfl⟩ | exact ⟨HA13.out, HB13.out, HZ13.out, cell_in HA13.out rfl, cell_in HB13.out rfl⟩ | exact ⟨HA14.out, HB14.out, HZ14.out, cell_in HA14.out rfl, cell_in HB14.out rfl⟩) (fun hHeld => ?_)
        clear hK K
        (try simp only [Act.put, List.setIfInBounds_toArray, List.set_cons_zero, List.set_cons_succ])
        refine wpAnyT_take (i := 21) (oi := ⟨some 77, _, _, _, _, _⟩) (v := ?vg4_21) rfl (by kernel_rfl) (by kernel_rfl) (by kernel_rfl) (by kernel_rfl) (fun _ _ _ h => h) (Or.inl ⟨by rfl, ?hg4_21⟩) (by assumption) ?rg4_21
        case hg4_21 => (intro w hSw; (try dsimp only at hSw); first | (go_simp; done) | (go_simp; with_reducible rfl))
        (try simp only [Act.put, List.setIfInBounds_toArray, List.set_cons_zero, List.set_cons_succ])
        refine wpAnyT_take (i := 22) (oi := ⟨some 6, _, _, _, _, _⟩) (v := ?vg4_22) rfl (by kernel_rfl) (by kernel_rfl) (by kernel_rfl) (by kernel_rfl) (fun _ _ _ h => h) (Or.inl ⟨by rfl, ?hg4_22⟩) (by assumption) ?rg4_22
        case hg4_22 => (intro w hSw; (try dsimp only at hSw); first | (go_simp; done) | (go_simp; with_reducible rfl))
        (try simp only [Act.put, List.setIfInBounds_toArray, List.set_cons_zero, List.set_cons_succ])
        refine wpAnyT_done (by kernel_rfl) ?_ _
        go_wp2_with fail
        go_ret
        exact ⟨rfl, HW14.out⟩
      · have hne : (a.1 != b.1) = true := bne_iff_ne.2 hab
        have HDC := Lib.hid (do_comm R a b hab)
        clear hab
        go_upto_region 9 with fail
        refine wp_region_T (S := fun W => W.heap[w.heap.size]? = some (.cells (opC a) 35 (0, 0)) ∧ W.heap[(w.heap.size + 1)]? = some (.cells (opC b) 35 (0, 0)) ∧ W.heap[X]? = some (.cells c 27 (0, 0)) ∧ W.cell? ⟨w.heap.size, 0, none⟩ = some (.int .i64 a.1) ∧ W.cell? ⟨(w.heap.size + 1), 0, none⟩ = some (.int .i64 b.1)) [] (by kernel_rfl) (by first | exact ⟨HA5.out, HB5.out, HZ5.out, cell_in HA5.out rfl, cell_in HB5.out rfl⟩ | exact ⟨HA6.out, HB6.out, HZ6.out, cell_in HA6.out rfl, cell_in HB6.out rfl⟩ | exact ⟨HA7.out, HB7.out, HZ7.out, cell_in HA7.out rfl, cell_in HB7.out rfl⟩ | exact ⟨HA8.out, HB8.out, HZ8.out, cell_in HA8.out rfl, cell_in HB8.out rfl⟩ | exact ⟨HA9.out, HB9.out, HZ9.out, cell_in HA9.out rfl, cell_in HB9.out rfl⟩ | exact ⟨HA10.out, HB10.out, HZ10.out, cell_in HA10.out rfl, cell_in HB10.out rfl⟩) (fun hHeld => ?_)
        refine wpAnyT_take (i := 0) (oi := ⟨some 30, _, _, _, _, _⟩) (v := ?vg2_0) rfl (by kernel_rfl) (by kernel_rfl) (by kernel_rfl) (by kernel_rfl) (fun _ _ _ h => h) (Or.inl ⟨by rfl, ?hg2_0⟩) (by assumption) ?rg2_0
        case hg2_0 => (intro w hSw; (try dsimp only at hSw); first | (go_simp; done) | (go_simp; with_reducible rfl))
        (try simp only [Act.put, List.setIfInBounds_toArray, List.set_cons_zero, List.set_cons_succ])
        refine wpAnyT_take (i := 1) (oi := ⟨some 31, _, _, _, _, _⟩) (v := ?vg2_1) rfl (by kernel_rfl) (by kernel_rfl) (by kernel_rfl) (by kernel_rfl) (fun _ _ _ h => h) (Or.inl ⟨by rfl, ?hg2_1⟩) (by assumption) ?rg2_1
        case hg2_1 => (intro w hSw; (try dsimp only at hSw); first | (go_simp; done) | (go_simp; with_reducible rfl))
        (try simp only [Act.put, List.setIfInBounds_toArray, List.set_cons_zero, List.set_cons_succ])
        refine wpAnyT_take (i := 2) (oi := ⟨some 32, _, _, _, _, _⟩) (v := ?vg2_2) rfl (by kernel_rfl) (by kernel_rfl) (by kernel_rfl) (by kernel_rfl) (fun _ _ _ h => h) (Or.inl ⟨by rfl, ?hg2_2⟩) (by assumption) ?rg2_2
        case hg2_2 => (intro w hSw; (try dsimp only at hSw); first | (go_simp; done) | (go_simp; with_reducible rfl))
        (try simp only [Act.put, List.setIfInBounds_toArray, List.set_cons_zero, List.set_cons_succ])
        refine wpAnyT_take (i := 3) (oi := ⟨some 33, _, _, _, _, _⟩) (v := ?vg2_3) rfl (by kernel_rfl) (by kernel_rfl) (by kernel_rfl) (by kernel_rfl) (fun _ _ _ h => h) (Or.inl ⟨by rfl, ?hg2_3⟩) (by assumption) ?rg2_3
        case hg2_3 => (intro w hSw; (try dsimp only at hSw); first | (go_simp; done) | (go_simp; with_reducible rfl))
        (try simp only [Act.put, List.setIfInBounds_toArray, List.set_cons_zero, List.set_cons_succ])
        refine wpAnyT_take (i := 4) (oi := ⟨some 34, _, _, _, _, _⟩) (v := ?vg2_4) rfl (by kernel_rfl) (by kernel_rfl) (by kernel_rfl) (by kernel_rfl) (fun _ _ _ h => h) (Or.inl ⟨by rfl, ?hg2_4⟩) (by assumption) ?rg2_4
        case hg2_4 => (intro w hSw; (try dsimp only at hSw); first | (go_simp; done) | (go_simp; with_reducible rfl))
        (try simp only [Act.put, List.setIfInBounds_toArray, List.set_cons_zero, List.set_cons_succ])
        refine wpAnyT_take (i := 5) (oi := ⟨some 35, _, _, _, _, _⟩) (v := ?vg2_5) rfl (by kernel_rfl) (by kernel_rfl) (by kernel_rfl) (by kernel_rfl) (fun _ _ _ h => h) (Or.inl ⟨by rfl, ?hg2_5⟩) (by assumption) ?rg2_5
        case hg2_5 => (intro w hSw; (try dsimp only at hSw); first | (go_simp; done) | (go_simp; with_reducible rfl))
        (try simp only [Act.put, List.setIfInBounds_toArray, List.set_cons_zero, List.set_cons_succ])
        refine wpAnyT_take (i := 6) (oi := ⟨some 36, _, _, _, _, _⟩) (v := _) rfl (by kernel_rfl) (by kernel_rfl) (by kernel_rfl) (by kernel_rfl) (fun _ _ _ h => h) (yieldsIf_load_row (by rfl) 27 _ rfl X rfl c 27 (0, 0) _ (fun w hw => hw.2.2.1) Tryd.underlying27 rfl (by rw [S.size HC5.out]; exact srow_info)) (by assumption) ?_
        (try simp only [Act.put, List.setIfInBounds_toArray, List.set_cons_zero, List.set_cons_succ])
        refine wpAnyT_take (i := 7) (oi := ⟨some 37, _, _, _, _, _⟩) (v := _) rfl (by kernel_rfl) (by kernel_rfl) (by kernel_rfl) (by kernel_rfl) (fun _ _ _ h => h) (yieldsIf_load_row (by rfl) 35 _ rfl w.heap.size rfl (opC a) 35 (0, 0) _ (fun w hw => hw.1) Tryd.underlying35 rfl (by exact op_info)) (by assumption) ?_
        (try simp only [Act.put, List.setIfInBounds_toArray, List.set_cons_zero, List.set_cons_succ])
        refine wpAnyT_take (i := 9) (oi := ⟨some 39, _, _, _, _, _⟩) (v := _) rfl (by kernel_rfl) (by kernel_rfl) (by kernel_rfl) (by kernel_rfl) (fun _ _ _ h => h) (yieldsIf_load_row (by rfl) 35 _ rfl (w.heap.size + 1) rfl (opC b) 35 (0, 0) _ (fun w hw => hw.2.1) Tryd.underlying35 rfl (by exact op_info)) (by assumption) ?_
        (try simp only [Act.put, List.setIfInBounds_toArray, List.set_cons_zero, List.set_cons_succ])
        refine wpAnyT_take (i := 11) (oi := ⟨some 41, _, _, _, _, _⟩) (v := _) rfl (by kernel_rfl) (by kernel_rfl) (by kernel_rfl) (by kernel_rfl) (fun _ _ _ h => h) (yieldsIf_load_row (by rfl) 27 _ rfl X rfl c 27 (0, 0) _ (fun w hw => hw.2.2.1) Tryd.underlying27 rfl (by rw [S.size HC5.out]; exact srow_info)) (by assumption) ?_
        (try simp only [Act.put, List.setIfInBounds_toArray, List.set_cons_zero, List.set_cons_succ])
        refine wpAnyT_take (i := 12) (oi := ⟨some 42, _, _, _, _, _⟩) (v := _) rfl (by kernel_rfl) (by kernel_rfl) (by kernel_rfl) (by kernel_rfl) (fun _ _ _ h => h) (yieldsIf_load_row (by rfl) 35 _ rfl (w.heap.size + 1) rfl (opC b) 35 (0, 0) _ (fun w hw => hw.2.1) Tryd.underlying35 rfl (by exact op_info)) (by assumption) ?_
        (try simp only [Act.put, List.setIfInBounds_toArray, List.set_cons_zero, List.set_cons_succ])
        refine wpAnyT_take (i := 14) (oi := ⟨some 44, _, _, _, _, _⟩) (v := _) rfl (by kernel_rfl) (by kernel_rfl) (by kernel_rfl) (by kernel_rfl) (fun _ _ _ h => h) (yieldsIf_load_row (by rfl) 35 _ rfl w.heap.size rfl (opC a) 35 (0, 0) _ (fun w hw => hw.1) Tryd.underlying35 rfl (by exact op_info)) (by assumption) ?_
        (try simp only [Act.put, List.setIfInBounds_toArray, List.set_cons_zero, List.set_cons_succ])
        refine wpAnyT_one (i := 8) (o := ⟨some 38, _, _, _, _, _⟩) (by kernel_rfl) rfl (fun K hK => ?_)
        go_simp
        go_at_call 10
        refine (does_walk S R c a HIA.out.1 HIA.out.2 _ HC5.out).mono ?_
        rintro e w6 ⟨e1, rfl, hc', hb⟩
        have HE6 := Lib.hid hc'
        clear hc'
        have HA6 := Lib.hid ((hb.block _ (Array.getElem?_eq_some_iff.1 HA5.out).1).trans HA5.out)
        have HB6 := Lib.hid ((hb.block _ (Array.getElem?_eq_some_iff.1 HB5.out).1).trans HB5.out)
        have HZ6 := Lib.hid ((hb.block _ (Array.getElem?_eq_some_iff.1 HZ5.out).1).trans HZ5.out)
        have HC6 := Lib.hid (S.later HC5.out hb)
        have HW6 := Lib.hid (HW5.out.trans (hb.mono HW5.out.size))
        clear hb
        (try go_wp2_with fail)
        refine hK.out _ _ (by first | exact ⟨HA5.out, HB5.out, HZ5.out, cell_in HA5.out rfl, cell_in HB5.out rfl⟩ | exact ⟨HA6.out, HB6.out, HZ6.out, cell_in HA6.out rfl, cell_in HB6.out rfl⟩ | exact ⟨HA7.out, HB7.out, HZ7.out, cell_in HA7.out rfl, cell_in HB7.out rfl⟩ | exact ⟨HA8.out, HB8.out, HZ8.out, cell_in HA8.out rfl, cell_in HB8.out rfl⟩ | exact ⟨HA9.out, HB9.out, HZ9.out, cell_in HA9.out rfl, cell_in HB9.out rfl⟩ | exact ⟨HA10.out, HB10.out, HZ10.out, cell_in HA10.out rfl, cell_in HB10.out rfl⟩) (fun hHeld => ?_)
        clear hK K
        (try simp only [Act.put, List.setIfInBounds_toArray, List.set_cons_zero, List.set_cons_succ])
        refine wpAnyT_one (i := 10) (o := ⟨some 40, _, _, _, _, _⟩) (by kernel_rfl) rfl (fun K hK => ?_)
        go_simp
        go_at_call 10
        refine (does_walk S (doR R a) e1 b HIB.out.1 HIB.out.2 _ HE6.out).mono ?_
        rintro e w7 ⟨e2, rfl, hc', hb⟩
        have HF7 := Lib.hid hc'
        clear hc'
        have HA7 := Lib.hid ((hb.block _ (Array.getElem?_eq_some_iff.1 HA6.out).1).trans HA6.out)
        have HB7 := Lib.hid ((hb.block _ (Array.getElem?_eq_some_iff.1 HB6.out).1).trans HB6.out)
        have HZ7 := Lib.hid ((hb.block _ (Array.getElem?_eq_some_iff.1 HZ6.out).1).trans HZ6.out)
        have HC7 := Lib.hid (S.later HC6.out hb)
        have HW7 := Lib.hid (HW6.out.trans (hb.mono HW6.out.size))
        have HE7 := Lib.hid (S.later HE6.out hb)
        clear hb
        (try go_wp2_with fail)
        refine hK.out _ _ (by first | exact ⟨HA5.out, HB5.out, HZ5.out, cell_in HA5.out rfl, cell_in HB5.out rfl⟩ | exact ⟨HA6.out, HB6.out, HZ6.out, cell_in HA6.out rfl, cell_in HB6.out rfl⟩ | exact ⟨HA7.out, HB7.out, HZ7.out, cell_in HA7.out rfl, cell_in HB7.out rfl⟩ | exact ⟨HA8.out, HB8.out, HZ8.out, cell_in HA8.out rfl, cell_in HB8.out rfl⟩ | exact ⟨HA9.out, HB9.out, HZ9.out, cell_in HA9.out rfl, cell_in HB9.out rfl⟩ | exact ⟨HA10.out, HB10.out, HZ10.out, cell_in HA10.out rfl, cell_in HB10.out rfl⟩) (fun hHeld => ?_)
        clear hK K
        (try simp only [Act.put, List.setIfInBounds_toArray, List.set_cons_zero, List.set_cons_succ])
        refine wpAnyT_one (i := 13) (o := ⟨some 43, _, _, _, _, _⟩) (by kernel_rfl) rfl (fun K hK => ?_)
        go_simp
        go_at_call 10
        refine (does_walk S R c b HIB.out.1 HIB.out.2 _ HC7.out).mono ?_
        rintro e w8 ⟨e3, rfl, hc', hb⟩
        have HG8 := Lib.hid hc'
        clear hc'
        have HA8 := Lib.hid ((hb.block _ (Array.getElem?_eq_some_iff.1 HA7.out).1).trans HA7.out)
        have HB8 := Lib.hid ((hb.block _ (Array.getElem?_eq_some_iff.1 HB7.out).1).trans HB7.out)
        have HZ8 := Lib.hid ((hb.block _ (Array.getElem?_eq_some_iff.1 HZ7.out).1).trans HZ7.out)
        have HC8 := Lib.hid (S.later HC7.out hb)
        have HW8 := Lib.hid (HW7.out.trans (hb.mono HW7.out.size))
        have HF8 := Lib.hid (S.later HF7.out hb)
        clear hb
        (try go_wp2_with fail)
        refine hK.out _ _ (by first | exact ⟨HA5.out, HB5.out, HZ5.out, cell_in HA5.out rfl, cell_in HB5.out rfl⟩ | exact ⟨HA6.out, HB6.out, HZ6.out, cell_in HA6.out rfl, cell_in HB6.out rfl⟩ | exact ⟨HA7.out, HB7.out, HZ7.out, cell_in HA7.out rfl, cell_in HB7.out rfl⟩ | exact ⟨HA8.out, HB8.out, HZ8.out, cell_in HA8.out rfl, cell_in HB8.out rfl⟩ | exact ⟨HA9.out, HB9.out, HZ9.out, cell_in HA9.out rfl, cell_in HB9.out rfl⟩ | exact ⟨HA10.out, HB10.out, HZ10.out, cell_in HA10.out rfl, cell_in HB10.out rfl⟩) (fun hHeld => ?_)
        clear hK K
        (try simp only [Act.put, List.setIfInBounds_toArray, List.set_cons_zero, List.set_cons_succ])
        refine wpAnyT_one (i := 15) (o := ⟨some 45, _, _, _, _, _⟩) (by kernel_rfl) rfl (fun K hK => ?_)
        go_simp
        go_at_call 10
        refine (does_walk S (doR R b) e3 a HIA.out.1 HIA.out.2 _ HG8.out).mono ?_
        rintro e w9 ⟨e4, rfl, hc', hb⟩
        have HH9 := Lib.hid hc'
        clear hc'
        have HA9 := Lib.hid ((hb.block _ (Array.getElem?_eq_some_iff.1 HA8.out).1).trans HA8.out)
        have HB9 := Lib.hid ((hb.block _ (Array.getElem?_eq_some_iff.1 HB8.out).1).trans HB8.out)
        have HZ9 := Lib.hid ((hb.block _ (Array.getElem?_eq_some_iff.1 HZ8.out).1).trans HZ8.out)
        have HC9 := Lib.hid (S.later HC8.out hb)
        have HW9 := Lib.hid (HW8.out.trans (hb.mono HW8.out.size))
        have HF9 := Lib.hid (S.later HF8.out hb)
        have HG9 := Lib.hid (S.later HG8.out hb)
        clear hb
        (try go_wp2_with fail)
        refine hK.out _ _ (by first | exact ⟨HA5.out, HB5.out, HZ5.out, cell_in HA5.out rfl, cell_in HB5.out rfl⟩ | exact ⟨HA6.out, HB6.out, HZ6.out, cell_in HA6.out rfl, cell_in HB6.out rfl⟩ | exact ⟨HA7.out, HB7.out, HZ7.out, cell_in HA7.out rfl, cell_in HB7.out rfl⟩ | exact ⟨HA8.out, HB8.out, HZ8.out, cell_in HA8.out rfl, cell_in HB8.out rfl⟩ | exact ⟨HA9.out, HB9.out, HZ9.out, cell_in HA9.out rfl, cell_in HB9.out rfl⟩ | exact ⟨HA10.out, HB10.out, HZ10.out, cell_in HA10.out rfl, cell_in HB10.out rfl⟩) (fun hHeld => ?_)
        clear hK K
        (try simp only [Act.put, List.setIfInBounds_toArray, List.set_cons_zero, List.set_cons_succ])
        refine wpAnyT_one (i := 16) (o := ⟨some 46, _, _, _, _, _⟩) (by kernel_rfl) rfl (fun K hK => ?_)
        go_simp
        go_at_call 23
        refine (alike_walk S (doR (doR R a) b) (doR (doR R b) a) e2 e4 _ HF9.out HH9.out).mono ?_
        rintro e w10 ⟨b0, rfl, hiff, hb⟩
        obtain rfl : b0 = true := hiff.2 HDC.out
        clear hiff
        have HA10 := Lib.hid ((hb.block _ (Array.getElem?_eq_some_iff.1 HA9.out).1).trans HA9.out)
        have HB10 := Lib.hid ((hb.block _ (Array.getElem?_eq_some_iff.1 HB9.out).1).trans HB9.out)
        have HZ10 := Lib.hid ((hb.block _ (Array.getElem?_eq_some_iff.1 HZ9.out).1).trans HZ9.out)
        have HC10 := Lib.hid (S.later HC9.out hb)
        have HW10 := Lib.hid (HW9.out.trans (hb.mono HW9.out.size))
        have HF10 := Lib.hid (S.later HF9.out hb)
        have HH10 := Lib.hid (S.later HH9.out hb)
        clear hb
        (try go_wp2_with fail)
        refine hK.out _ _ (by first | exact ⟨HA5.out, HB5.out, HZ5.out, cell_in HA5.out rfl, cell_in HB5.out rfl⟩ | exact ⟨HA6.out, HB6.out, HZ6.out, cell_in HA6.out rfl, cell_in HB6.out rfl⟩ | exact ⟨HA7.out, HB7.out, HZ7.out, cell_in HA7.out rfl, cell_in HB7.out rfl⟩ | exact ⟨HA8.out, HB8.out, HZ8.out, cell_in HA8.out rfl, cell_in HB8.out rfl⟩ | exact ⟨HA9.out, HB9.out, HZ9.out, cell_in HA9.out rfl, cell_in HB9.out rfl⟩ | exact ⟨HA10.out, HB10.out, HZ10.out, cell_in HA10.out rfl, cell_in HB10.out rfl⟩) (fun hHeld => ?_)
        clear hK K
        (try simp only [Act.put, List.setIfInBounds_toArray, List.set_cons_zero, List.set_cons_succ])
        refine wpAnyT_take (i := 17) (oi := ⟨some 47, _, _, _, _, _⟩) (v := ?vg2_17) rfl (by kernel_rfl) (by kernel_rfl) (by kernel_rfl) (by kernel_rfl) (fun _ _ _ h => h) (Or.inl ⟨by rfl, ?hg2_17⟩) (by assumption) ?rg2_17
        case hg2_17 => (intro w hSw; (try dsimp only at hSw); first | (go_simp; done) | (go_simp; with_reducible rfl))
        (try simp only [Act.put, List.setIfInBounds_toArray, List.set_cons_zero, List.set_cons_succ])
        refine wpAnyT_take (i := 18) (oi := ⟨some 48, _, _, _, _, _⟩) (v := ?vg2_18) rfl (by kernel_rfl) (by kernel_rfl) (by kernel_rfl) (by kernel_rfl) (fun _ _ _ h => h) (Or.inl ⟨by rfl, ?hg2_18⟩) (by assumption) ?rg2_18
        case hg2_18 => (intro w hSw; (try dsimp only at hSw); first | (go_simp; done) | (go_simp; with_reducible rfl))
        (try simp only [Act.put, List.setIfInBounds_toArray, List.set_cons_zero, List.set_cons_succ])
        refine wpAnyT_done (by kernel_rfl) ?_ _
        have HQ := Lib.hid (cut_back R a)
        have HG := Lib.hid (fun W h => S.get W R c a.1 h HIA.out.1)
        obtain ⟨⟨gx, q⟩, hq⟩ : ∃ p, p = getR R a.1 := ⟨_, rfl⟩
        rw [← hq] at HQ HG
        simp only at HQ HG
        clear hq
        have k0 := cell_in (j := 0) (v := .int .i64 a.1) HA10.out rfl
        go_upto_region 12 with (first
          | (refine ld_if rfl 27 _ rfl (X) rfl 27 _ _ _ HZ10.out Tryd.underlying27 rfl (by rw [S.size HC10.out]; exact srow_info) ?_)
          | (go_at_call 12; refine (HG.out _ HC10.out).mono ?_; rintro e w11 ⟨rfl, hb⟩; have HA11 := Lib.hid ((hb.block _ (Array.getElem?_eq_some_iff.1 HA10.out).1).trans HA10.out); have HB11 := Lib.hid ((hb.block _ (Array.getElem?_eq_some_iff.1 HB10.out).1).trans HB10.out); have HZ11 := Lib.hid ((hb.block _ (Array.getElem?_eq_some_iff.1 HZ10.out).1).trans HZ10.out); have HC11 := Lib.hid (S.later HC10.out hb); have HW11 := Lib.hid (HW10.out.trans (hb.mono HW10.out.size)); clear hb))
        clear k0
        have HA12 : Hid (w11.drew.heap[w.heap.size]? = some (.cells (opC a) 35 (0, 0))) := HA11.out
        have HB12 : Hid (w11.drew.heap[(w.heap.size + 1)]? = some (.cells (opC b) 35 (0, 0))) := HB11.out
        have HZ12 : Hid (w11.drew.heap[X]? = some (.cells c 27 (0, 0))) := HZ11.out
        have HC12 : Hid (At w11.drew R c) := S.later (W := w11) HC11.out (Below.drewMany (Below.refl _ w11) 1)
        have HW12 : Hid (Below w.heap.size w w11.drew) := Below.drewMany HW11.out 1
        refine wp_region_T (S := fun W => W.heap[w.heap.size]? = some (.cells (opC a) 35 (0, 0)) ∧ W.heap[(w.heap.size + 1)]? = some (.cells (opC b) 35 (0, 0)) ∧ W.heap[X]? = some (.cells c 27 (0, 0)) ∧ W.cell? ⟨w.heap.size, 0, none⟩ = some (.int .i64 a.1) ∧ W.cell? ⟨(w.heap.size + 1), 0, none⟩ = some (.int .i64 b.1)) [] (by kernel_rfl) (by first | exact ⟨HA12.out, HB12.out, HZ12.out, cell_in HA12.out rfl, cell_in HB12.out rfl⟩ | exact ⟨HA13.out, HB13.out, HZ13.out, cell_in HA13.out rfl, cell_in HB13.out rfl⟩ | exact ⟨HA14.out, HB14.out, HZ14.out, cell_in HA14.out rfl, cell_in HB14.out rfl⟩ | exact ⟨HA15.out, HB15.out, HZ15.out, cell_in HA15.out rfl, cell_in HB15.out rfl⟩ | exact ⟨HA16.out, HB16.out, HZ16.out, cell_in HA16.out rfl, cell_in HB16.out rfl⟩ | exact ⟨HA17.out, HB17.out, HZ17.out, cell_in HA17.out rfl, cell_in HB17.out rfl⟩ | exact ⟨HA18.out, HB18.out, HZ18.out, cell_in HA18.out rfl, cell_in HB18.out rfl⟩ | exact ⟨HA19.out, HB19.out, HZ19.out, cell_in HA19.out rfl, cell_in HB19.out rfl⟩) (fun hHeld => ?_)
        refine wpAnyT_take (i := 0) (oi := ⟨some 56, _, _, _, _, _⟩) (v := _) rfl (by kernel_rfl) (by kernel_rfl) (by kernel_rfl) (by kernel_rfl) (fun _ _ _ h => h) (yieldsIf_load_row (by rfl) 27 _ rfl X rfl c 27 (0, 0) _ (fun w hw => hw.2.2.1) Tryd.underlying27 rfl (by rw [S.size HC12.out]; exact srow_info)) (by assumption) ?_
        (try simp only [Act.put, List.setIfInBounds_toArray, List.set_cons_zero, List.set_cons_succ])
        refine wpAnyT_take (i := 1) (oi := ⟨some 57, _, _, _, _, _⟩) (v := _) rfl (by kernel_rfl) (by kernel_rfl) (by kernel_rfl) (by kernel_rfl) (fun _ _ _ h => h) (yieldsIf_load_row (by rfl) 35 _ rfl w.heap.size rfl (opC a) 35 (0, 0) _ (fun w hw => hw.1) Tryd.underlying35 rfl (by exact op_info)) (by assumption) ?_
        (try simp only [Act.put, List.setIfInBounds_toArray, List.set_cons_zero, List.set_cons_succ])
        refine wpAnyT_take (i := 3) (oi := ⟨some 59, _, _, _, _, _⟩) (v := ?vg3_3) rfl (by kernel_rfl) (by kernel_rfl) (by kernel_rfl) (by kernel_rfl) (fun _ _ _ h => h) (Or.inl ⟨by rfl, ?hg3_3⟩) (by assumption) ?rg3_3
        case hg3_3 => (intro w hSw; (try dsimp only at hSw); first | (go_simp; done) | (go_simp; with_reducible rfl))
        (try simp only [Act.put, List.setIfInBounds_toArray, List.set_cons_zero, List.set_cons_succ])
        refine wpAnyT_take (i := 4) (oi := ⟨some 60, _, _, _, _, _⟩) (v := ?vg3_4) rfl (by kernel_rfl) (by kernel_rfl) (by kernel_rfl) (by kernel_rfl) (fun _ _ _ h => h) (Or.inl ⟨by rfl, ?hg3_4⟩) (by assumption) ?rg3_4
        case hg3_4 => (intro w hSw; (try dsimp only at hSw); first | (go_simp; done) | (go_simp; with_reducible rfl))
        (try simp only [Act.put, List.setIfInBounds_toArray, List.set_cons_zero, List.set_cons_succ])
        refine wpAnyT_take (i := 6) (oi := ⟨some 62, _, _, _, _, _⟩) (v := _) rfl (by kernel_rfl) (by kernel_rfl) (by kernel_rfl) (by kernel_rfl) (fun _ _ _ h => h) (yieldsIf_load_row (by rfl) 27 _ rfl X rfl c 27 (0, 0) _ (fun w hw => hw.2.2.1) Tryd.underlying27 rfl (by rw [S.size HC12.out]; exact srow_info)) (by assumption) ?_
        (try simp only [Act.put, List.setIfInBounds_toArray, List.set_cons_zero, List.set_cons_succ])
        refine wpAnyT_take (i := 9) (oi := ⟨some 65, _, _, _, _, _⟩) (v := ?vg3_9) rfl (by kernel_rfl) (by kernel_rfl) (by kernel_rfl) (by kernel_rfl) (fun _ _ _ h => h) (Or.inl ⟨by rfl, ?hg3_9⟩) (by assumption) ?rg3_9
        case hg3_9 => (intro w hSw; (try dsimp only at hSw); first | (go_simp; done) | (go_simp; with_reducible rfl))
        (try simp only [Act.put, List.setIfInBounds_toArray, List.set_cons_zero, List.set_cons_succ])
        refine wpAnyT_one (i := 2) (o := ⟨some 58, _, _, _, _, _⟩) (by kernel_rfl) rfl (fun K hK => ?_)
        go_simp
        go_at_call 10
        refine (does_walk S R c a HIA.out.1 HIA.out.2 _ HC12.out).mono ?_
        rintro e w13 ⟨e1, rfl, hc', hb⟩
        have HE13 := Lib.hid hc'
        clear hc'
        have HA13 := Lib.hid ((hb.block _ (Array.getElem?_eq_some_iff.1 HA12.out).1).trans HA12.out)
        have HB13 := Lib.hid ((hb.block _ (Array.getElem?_eq_some_iff.1 HB12.out).1).trans HB12.out)
        have HZ13 := Lib.hid ((hb.block _ (Array.getElem?_eq_some_iff.1 HZ12.out).1).trans HZ12.out)
        have HC13 := Lib.hid (S.later HC12.out hb)
        have HW13 := Lib.hid (HW12.out.trans (hb.mono HW12.out.size))
        clear hb
        (try go_wp2_with fail)
        refine hK.out _ _ (by first | exact ⟨HA12.out, HB12.out, HZ12.out, cell_in HA12.out rfl, cell_in HB12.out rfl⟩ | exact ⟨HA13.out, HB13.out, HZ13.out, cell_in HA13.out rfl, cell_in HB13.out rfl⟩ | exact ⟨HA14.out, HB14.out, HZ14.out, cell_in HA14.out rfl, cell_in HB14.out rfl⟩ | exact ⟨HA15.out, HB15.out, HZ15.out, cell_in HA15.out rfl, cell_in HB15.out rfl⟩ | exact ⟨HA16.out, HB16.out, HZ16.out, cell_in HA16.out rfl, cell_in HB16.out rfl⟩ | exact ⟨HA17.out, HB17.out, HZ17.out, cell_in HA17.out rfl, cell_in HB17.out rfl⟩ | exact ⟨HA18.out, HB18.out, HZ18.out, cell_in HA18.out rfl, cell_in HB18.out rfl⟩ | exact ⟨HA19.out, HB19.out, HZ19.out, cell_in HA19.out rfl, cell_in HB19.out rfl⟩) (fun hHeld => ?_)
        clear hK K
        (try simp only [Act.put, List.setIfInBounds_toArray, List.set_cons_zero, List.set_cons_succ])
        refine wpAnyT_one (i := 5) (o := ⟨some 61, _, _, _, _, _⟩) (by kernel_rfl) rfl (fun K hK => ?_)
        go_simp
        go_at_call 24
        refine (S.cut _ (doR R a) e1 a.1 HE13.out HIA.out.1).mono ?_
        rintro e w14 ⟨e2, rfl, hc', hb⟩
        have HF14 := Lib.hid hc'
        clear hc'
        have HA14 := Lib.hid ((hb.block _ (Array.getElem?_eq_some_iff.1 HA13.out).1).trans HA13.out)
        have HB14 := Lib.hid ((hb.block _ (Array.getElem?_eq_some_iff.1 HB13.out).1).trans HB13.out)
        have HZ14 := Lib.hid ((hb.block _ (Array.getElem?_eq_some_iff.1 HZ13.out).1).trans HZ13.out)
        have HC14 := Lib.hid (S.later HC13.out hb)
        have HW14 := Lib.hid (HW13.out.trans (hb.mono HW13.out.size))
        have HE14 := Lib.hid (S.later HE13.out hb)
        clear hb
        (try go_wp2_with fail)
        refine hK.out _ _ (by first | exact ⟨HA12.out, HB12.out, HZ12.out, cell_in HA12.out rfl, cell_in HB12.out rfl⟩ | exact ⟨HA13.out, HB13.out, HZ13.out, cell_in HA13.out rfl, cell_in HB13.out rfl⟩ | exact ⟨HA14.out, HB14.out, HZ14.out, cell_in HA14.out rfl, cell_in HB14.out rfl⟩ | exact ⟨HA15.out, HB15.out, HZ15.out, cell_in HA15.out rfl, cell_in HB15.out rfl⟩ | exact ⟨HA16.out, HB16.out, HZ16.out, cell_in HA16.out rfl, cell_in HB16.out rfl⟩ | exact ⟨HA17.out, HB17.out, HZ17.out, cell_in HA17.out rfl, cell_in HB17.out rfl⟩ | exact ⟨HA18.out, HB18.out, HZ18.out, cell_in HA18.out rfl, cell_in HB18.out rfl⟩ | exact ⟨HA19.out, HB19.out, HZ19.out, cell_in HA19.out rfl, cell_in HB19.out rfl⟩) (fun hHeld => ?_)
        clear hK K
        (try simp only [Act.put, List.setIfInBounds_toArray, List.set_cons_zero, List.set_cons_succ])
        refine wpAnyT_one (i := 7) (o := ⟨some 63, _, _, _, _, _⟩) (by kernel_rfl) rfl (fun K hK => ?_)
        go_simp
        go_at_call 23
        refine (alike_walk S (cutR (doR R a) a.1) R e2 c _ HF14.out HC14.out).mono ?_
        rintro e w15 ⟨b1, rfl, hiff, hb⟩
        obtain rfl : b1 = !q := (not_of (hiff.trans HQ.out))
        clear hiff
        have HA15 := Lib.hid ((hb.block _ (Array.getElem?_eq_some_iff.1 HA14.out).1).trans HA14.out)
        have HB15 := Lib.hid ((hb.block _ (Array.getElem?_eq_some_iff.1 HB14.out).1).trans HB14.out)
        have HZ15 := Lib.hid ((hb.block _ (Array.getElem?_eq_some_iff.1 HZ14.out).1).trans HZ14.out)
        have HC15 := Lib.hid (S.later HC14.out hb)
        have HW15 := Lib.hid (HW14.out.trans (hb.mono HW14.out.size))
        have HE15 := Lib.hid (S.later HE14.out hb)
        have HF15 := Lib.hid (S.later HF14.out hb)
        clear hb
        (try go_wp2_with fail)
        refine hK.out _ _ (by first | exact ⟨HA12.out, HB12.out, HZ12.out, cell_in HA12.out rfl, cell_in HB12.out rfl⟩ | exact ⟨HA13.out, HB13.out, HZ13.out, cell_in HA13.out rfl, cell_in HB13.out rfl⟩ | exact ⟨HA14.out, HB14.out, HZ14.out, cell_in HA14.out rfl, cell_in HB14.out rfl⟩ | exact ⟨HA15.out, HB15.out, HZ15.out, cell_in HA15.out rfl, cell_in HB15.out rfl⟩ | exact ⟨HA16.out, HB16.out, HZ16.out, cell_in HA16.out rfl, cell_in HB16.out rfl⟩ | exact ⟨HA17.out, HB17.out, HZ17.out, cell_in HA17.out rfl, cell_in HB17.out rfl⟩ | exact ⟨HA18.out, HB18.out, HZ18.out, cell_in HA18.out rfl, cell_in HB18.out rfl⟩ | exact ⟨HA19.out, HB19.out, HZ19.out, cell_in HA19.out rfl, cell_in HB19.out rfl⟩) (fun hHeld => ?_)
        clear hK K
        (try simp only [Act.put, List.setIfInBounds_toArray, List.set_cons_zero, List.set_cons_succ])
        refine wpAnyT_take (i := 8) (oi := ⟨some 64, _, _, _, _, _⟩) (v := ?vg3_8) rfl (by kernel_rfl) (by kernel_rfl) (by kernel_rfl) (by kernel_rfl) (fun _ _ _ h => h) (Or.inl ⟨by rfl, ?hg3_8⟩) (by assumption) ?rg3_8
        case hg3_8 => (intro w hSw; (try dsimp only at hSw); first | (go_simp; done) | (go_simp; with_reducible rfl))
        (try simp only [Act.put, List.setIfInBounds_toArray, List.set_cons_zero, List.set_cons_succ])
        refine wpAnyT_take (i := 10) (oi := ⟨some 66, _, _, _, _, _⟩) (v := ?vg3_10) rfl (by kernel_rfl) (by kernel_rfl) (by kernel_rfl) (by kernel_rfl) (fun _ _ _ h => h) (Or.inl ⟨by rfl, ?hg3_10⟩) (by assumption) ?rg3_10
        case hg3_10 => (intro w hSw; (try dsimp only at hSw); first | (go_simp; done) | (go_simp; with_reducible rfl))
        (try simp only [Act.put, List.setIfInBounds_toArray, List.set_cons_zero, List.set_cons_succ])
        refine wpAnyT_take (i := 11) (oi := ⟨some 67, _, _, _, _, _⟩) (v := ?vg3_11) rfl (by kernel_rfl) (by kernel_rfl) (by kernel_rfl) (by kernel_rfl) (fun _ _ _ h => h) (Or.inl ⟨by rfl, ?hg3_11⟩) (by assumption) ?rg3_11
        case hg3_11 => (intro w hSw; (try dsimp only at hSw); first | (go_simp; done) | (go_simp; with_reducible rfl))
        (try simp only [Act.put, List.setIfInBounds_toArray, List.set_cons_zero, List.set_cons_succ])
        refine wpAnyT_take (i := 12) (oi := ⟨some 68, _, _, _, _, _⟩) (v := _) rfl (by kernel_rfl) (by kernel_rfl) (by kernel_rfl) (by kernel_rfl) (fun _ _ _ h => h) (yieldsIf_load_row (by rfl) 27 _ rfl X rfl c 27 (0, 0) _ (fun w hw => hw.2.2.1) Tryd.underlying27 rfl (by rw [S.size HC15.out]; exact srow_info)) (by assumption) ?_
        (try simp only [Act.put, List.setIfInBounds_toArray, List.set_cons_zero, List.set_cons_succ])
        refine wpAnyT_take (i := 13) (oi := ⟨some 69, _, _, _, _, _⟩) (v := _) rfl (by kernel_rfl) (by kernel_rfl) (by kernel_rfl) (by kernel_rfl) (fun _ _ _ h => h) (yieldsIf_load_row (by rfl) 35 _ rfl w.heap.size rfl (opC a) 35 (0, 0) _ (fun w hw => hw.1) Tryd.underlying35 rfl (by exact op_info)) (by assumption) ?_
        (try simp only [Act.put, List.setIfInBounds_toArray, List.set_cons_zero, List.set_cons_succ])
        refine wpAnyT_take (i := 15) (oi := ⟨some 71, _, _, _, _, _⟩) (v := _) rfl (by kernel_rfl) (by kernel_rfl) (by kernel_rfl) (by kernel_rfl) (fun _ _ _ h => h) (yieldsIf_load_row (by rfl) 35 _ rfl w.heap.size rfl (opC a) 35 (0, 0) _ (fun w hw => hw.1) Tryd.underlying35 rfl (by exact op_info)) (by assumption) ?_
        (try simp only [Act.put, List.setIfInBounds_toArray, List.set_cons_zero, List.set_cons_succ])
        refine wpAnyT_take (i := 17) (oi := ⟨some 73, _, _, _, _, _⟩) (v := _) rfl (by kernel_rfl) (by kernel_rfl) (by kernel_rfl) (by kernel_rfl) (fun _ _ _ h => h) (yieldsIf_load_row (by rfl) 27 _ rfl X rfl c 27 (0, 0) _ (fun w hw => hw.2.2.1) Tryd.underlying27 rfl (by rw [S.size HC15.out]; exact srow_info)) (by assumption) ?_
        (try simp only [Act.put, List.setIfInBounds_toArray, List.set_cons_zero, List.set_cons_succ])
        refine wpAnyT_take (i := 18) (oi := ⟨some 74, _, _, _, _, _⟩) (v := _) rfl (by kernel_rfl) (by kernel_rfl) (by kernel_rfl) (by kernel_rfl) (fun _ _ _ h => h) (yieldsIf_load_row (by rfl) 35 _ rfl w.heap.size rfl (opC a) 35 (0, 0) _ (fun w hw => hw.1) Tryd.underlying35 rfl (by exact op_info)) (by assumption) ?_
        (try simp only [Act.put, List.setIfInBounds_toArray, List.set_cons_zero, List.set_cons_succ])
        refine wpAnyT_one (i := 14) (o := ⟨some 70, _, _, _, _, _⟩) (by kernel_rfl) rfl (fun K hK => ?_)
        go_simp
        go_at_call 10
        refine (does_walk S R c a HIA.out.1 HIA.out.2 _ HC15.out).mono ?_
        rintro e w16 ⟨e3, rfl, hc', hb⟩
        have HE16 := Lib.hid hc'
        clear hc'
        have HA16 := Lib.hid ((hb.block _ (Array.getElem?_eq_some_iff.1 HA15.out).1).trans HA15.out)
        have HB16 := Lib.hid ((hb.block _ (Array.getElem?_eq_some_iff.1 HB15.out).1).trans HB15.out)
        have HZ16 := Lib.hid ((hb.block _ (Array.getElem?_eq_some_iff.1 HZ15.out).1).trans HZ15.out)
        have HC16 := Lib.hid (S.later HC15.out hb)
        have HW16 := Lib.hid (HW15.out.trans (hb.mono HW15.out.size))
        clear hb
        (try go_wp2_with fail)
        refine hK.out _ _ (by first | exact ⟨HA12.out, HB12.out, HZ12.out, cell_in HA12.out rfl, cell_in HB12.out rfl⟩ | exact ⟨HA13.out, HB13.out, HZ13.out, cell_in HA13.out rfl, cell_in HB13.out rfl⟩ | exact ⟨HA14.out, HB14.out, HZ14.out, cell_in HA14.out rfl, cell_in HB14.out rfl⟩ | exact ⟨HA15.out, HB15.out, HZ15.out, cell_in HA15.out rfl, cell_in HB15.out rfl⟩ | exact ⟨HA16.out, HB16.out, HZ16.out, cell_in HA16.out rfl, cell_in HB16.out rfl⟩ | exact ⟨HA17.out, HB17.out, HZ17.out, cell_in HA17.out rfl, cell_in HB17.out rfl⟩ | exact ⟨HA18.out, HB18.out, HZ18.out, cell_in HA18.out rfl, cell_in HB18.out rfl⟩ | exact ⟨HA19.out, HB19.out, HZ19.out, cell_in HA19.out rfl, cell_in HB19.out rfl⟩) (fun hHeld => ?_)
        clear hK K
        (try simp only [Act.put, List.setIfInBounds_toArray, List.set_cons_zero, List.set_cons_succ])
        refine wpAnyT_one (i := 16) (o := ⟨some 72, _, _, _, _, _⟩) (by kernel_rfl) rfl (fun K hK => ?_)
        go_simp
        go_at_call 10
        refine (does_walk S (doR R a) e3 a HIA.out.1 HIA.out.2 _ HE16.out).mono ?_
        rintro e w17 ⟨e4, rfl, hc', hb⟩
        have HF17 := Lib.hid hc'
        clear hc'
        have HA17 := Lib.hid ((hb.block _ (Array.getElem?_eq_some_iff.1 HA16.out).1).trans HA16.out)
        have HB17 := Lib.hid ((hb.block _ (Array.getElem?_eq_some_iff.1 HB16.out).1).trans HB16.out)
        have HZ17 := Lib.hid ((hb.block _ (Array.getElem?_eq_some_iff.1 HZ16.out).1).trans HZ16.out)
        have HC17 := Lib.hid (S.later HC16.out hb)
        have HW17 := Lib.hid (HW16.out.trans (hb.mono HW16.out.size))
        have HE17 := Lib.hid (S.later HE16.out hb)
        clear hb
        (try go_wp2_with fail)
        refine hK.out _ _ (by first | exact ⟨HA12.out, HB12.out, HZ12.out, cell_in HA12.out rfl, cell_in HB12.out rfl⟩ | exact ⟨HA13.out, HB13.out, HZ13.out, cell_in HA13.out rfl, cell_in HB13.out rfl⟩ | exact ⟨HA14.out, HB14.out, HZ14.out, cell_in HA14.out rfl, cell_in HB14.out rfl⟩ | exact ⟨HA15.out, HB15.out, HZ15.out, cell_in HA15.out rfl, cell_in HB15.out rfl⟩ | exact ⟨HA16.out, HB16.out, HZ16.out, cell_in HA16.out rfl, cell_in HB16.out rfl⟩ | exact ⟨HA17.out, HB17.out, HZ17.out, cell_in HA17.out rfl, cell_in HB17.out rfl⟩ | exact ⟨HA18.out, HB18.out, HZ18.out, cell_in HA18.out rfl, cell_in HB18.out rfl⟩ | exact ⟨HA19.out, HB19.out, HZ19.out, cell_in HA19.out rfl, cell_in HB19.out rfl⟩) (fun hHeld => ?_)
        clear hK K
        (try simp only [Act.put, List.setIfInBounds_toArray, List.set_cons_zero, List.set_cons_succ])
        refine wpAnyT_one (i := 19) (o := ⟨some 75, _, _, _, _, _⟩) (by kernel_rfl) rfl (fun K hK => ?_)
        go_simp
        go_at_call 10
        refine (does_walk S R c a HIA.out.1 HIA.out.2 _ HC17.out).mono ?_
        rintro e w18 ⟨e5, rfl, hc', hb⟩
        have HG18 := Lib.hid hc'
        clear hc'
        have HA18 := Lib.hid ((hb.block _ (Array.getElem?_eq_some_iff.1 HA17.out).1).trans HA17.out)
        have HB18 := Lib.hid ((hb.block _ (Array.getElem?_eq_some_iff.1 HB17.out).1).trans HB17.out)
        have HZ18 := Lib.hid ((hb.block _ (Array.getElem?_eq_some_iff.1 HZ17.out).1).trans HZ17.out)
        have HC18 := Lib.hid (S.later HC17.out hb)
        have HW18 := Lib.hid (HW17.out.trans (hb.mono HW17.out.size))
        have HF18 := Lib.hid (S.later HF17.out hb)
        clear hb
        (try go_wp2_with fail)
        refine hK.out _ _ (by first | exact ⟨HA12.out, HB12.out, HZ12.out, cell_in HA12.out rfl, cell_in HB12.out rfl⟩ | exact ⟨HA13.out, HB13.out, HZ13.out, cell_in HA13.out rfl, cell_in HB13.out rfl⟩ | exact ⟨HA14.out, HB14.out, HZ14.out, cell_in HA14.out rfl, cell_in HB14.out rfl⟩ | exact ⟨HA15.out, HB15.out, HZ15.out, cell_in HA15.out rfl, cell_in HB15.out rfl⟩ | exact ⟨HA16.out, HB16.out, HZ16.out, cell_in HA16.out rfl, cell_in HB16.out rfl⟩ | exact ⟨HA17.out, HB17.out, HZ17.out, cell_in HA17.out rfl, cell_in HB17.out rfl⟩ | exact ⟨HA18.out, HB18.out, HZ18.out, cell_in HA18.out rfl, cell_in HB18.out rfl⟩ | exact ⟨HA19.out, HB19.out, HZ19.out, cell_in HA19.out rfl, cell_in HB19.out rfl⟩) (fun hHeld => ?_)
        clear hK K
        (try simp only [Act.put, List.setIfInBounds_toArray, List.set_cons_zero, List.set_cons_succ])
        refine wpAnyT_one (i := 20) (o := ⟨some 76, _, _, _, _, _⟩) (by kernel_rfl) rfl (fun K hK => ?_)
        go_simp
        go_at_call 23
        refine (alike_walk S (doR (doR R a) a) (doR R a) e4 e5 _ HF18.out HG18.out).mono ?_
        rintro e w19 ⟨b2, rfl, hiff, hb⟩
        obtain rfl : b2 = true := hiff.2 (do_twice R a)
        clear hiff
        have HA19 := Lib.hid ((hb.block _ (Array.getElem?_eq_some_iff.1 HA18.out).1).trans HA18.out)
        have HB19 := Lib.hid ((hb.block _ (Array.getElem?_eq_some_iff.1 HB18.out).1).trans HB18.out)
        have HZ19 := Lib.hid ((hb.block _ (Array.getElem?_eq_some_iff.1 HZ18.out).1).trans HZ18.out)
        have HC19 := Lib.hid (S.later HC18.out hb)
        have HW19 := Lib.hid (HW18.out.trans (hb.mono HW18.out.size))
        have HF19 := Lib.hid (S.later HF18.out hb)
        have HG19 := Lib.hid (S.later HG18.out hb)
        clear hb
        (try go_wp2_with fail)
        refine hK.out _ _ (by first | exact ⟨HA12.out, HB12.out, HZ12.out, cell_in HA12.out rfl, cell_in HB12.out rfl⟩ | exact ⟨HA13.out, HB13.out, HZ13.out, cell_in HA13.out rfl, cell_in HB13.out rfl⟩ | exact ⟨HA14.out, HB14.out, HZ14.out, cell_in HA14.out rfl, cell_in HB14.out rfl⟩ | exact ⟨HA15.out, HB15.out, HZ15.out, cell_in HA15.out rfl, cell_in HB15.out rfl⟩ | exact ⟨HA16.out, HB16.out, HZ16.out, cell_in HA16.out rfl, cell_in HB16.out rfl⟩ | exact ⟨HA17.out, HB17.out, HZ17.out, cell_in HA17.out rfl, cell_in HB17.out rfl⟩ | exact ⟨HA18.out, HB18.out, HZ18.out, cell_in HA18.out rfl, cell_in HB18.out rfl⟩ | exact ⟨HA19.out, HB19.out, HZ19.out, cell_in HA19.out rfl, cell_in HB19.out rfl⟩) (fun hHeld => ?_)
        clear hK K
        (try simp only [Act.put, List.setIfInBounds_toArray, List.set_cons_zero, List.set_cons_succ])
        refine wpAnyT_take (i := 21) (oi := ⟨some 77, _, _, _, _, _⟩) (v := ?vg3_21) rfl (by kernel_rfl) (by kernel_rfl) (by kernel_rfl) (by kernel_rfl) (fun _ _ _ h => h) (Or.inl ⟨by rfl, ?hg3_21⟩) (by assumption) ?rg3_21
        case hg3_21 => (intro w hSw; (try dsimp only at hSw); first | (go_simp; done) | (go_simp; with_reducible rfl))
        (try simp only [Act.put, List.setIfInBounds_toArray, List.set_cons_zero, List.set_cons_succ])
        refine wpAnyT_take (i := 22) (oi := ⟨some 6, _, _, _, _, _⟩) (v := ?vg3_22) rfl (by kernel_rfl) (by kernel_rfl) (by kernel_rfl) (by kernel_rfl) (fun _ _ _ h => h) (Or.inl ⟨by rfl, ?hg3_22⟩) (by assumption) ?rg3_22
        case hg3_22 => (intro w hSw; (try dsimp only at hSw); first | (go_simp; done) | (go_simp; with_reducible rfl))
        (try simp only [Act.put, List.setIfInBounds_toArray, List.set_cons_zero, List.set_cons_succ])
        refine wpAnyT_done (by kernel_rfl) ?_ _
        go_wp2_with fail
        go_ret
        exact ⟨rfl, HW19.out⟩
end
end Go.Proofs.YtmdfpkklnaekmaaDoor
