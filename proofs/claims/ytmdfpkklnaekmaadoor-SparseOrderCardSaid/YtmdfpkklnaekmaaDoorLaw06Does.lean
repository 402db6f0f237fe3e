/- Layer 6's law SparseDoes, over what package sparse's rows answer. -/
import Derived.Test.YtmdfpkklnaekmaaDoorLaw06Rows
import Derived.Deep.CutRange
namespace Go.Proofs.YtmdfpkklnaekmaaDoor
open Go.RowKit
set_option maxRecDepth 1000000
set_option linter.unusedSimpArgs false

section
variable {Tb : World → Prop} {At : World → Rw → Array Value → Prop} (S : RSpec Tb At)
include S
set_option maxHeartbeats 4000000 in
theorem sparseDoes_of (v : Value) (l : List Opr) (ask : Int) (hask : In64 ask) (w : World) (hl : OpsAt w v l) (hT : Tb w) :
    Calls Tryd.prog 3 #[v, .int .i64 ask] w fun e w' => e = .returned (.bool true) ∧ Below w.heap.size w w' := by
  obtain ⟨ad, cap, bb, oo, rfl, h1, h2, h3, h4⟩ := hl
  have HLO := Lib.hid h1
  have HLC := Lib.hid h2
  have HLI := Lib.hid h3
  clear h1 h2 h3
  have HW0 := Lib.hid (Below.refl w.heap.size w)
  by_cases hlen : l.length ≤ 100
  case neg =>
    as_aux_lemma =>
    have t1 : (100 : Int) < (l.length : Int) := by omega
    clear hlen
    go_enter Tryd.func3, Tryd.ntmps3
    go_wp2_with (first
      | (go_at_call 9; with_reducible refine (live6_true S w hT).mono ?_; rintro e w1 ⟨rfl, hb⟩; have HW1 := Lib.hid (HW0.out.trans (hb.mono HW0.out.size)); clear hb)
      | (go_at_call 9; with_reducible refine (live6_true S w1 (S.tab hT HW1.out)).mono ?_; rintro e w2 ⟨rfl, hb⟩; have HW2 := Lib.hid (HW1.out.trans (hb.mono HW1.out.size)); clear hb))
    go_ret
    exact ⟨rfl, HW2.out⟩
  have t1 : ¬ (100 : Int) < (l.length : Int) := by omega
  go_enter Tryd.func3, Tryd.ntmps3
  go_upto_region 5 with (first
    | (go_at_call 9; with_reducible refine (live6_true S w hT).mono ?_; rintro e w1 ⟨rfl, hb⟩; have HW1 := Lib.hid (HW0.out.trans (hb.mono HW0.out.size)); clear hb))
  obtain ⟨X, hX⟩ : ∃ X, X = w1.heap.size := ⟨_, rfl⟩
  obtain ⟨V, hV⟩ : ∃ V, (w1.alloc (.cells zeroS 27)).alloc (.cells zeroC 31) = V := ⟨_, rfl⟩
  rw [hV, ← hX]
  obtain ⟨hx, hy, hbl⟩ := pair_laid hV
  rw [← hX] at hx hy hbl
  have HVX := Lib.hid hx
  have HVY := Lib.hid hy
  have HX1 : Hid (w.heap.size ≤ X) := by show _ ≤ _; rw [hX]; exact HW1.out.size
  have HWV : Hid (Below w.heap.size w V) := HW1.out.trans (hbl.mono HX1.out)
  have HXV : Hid (X < V.heap.size) := (Array.getElem?_eq_some_iff.1 hx).1
  have HVS : Hid (V.heap.size = X + 2) := by show _ = _; rw [← hV, hX]; simp
  clear hx hy hbl hV hX
  clear t1
  go_cut [7, 8] from 24 to 27 (fun p q wx => RowsOwn (X + 2) 27 2 p [zeroS] wx ∧ RowsOwn (X + 2) 31 64 q [zeroC] wx ∧ Below V.heap.size V wx)
  case first =>
    as_aux_lemma =>
    have HX0 : Hid (V.drew.heap[X]? = some (.cells zeroS 27 (0, 0))) := HVX.out
    have HY0 : Hid (V.drew.heap[X + 1]? = some (.cells zeroC 31 (0, 0))) := HVY.out
    have hs0 := HVS.out
    refine wp_region_T (S := fun W => W.heap[X]? = some (.cells zeroS 27 (0, 0)) ∧ W.heap[X + 1]? = some (.cells zeroC 31 (0, 0))) [5] (by kernel_rfl) (by first | exact ⟨HX0.out, HY0.out⟩ | exact ⟨HX1.out, HY1.out⟩ | exact ⟨HX2.out, HY2.out⟩) (fun hHeld => ?_)
    refine wpAnyT_take (i := 0) (oi := ⟨some 24, _, _, _, _, _⟩) (v := _) rfl (by kernel_rfl) (by kernel_rfl) (by kernel_rfl) (by kernel_rfl) (fun _ _ _ h => h) (yieldsIf_load_row (by rfl) 27 _ rfl X rfl zeroS 27 (0, 0) _ (fun w hw => hw.1) Tryd.underlying27 rfl (by exact srow_info)) (by assumption) ?_
    (try simp only [Act.put, List.setIfInBounds_toArray, List.set_cons_zero, List.set_cons_succ])
    refine wpAnyT_take (i := 2) (oi := ⟨some 26, _, _, _, _, _⟩) (v := _) rfl (by kernel_rfl) (by kernel_rfl) (by kernel_rfl) (by kernel_rfl) (fun _ _ _ h => h) (yieldsIf_load_row (by rfl) 31 _ rfl (X + 1) rfl zeroC 31 (0, 0) _ (fun w hw => hw.2) Tryd.underlying31 rfl (by exact row_info)) (by assumption) ?_
    (try simp only [Act.put, List.setIfInBounds_toArray, List.set_cons_zero, List.set_cons_succ])
    refine wpAnyT_ready (rs := [1, 3]) (by kernel_rfl) (by simp) ?_
    refine AllT.cons (i := 1) (o := ⟨some 25, _, _, _, _, _⟩) rfl (fun K hK => ?_) (AllT.cons (i := 3) (o := ⟨some 27, _, _, _, _, _⟩) rfl (fun K hK => ?_) AllT.nil)
    · rw [if_pos (by rfl)]
      refine bs_wp 32 27 _ rfl zeroS 2 (.agg zeroS) rfl rfl (by decide) (by decide) Tryd.underlying32 (by kernel_rfl) ?_
      intro w1 hg hb hz
      have hs1 : w1.heap.size = X + 3 := by rw [hz]; exact congrArg (· + 1) hs0
      rw [show V.drew.heap.size = X + 2 from hs0] at hg
      have HX1 := Lib.hid ((hb.block _ (Array.getElem?_eq_some_iff.1 HX0.out).1).trans HX0.out)
      have HY1 := Lib.hid ((hb.block _ (Array.getElem?_eq_some_iff.1 HY0.out).1).trans HY0.out)
      have HGr1 := Lib.hid hg
      have HB1 : Hid (Below V.heap.size V w1) := (drawn_below V).trans hb
      clear hg hb hz
      refine hK.out _ _ (by first | exact ⟨HX0.out, HY0.out⟩ | exact ⟨HX1.out, HY1.out⟩ | exact ⟨HX2.out, HY2.out⟩) (fun hHeld => ?_)
      clear hK K
      (try simp only [Act.put, List.setIfInBounds_toArray, List.set_cons_zero, List.set_cons_succ])
      refine wpAnyT_take (i := 4) (oi := ⟨some 7, _, _, _, _, _⟩) (v := ?v4r) rfl (by kernel_rfl) (by kernel_rfl) (by kernel_rfl) (by kernel_rfl) (fun _ _ _ h => h) (Or.inl ⟨by rfl, ?h4r⟩) (by assumption) ?r4r
      case h4r => (intro w hSw; (try dsimp only at hSw); first | (go_simp; done) | (go_simp; with_reducible rfl))
      (try simp only [Act.put, List.setIfInBounds_toArray, List.set_cons_zero, List.set_cons_succ])
      refine wpAnyT_one (i := 3) (o := ⟨some 27, _, _, _, _, _⟩) (by kernel_rfl) rfl (fun K hK => ?_)
      rw [if_pos (by rfl)]
      refine bs_wp 33 31 _ rfl zeroC 64 (.agg zeroC) rfl rfl (by decide) (by decide) Tryd.underlying33 (by kernel_rfl) ?_
      intro w2 hg hb hz
      have hs2 : w2.heap.size = X + 4 := by rw [hz]; exact congrArg (· + 1) hs1
      rw [show w1.heap.size = X + 3 from hs1] at hg
      have HX2 := Lib.hid ((hb.block _ (Array.getElem?_eq_some_iff.1 HX1.out).1).trans HX1.out)
      have HY2 := Lib.hid ((hb.block _ (Array.getElem?_eq_some_iff.1 HY1.out).1).trans HY1.out)
      have HGw2 := Lib.hid hg
      have HGr2 := Lib.hid ((hb.block _ (Array.getElem?_eq_some_iff.1 HGr1.out).1).trans HGr1.out)
      have HB2 := Lib.hid (HB1.out.trans (hb.mono HB1.out.size))
      clear hg hb hz
      refine hK.out _ _ (by first | exact ⟨HX0.out, HY0.out⟩ | exact ⟨HX1.out, HY1.out⟩ | exact ⟨HX2.out, HY2.out⟩) (fun hHeld => ?_)
      clear hK K
      (try simp only [Act.put, List.setIfInBounds_toArray, List.set_cons_zero, List.set_cons_succ])
      refine wpAnyT_last (i := 5) (o := ⟨some 8, _, _, _, _, _⟩) (by kernel_rfl) (by decide) rfl (fun K hK => ?_)
      go_simp
      refine hK.out _ _ ?_
      clear hK K
      (try simp only [Act.put, List.setIfInBounds_toArray, List.set_cons_zero, List.set_cons_succ])
      refine wpAnyT_done (by kernel_rfl) ?_ _
      (try rw [show V.drew.heap.size = X + 2 from hs0])
      (try rw [show w1.heap.size = X + 3 from hs1])
      go_wp2_with fail
      go_meet
      case rel => exact ⟨by first | exact rows_lit (by omega) HGr2.out rfl | (rw [hs0]; exact rows_lit (by omega) HGr2.out rfl) | (rw [hs1]; exact rows_lit (by omega) HGr2.out rfl), by first | exact rows_lit (by omega) HGw2.out rfl | (rw [hs0]; exact rows_lit (by omega) HGw2.out rfl) | (rw [hs1]; exact rows_lit (by omega) HGw2.out rfl), HB2.out⟩
    · rw [if_pos (by rfl)]
      refine bs_wp 33 31 _ rfl zeroC 64 (.agg zeroC) rfl rfl (by decide) (by decide) Tryd.underlying33 (by kernel_rfl) ?_
      intro w1 hg hb hz
      have hs1 : w1.heap.size = X + 3 := by rw [hz]; exact congrArg (· + 1) hs0
      rw [show V.drew.heap.size = X + 2 from hs0] at hg
      have HX1 := Lib.hid ((hb.block _ (Array.getElem?_eq_some_iff.1 HX0.out).1).trans HX0.out)
      have HY1 := Lib.hid ((hb.block _ (Array.getElem?_eq_some_iff.1 HY0.out).1).trans HY0.out)
      have HGw1 := Lib.hid hg
      have HB1 : Hid (Below V.heap.size V w1) := (drawn_below V).trans hb
      clear hg hb hz
      refine hK.out _ _ (by first | exact ⟨HX0.out, HY0.out⟩ | exact ⟨HX1.out, HY1.out⟩ | exact ⟨HX2.out, HY2.out⟩) (fun hHeld => ?_)
      clear hK K
      (try simp only [Act.put, List.setIfInBounds_toArray, List.set_cons_zero, List.set_cons_succ])
      refine wpAnyT_one (i := 1) (o := ⟨some 25, _, _, _, _, _⟩) (by kernel_rfl) rfl (fun K hK => ?_)
      rw [if_pos (by rfl)]
      refine bs_wp 32 27 _ rfl zeroS 2 (.agg zeroS) rfl rfl (by decide) (by decide) Tryd.underlying32 (by kernel_rfl) ?_
      intro w2 hg hb hz
      have hs2 : w2.heap.size = X + 4 := by rw [hz]; exact congrArg (· + 1) hs1
      rw [show w1.heap.size = X + 3 from hs1] at hg
      have HX2 := Lib.hid ((hb.block _ (Array.getElem?_eq_some_iff.1 HX1.out).1).trans HX1.out)
      have HY2 := Lib.hid ((hb.block _ (Array.getElem?_eq_some_iff.1 HY1.out).1).trans HY1.out)
      have HGr2 := Lib.hid hg
      have HGw2 := Lib.hid ((hb.block _ (Array.getElem?_eq_some_iff.1 HGw1.out).1).trans HGw1.out)
      have HB2 := Lib.hid (HB1.out.trans (hb.mono HB1.out.size))
      clear hg hb hz
      refine hK.out _ _ (by first | exact ⟨HX0.out, HY0.out⟩ | exact ⟨HX1.out, HY1.out⟩ | exact ⟨HX2.out, HY2.out⟩) (fun hHeld => ?_)
      clear hK K
      (try simp only [Act.put, List.setIfInBounds_toArray, List.set_cons_zero, List.set_cons_succ])
      refine wpAnyT_take (i := 4) (oi := ⟨some 7, _, _, _, _, _⟩) (v := ?v4w) rfl (by kernel_rfl) (by kernel_rfl) (by kernel_rfl) (by kernel_rfl) (fun _ _ _ h => h) (Or.inl ⟨by rfl, ?h4w⟩) (by assumption) ?r4w
      case h4w => (intro w hSw; (try dsimp only at hSw); first | (go_simp; done) | (go_simp; with_reducible rfl))
      (try simp only [Act.put, List.setIfInBounds_toArray, List.set_cons_zero, List.set_cons_succ])
      refine wpAnyT_last (i := 5) (o := ⟨some 8, _, _, _, _, _⟩) (by kernel_rfl) (by decide) rfl (fun K hK => ?_)
      go_simp
      refine hK.out _ _ ?_
      clear hK K
      (try simp only [Act.put, List.setIfInBounds_toArray, List.set_cons_zero, List.set_cons_succ])
      refine wpAnyT_done (by kernel_rfl) ?_ _
      (try rw [show V.drew.heap.size = X + 2 from hs0])
      (try rw [show w1.heap.size = X + 3 from hs1])
      go_wp2_with fail
      go_meet
      case rel => exact ⟨by first | exact rows_lit (by omega) HGr2.out rfl | (rw [hs0]; exact rows_lit (by omega) HGr2.out rfl) | (rw [hs1]; exact rows_lit (by omega) HGr2.out rfl), by first | exact rows_lit (by omega) HGw2.out rfl | (rw [hs0]; exact rows_lit (by omega) HGw2.out rfl) | (rw [hs1]; exact rows_lit (by omega) HGw2.out rfl), HB2.out⟩
  case rest =>
    obtain ⟨hr, hq, hbc⟩ := hcut
    have HZ1 := Lib.hid ((hbc.block _ (Array.getElem?_eq_some_iff.1 HVX.out).1).trans HVX.out)
    have HY1 := Lib.hid ((hbc.block _ (Array.getElem?_eq_some_iff.1 HVY.out).1).trans HVY.out)
    have HGr1 := Lib.hid hr
    have HGw1 := Lib.hid hq
    have HV1 : Hid (Below X V wc) := hbc.mono (Nat.le_of_lt HXV.out)
    have HL1 : Hid (AllR At wc [(noR, zeroS, zeroC)]) := fun t ht => by simp at ht; subst ht; exact ⟨S.zero _, zero_rc⟩
    clear hr hq hbc
    go_wp2_with fail
    go_loopw [7, 8, 30] (fun vr vw i wl => ∃ (n : Nat) (c d : Array Value) (R : Rw) (ts : List (Rw × Array Value × Array Value)), n ≤ l.length ∧ i = .int .i64 n ∧ ts.length = n + 1 ∧ (RowsOwn (X + 2) 27 2 vr (ts.map (·.2.1)) wl ∧ RowsOwn (X + 2) 31 64 vw (ts.map (·.2.2)) wl ∧ AllR At wl ts) ∧ wl.heap[X]? = some (.cells c 27 (0, 0)) ∧ wl.heap[X + 1]? = some (.cells d 31 (0, 0)) ∧ At wl R c ∧ RC R d ∧ Below X V wl) (fun _ _ i _ => l.length - (intOf i).toNat)
    case atStart => exact ⟨0, _, _, noR, [(noR, zeroS, zeroC)], Nat.zero_le _, rfl, rfl, ⟨HGr1.out, HGw1.out, HL1.out⟩, HZ1.out, HY1.out, S.zero _, zero_rc, HV1.out⟩
    case round =>
      clear HZ1 HY1 HGr1 HGw1 HV1 HL1
      obtain ⟨n, c, d, R, ts, hn, rfl, hts, ⟨hr, hq, hall⟩, hz, hy, hc, hd, hbl⟩ := hrel
      have HGr4 := Lib.hid hr
      have HGw4 := Lib.hid hq
      have HL4 := Lib.hid hall
      have HTS := Lib.hid hts
      have HNr : Hid (ts.map (·.2.1) ≠ []) := fun h => by have := congrArg List.length h; simp [hts] at this
      have HNw : Hid (ts.map (·.2.2) ≠ []) := fun h => by have := congrArg List.length h; simp [hts] at this
      clear hr hq hall hts
      have HZ4 := Lib.hid hz
      have HY4 := Lib.hid hy
      have HC4 := Lib.hid hc
      have HD := Lib.hid hd
      have HV4 := Lib.hid hbl
      have HW4 : Hid (Below w.heap.size w wr) := HWV.out.trans (hbl.mono HX1.out)
      have HS4 : Hid (X < wr.heap.size) := (Array.getElem?_eq_some_iff.1 hz).1
      clear hz hy hc hd hbl
      by_cases hlt : n < l.length
      · as_aux_lemma =>
        skip
        have hlt' : (n : Int) < (l.length : Int) := by omega
        have i0 : (0 : Int) ≤ (n : Int) := by omega
        have had : ad = some ⟨bb, oo, none⟩ := HLO.out (by omega)
        subst had
        have HI := Lib.hid (HLI.out l[n] (List.getElem_mem hlt))
        have HR4 := Lib.hid ((HLC.out n hlt).later HW4.out)
        obtain ⟨x, hx⟩ : ∃ x, x = l[n] := ⟨_, rfl⟩
        rw [← hx] at HR4 HI
        clear hx
        go_upto_region 9 with (refine ld_op rfl _ rfl bb (oo + n * 3) rfl x HR4.out ?_)
        obtain ⟨w5, hw5⟩ : ∃ w5, wr.alloc (.cells (opC x) 35) = w5 := ⟨_, rfl⟩
        rw [hw5]
        have hb : Below wr.heap.size wr w5.drew := by rw [← hw5]; exact Below.drewMany (Below.newly' _ _) 1
        have HP5 : Hid (w5.drew.heap[wr.heap.size]? = some (.cells (opC x) 35 (0, 0))) := by show _ = _; rw [← hw5]; exact heap_alloc_last wr _
        clear hw5
        have HZ5 := Lib.hid ((hb.block _ (Array.getElem?_eq_some_iff.1 HZ4.out).1).trans HZ4.out)
        have HY5 := Lib.hid ((hb.block _ (Array.getElem?_eq_some_iff.1 HY4.out).1).trans HY4.out)
        have HC5 := Lib.hid (S.later HC4.out hb)
        have HV5 := Lib.hid (HV4.out.trans (hb.mono (Nat.le_trans (Nat.le_of_lt HXV.out) HV4.out.size)))
        have HGr5 := Lib.hid (HGr4.out.later hb)
        have HGw5 := Lib.hid (HGw4.out.later hb)
        have HL5 := Lib.hid (AllR.later S HL4.out hb)
        clear hb
        refine wp_region_T (S := fun W => W.heap[X]? = some (.cells c 27 (0, 0)) ∧ W.heap[(X + 1)]? = some (.cells d 31 (0, 0)) ∧ W.heap[wr.heap.size]? = some (.cells (opC x) 35 (0, 0))) [6, 7] (by kernel_rfl) (by first | exact ⟨HZ5.out, HY5.out, HP5.out⟩ | exact ⟨HZ6.out, HY6.out, HP6.out⟩ | exact ⟨HZ7.out, HY7.out, HP7.out⟩) (fun hHeld => ?_)
        refine wpAnyT_take (i := 0) (oi := ⟨some 34, _, _, _, _, _⟩) (v := _) rfl (by kernel_rfl) (by kernel_rfl) (by kernel_rfl) (by kernel_rfl) (fun _ _ _ h => h) (yieldsIf_load_row (by rfl) 27 _ rfl X rfl c 27 (0, 0) _ (fun w hw => hw.1) Tryd.underlying27 rfl (by rw [S.size HC5.out]; exact srow_info)) (by assumption) ?_
        (try simp only [Act.put, List.setIfInBounds_toArray, List.set_cons_zero, List.set_cons_succ])
        refine wpAnyT_take (i := 1) (oi := ⟨some 35, _, _, _, _, _⟩) (v := _) rfl (by kernel_rfl) (by kernel_rfl) (by kernel_rfl) (by kernel_rfl) (fun _ _ _ h => h) (yieldsIf_load_row (by rfl) 35 _ rfl wr.heap.size rfl (opC x) 35 (0, 0) _ (fun w hw => hw.2.2) Tryd.underlying35 rfl (by exact op_info)) (by assumption) ?_
        (try simp only [Act.put, List.setIfInBounds_toArray, List.set_cons_zero, List.set_cons_succ])
        refine wpAnyT_take (i := 3) (oi := ⟨some 37, _, _, _, _, _⟩) (v := _) rfl (by kernel_rfl) (by kernel_rfl) (by kernel_rfl) (by kernel_rfl) (fun _ _ _ h => h) (yieldsIf_load_row (by rfl) 31 _ rfl (X + 1) rfl d 31 (0, 0) _ (fun w hw => hw.2.1) Tryd.underlying31 rfl (by rw [HD.out.size]; exact row_info)) (by assumption) ?_
        (try simp only [Act.put, List.setIfInBounds_toArray, List.set_cons_zero, List.set_cons_succ])
        refine wpAnyT_take (i := 4) (oi := ⟨some 38, _, _, _, _, _⟩) (v := _) rfl (by kernel_rfl) (by kernel_rfl) (by kernel_rfl) (by kernel_rfl) (fun _ _ _ h => h) (yieldsIf_load_row (by rfl) 35 _ rfl wr.heap.size rfl (opC x) 35 (0, 0) _ (fun w hw => hw.2.2) Tryd.underlying35 rfl (by exact op_info)) (by assumption) ?_
        (try simp only [Act.put, List.setIfInBounds_toArray, List.set_cons_zero, List.set_cons_succ])
        refine wpAnyT_one (i := 2) (o := ⟨some 36, _, _, _, _, _⟩) (by kernel_rfl) rfl (fun K hK => ?_)
        go_simp
        go_at_call 10
        refine (does_walk S R c x HI.out.1 HI.out.2 _ HC5.out).mono ?_
        rintro e w6 ⟨c', rfl, hc', hb⟩
        have HN6 := Lib.hid hc'
        clear hc'
        have HZ6 := Lib.hid ((hb.block _ (Array.getElem?_eq_some_iff.1 HZ5.out).1).trans HZ5.out)
        have HY6 := Lib.hid ((hb.block _ (Array.getElem?_eq_some_iff.1 HY5.out).1).trans HY5.out)
        have HC6 := Lib.hid (S.later HC5.out hb)
        have HV6 := Lib.hid (HV5.out.trans (hb.mono (Nat.le_trans (Nat.le_of_lt HXV.out) HV5.out.size)))
        have HGr6 := Lib.hid (HGr5.out.later hb)
        have HGw6 := Lib.hid (HGw5.out.later hb)
        have HL6 := Lib.hid (AllR.later S HL5.out hb)
        have HP6 := Lib.hid ((hb.block _ (Array.getElem?_eq_some_iff.1 HP5.out).1).trans HP5.out)
        clear hb
        (try go_wp2_with fail)
        refine hK.out _ _ (by first | exact ⟨HZ5.out, HY5.out, HP5.out⟩ | exact ⟨HZ6.out, HY6.out, HP6.out⟩ | exact ⟨HZ7.out, HY7.out, HP7.out⟩) (fun hHeld => ?_)
        clear hK K
        (try simp only [Act.put, List.setIfInBounds_toArray, List.set_cons_zero, List.set_cons_succ])
        refine wpAnyT_one (i := 5) (o := ⟨some 39, _, _, _, _, _⟩) (by kernel_rfl) rfl (fun K hK => ?_)
        go_simp
        go_at_call 11
        refine (should_walk R d x _ HD.out).mono ?_
        rintro e w7 ⟨d', rfl, hd', hb⟩
        have HE2 := Lib.hid hd'
        clear hd'
        have HZ7 := Lib.hid ((hb.block _ (Array.getElem?_eq_some_iff.1 HZ6.out).1).trans HZ6.out)
        have HY7 := Lib.hid ((hb.block _ (Array.getElem?_eq_some_iff.1 HY6.out).1).trans HY6.out)
        have HC7 := Lib.hid (S.later HC6.out hb)
        have HV7 := Lib.hid (HV6.out.trans (hb.mono (Nat.le_trans (Nat.le_of_lt HXV.out) HV6.out.size)))
        have HGr7 := Lib.hid (HGr6.out.later hb)
        have HGw7 := Lib.hid (HGw6.out.later hb)
        have HL7 := Lib.hid (AllR.later S HL6.out hb)
        have HP7 := Lib.hid ((hb.block _ (Array.getElem?_eq_some_iff.1 HP6.out).1).trans HP6.out)
        have HN7 := Lib.hid (S.later HN6.out hb)
        clear hb
        (try go_wp2_with fail)
        refine hK.out _ _ (by first | exact ⟨HZ5.out, HY5.out, HP5.out⟩ | exact ⟨HZ6.out, HY6.out, HP6.out⟩ | exact ⟨HZ7.out, HY7.out, HP7.out⟩) (fun hHeld => ?_)
        clear hK K
        (try simp only [Act.put, List.setIfInBounds_toArray, List.set_cons_zero, List.set_cons_succ])
        refine wpAnyT_last (i := 6) (o := ⟨none, _, _, _, _, _⟩) (by kernel_rfl) (by decide) rfl (fun K hK => ?_)
        rw [if_pos (by rfl)]
        refine st_agg_wp 27 _ _ rfl (X) c' rfl rfl 27 c HZ7.out (by rw [S.size HN7.out]; exact srow_info) (by rw [S.size HC7.out, S.size HN7.out]) (S.one HN7.out) ?_
        intro w8 h k
        have HZ8 := Lib.hid h
        have HY8 := Lib.hid (k.other HY7.out (by omega))
        have HN8 := Lib.hid (S.but HN7.out k HZ7.out (by decide))
        have HP8 := Lib.hid (k.other HP7.out (by have := HS4.out; omega))
        have HGr8 := Lib.hid (HGr7.out.but HNr.out k (by omega))
        have HGw8 := Lib.hid (HGw7.out.but HNw.out k (by omega))
        have HL8 := Lib.hid (AllR.but S HL7.out k HZ7.out (by decide))
        have HV8 := Lib.hid (HV7.out.trans (k.below (Nat.le_refl _)))
        clear h k
        refine hK.out _ _ ?_
        clear hK K
        (try simp only [Act.put, List.setIfInBounds_toArray, List.set_cons_zero, List.set_cons_succ])
        refine wpAnyT_last (i := 7) (o := ⟨none, _, _, _, _, _⟩) (by kernel_rfl) (by decide) rfl (fun K hK => ?_)
        rw [if_pos (by rfl)]
        refine st_agg_wp 31 _ _ rfl ((X + 1)) d' rfl rfl 31 d HY8.out (by rw [HE2.out.size]; exact row_info) (by rw [HD.out.size, HE2.out.size]) HE2.out.one ?_
        intro w9 h k
        have HY9 := Lib.hid h
        have HZ9 := Lib.hid (k.other HZ8.out (by omega))
        have HC9 := Lib.hid (S.but HN8.out k HY8.out (by decide))
        have HP9 := Lib.hid (k.other HP8.out (by have := (Array.getElem?_eq_some_iff.1 HY4.out).1; omega))
        have HGr9 := Lib.hid (HGr8.out.but HNr.out k (by omega))
        have HGw9 := Lib.hid (HGw8.out.but HNw.out k (by omega))
        have HL9 := Lib.hid (AllR.but S HL8.out k HY8.out (by decide))
        have HV9 := Lib.hid (HV8.out.trans (k.below (by omega)))
        clear h k
        refine hK.out _ _ ?_
        clear hK K
        (try simp only [Act.put, List.setIfInBounds_toArray, List.set_cons_zero, List.set_cons_succ])
        refine wpAnyT_done (by kernel_rfl) ?_ _
        have HQ1 := Lib.hid (fun W h => S.get W (doR R x) c' ask h hask)
        have HQ2 := Lib.hid (fun W => ref_Get6 (doR R x) d' HE2.out ask W)
        obtain ⟨⟨gx, gb⟩, hp⟩ : ∃ p, p = getR (doR R x) ask := ⟨_, rfl⟩
        rw [← hp] at HQ1 HQ2
        simp only at HQ1 HQ2
        clear hp
        go_upto_region 14 with (first
          | (refine ld_if rfl 27 _ rfl (X) rfl 27 _ _ _ HZ9.out Tryd.underlying27 rfl (by rw [S.size HC9.out]; exact srow_info) ?_)
          | (go_at_call 12; refine (HQ1.out _ HC9.out).mono ?_; rintro e w10 ⟨rfl, hb⟩; have HZ10 := Lib.hid ((hb.block _ (Array.getElem?_eq_some_iff.1 HZ9.out).1).trans HZ9.out); have HY10 := Lib.hid ((hb.block _ (Array.getElem?_eq_some_iff.1 HY9.out).1).trans HY9.out); have HC10 := Lib.hid (S.later HC9.out hb); have HV10 := Lib.hid (HV9.out.trans (hb.mono (Nat.le_trans (Nat.le_of_lt HXV.out) HV9.out.size))); have HGr10 := Lib.hid (HGr9.out.later hb); have HGw10 := Lib.hid (HGw9.out.later hb); have HL10 := Lib.hid (AllR.later S HL9.out hb); clear hb)
          | (refine ld_if rfl 31 _ rfl ((X + 1)) rfl 31 _ _ _ HY10.out Tryd.underlying31 rfl (by rw [HE2.out.size]; exact row_info) ?_)
          | (go_at_call 13; refine (HQ2.out _).mono ?_; rintro e w11 ⟨rfl, hb⟩; have HZ11 := Lib.hid ((hb.block _ (Array.getElem?_eq_some_iff.1 HZ10.out).1).trans HZ10.out); have HY11 := Lib.hid ((hb.block _ (Array.getElem?_eq_some_iff.1 HY10.out).1).trans HY10.out); have HC11 := Lib.hid (S.later HC10.out hb); have HV11 := Lib.hid (HV10.out.trans (hb.mono (Nat.le_trans (Nat.le_of_lt HXV.out) HV10.out.size))); have HGr11 := Lib.hid (HGr10.out.later hb); have HGw11 := Lib.hid (HGw10.out.later hb); have HL11 := Lib.hid (AllR.later S HL10.out hb); clear hb))
        have hb := drawn_below w11
        have HZ12 := Lib.hid ((hb.block _ (Array.getElem?_eq_some_iff.1 HZ11.out).1).trans HZ11.out)
        have HY12 := Lib.hid ((hb.block _ (Array.getElem?_eq_some_iff.1 HY11.out).1).trans HY11.out)
        have HC12 := Lib.hid (S.later HC11.out hb)
        have HV12 := Lib.hid (HV11.out.trans (hb.mono (Nat.le_trans (Nat.le_of_lt HXV.out) HV11.out.size)))
        have HGr12 := Lib.hid (HGr11.out.later hb)
        have HGw12 := Lib.hid (HGw11.out.later hb)
        have HL12 := Lib.hid (AllR.later S HL11.out hb)
        clear hb
        refine wp_region_T (S := fun W => W.heap[X]? = some (.cells c' 27 (0, 0)) ∧ W.heap[X + 1]? = some (.cells d' 31 (0, 0))) [8, 9] (by kernel_rfl) (by first | exact ⟨HZ12.out, HY12.out⟩ | exact ⟨HZ13.out, HY13.out⟩ | exact ⟨HZ14.out, HY14.out⟩ | exact ⟨HZ15.out, HY15.out⟩ | exact ⟨HZ16.out, HY16.out⟩) (fun hHeld => ?_)
        refine wpAnyT_take (i := 0) (oi := ⟨some 60, _, _, _, _, _⟩) (v := ?vg3_0) rfl (by kernel_rfl) (by kernel_rfl) (by kernel_rfl) (by kernel_rfl) (fun _ _ _ h => h) (Or.inl ⟨by rfl, ?hg3_0⟩) (by assumption) ?rg3_0
        case hg3_0 => (intro w hSw; (try dsimp only at hSw); first | (go_simp; done) | (go_simp; with_reducible rfl))
        (try simp only [Act.put, List.setIfInBounds_toArray, List.set_cons_zero, List.set_cons_succ])
        refine wpAnyT_take (i := 1) (oi := ⟨some 61, _, _, _, _, _⟩) (v := _) rfl (by kernel_rfl) (by kernel_rfl) (by kernel_rfl) (by kernel_rfl) (fun _ _ _ h => h) (yieldsIf_load_row (by rfl) 27 _ rfl X rfl c' 27 (0, 0) _ (fun w hw => hw.1) Tryd.underlying27 rfl (by rw [S.size HC12.out]; exact srow_info)) (by assumption) ?_
        (try simp only [Act.put, List.setIfInBounds_toArray, List.set_cons_zero, List.set_cons_succ])
        refine wpAnyT_take (i := 4) (oi := ⟨some 64, _, _, _, _, _⟩) (v := ?vg3_4) rfl (by kernel_rfl) (by kernel_rfl) (by kernel_rfl) (by kernel_rfl) (fun _ _ _ h => h) (Or.inl ⟨by rfl, ?hg3_4⟩) (by assumption) ?rg3_4
        case hg3_4 => (intro w hSw; (try dsimp only at hSw); first | (go_simp; done) | (go_simp; with_reducible rfl))
        (try simp only [Act.put, List.setIfInBounds_toArray, List.set_cons_zero, List.set_cons_succ])
        refine wpAnyT_take (i := 5) (oi := ⟨some 65, _, _, _, _, _⟩) (v := _) rfl (by kernel_rfl) (by kernel_rfl) (by kernel_rfl) (by kernel_rfl) (fun _ _ _ h => h) (yieldsIf_load_row (by rfl) 31 _ rfl (X + 1) rfl d' 31 (0, 0) _ (fun w hw => hw.2) Tryd.underlying31 rfl (by rw [HE2.out.size]; exact row_info)) (by assumption) ?_
        (try simp only [Act.put, List.setIfInBounds_toArray, List.set_cons_zero, List.set_cons_succ])
        refine wpAnyT_ready (rs := [2, 6]) (by kernel_rfl) (by simp) ?_
        refine AllT.cons (i := 2) (o := ⟨some 62, _, _, _, _, _⟩) rfl (fun K hK => ?_) (AllT.cons (i := 6) (o := ⟨some 66, _, _, _, _, _⟩) rfl (fun K hK => ?_) AllT.nil)
        · as_aux_lemma =>
          rw [if_pos (by rfl)]
          refine bs_wp 32 27 _ rfl c' 2 (.agg zeroS) rfl (S.size HC12.out) (by decide) (by decide) Tryd.underlying32 (by kernel_rfl) ?_
          intro w13 hg hb hz
          have HM13 := Lib.hid hg
          clear hg hz
          have HZ13 := Lib.hid ((hb.block _ (Array.getElem?_eq_some_iff.1 HZ12.out).1).trans HZ12.out)
          have HY13 := Lib.hid ((hb.block _ (Array.getElem?_eq_some_iff.1 HY12.out).1).trans HY12.out)
          have HC13 := Lib.hid (S.later HC12.out hb)
          have HV13 := Lib.hid (HV12.out.trans (hb.mono (Nat.le_trans (Nat.le_of_lt HXV.out) HV12.out.size)))
          have HGr13 := Lib.hid (HGr12.out.later hb)
          have HGw13 := Lib.hid (HGw12.out.later hb)
          have HL13 := Lib.hid (AllR.later S HL12.out hb)
          clear hb
          refine hK.out _ _ (by first | exact ⟨HZ12.out, HY12.out⟩ | exact ⟨HZ13.out, HY13.out⟩ | exact ⟨HZ14.out, HY14.out⟩ | exact ⟨HZ15.out, HY15.out⟩ | exact ⟨HZ16.out, HY16.out⟩) (fun hHeld => ?_)
          clear hK K
          (try simp only [Act.put, List.setIfInBounds_toArray, List.set_cons_zero, List.set_cons_succ])
          refine wpAnyT_ready (rs := [3, 6]) (by kernel_rfl) (by simp) ?_
          refine AllT.cons (i := 3) (o := ⟨some 63, _, _, _, _, _⟩) rfl (fun K hK => ?_) (AllT.cons (i := 6) (o := ⟨some 66, _, _, _, _, _⟩) rfl (fun K hK => ?_) AllT.nil)
          · as_aux_lemma =>
            rw [if_pos (by rfl)]
            refine rows_wp (z := .agg zeroS) (by_ := 32) 32 27 _ _ rfl rfl HGr13.out (w11.drew.heap.size) rfl HM13.out (S.size HC13.out) (S.one HC13.out) Tryd.underlying32 (by kernel_rfl) rfl (by decide) (by have := HTS.out; simp; omega) (by decide) ?_
            intro vr1 w14 hrow hgr
            have HGr14 := Lib.hid hrow
            have HZ14 := Lib.hid (HGr13.out.keeps hgr (by omega) HZ13.out)
            have HY14 := Lib.hid (HGr13.out.keeps hgr (by omega) HY13.out)
            have HGw14 := Lib.hid (HGw13.out.apart HNw.out HGr13.out HNr.out (by decide) hgr)
            have HC14 := Lib.hid (S.kept HC13.out hgr (HGr13.out.typed (by decide)))
            have HL14 := Lib.hid (AllR.kept S HL13.out hgr (HGr13.out.typed (by decide)))
            have HV14 := Lib.hid (HV13.out.trans (HGr13.out.below hgr (by omega) (Nat.le_trans (Nat.le_of_lt HXV.out) HV13.out.size)))
            clear hrow hgr
            refine hK.out _ _ (by first | exact ⟨HZ12.out, HY12.out⟩ | exact ⟨HZ13.out, HY13.out⟩ | exact ⟨HZ14.out, HY14.out⟩ | exact ⟨HZ15.out, HY15.out⟩ | exact ⟨HZ16.out, HY16.out⟩) (fun hHeld => ?_)
            clear hK K
            (try simp only [Act.put, List.setIfInBounds_toArray, List.set_cons_zero, List.set_cons_succ])
            refine wpAnyT_ready (rs := [6]) (by kernel_rfl) (by simp) ?_
            refine AllT.cons (i := 6) (o := ⟨some 66, _, _, _, _, _⟩) rfl (fun K hK => ?_) AllT.nil
            · as_aux_lemma =>
              rw [if_pos (by rfl)]
              refine bs_wp 33 31 _ rfl d' 64 (.agg zeroC) rfl HE2.out.size (by decide) (by decide) Tryd.underlying33 (by kernel_rfl) ?_
              intro w15 hg hb hz
              have HN15 := Lib.hid hg
              clear hg hz
              have HZ15 := Lib.hid ((hb.block _ (Array.getElem?_eq_some_iff.1 HZ14.out).1).trans HZ14.out)
              have HY15 := Lib.hid ((hb.block _ (Array.getElem?_eq_some_iff.1 HY14.out).1).trans HY14.out)
              have HC15 := Lib.hid (S.later HC14.out hb)
              have HV15 := Lib.hid (HV14.out.trans (hb.mono (Nat.le_trans (Nat.le_of_lt HXV.out) HV14.out.size)))
              have HGr15 := Lib.hid (HGr14.out.later hb)
              have HGw15 := Lib.hid (HGw14.out.later hb)
              have HL15 := Lib.hid (AllR.later S HL14.out hb)
              clear hb
              refine hK.out _ _ (by first | exact ⟨HZ12.out, HY12.out⟩ | exact ⟨HZ13.out, HY13.out⟩ | exact ⟨HZ14.out, HY14.out⟩ | exact ⟨HZ15.out, HY15.out⟩ | exact ⟨HZ16.out, HY16.out⟩) (fun hHeld => ?_)
              clear hK K
              (try simp only [Act.put, List.setIfInBounds_toArray, List.set_cons_zero, List.set_cons_succ])
              refine wpAnyT_ready (rs := [7]) (by kernel_rfl) (by simp) ?_
              refine AllT.cons (i := 7) (o := ⟨some 67, _, _, _, _, _⟩) rfl (fun K hK => ?_) AllT.nil
              · as_aux_lemma =>
                rw [if_pos (by rfl)]
                refine rows_wp (z := .agg zeroC) (by_ := 288) 33 31 _ _ rfl rfl HGw15.out (w14.heap.size) rfl HN15.out HE2.out.size HE2.out.one Tryd.underlying33 (by kernel_rfl) rfl (by decide) (by have := HTS.out; simp; omega) (by decide) ?_
                intro vw1 w16 hrow hgr
                have HGw16 := Lib.hid hrow
                have HZ16 := Lib.hid (HGw15.out.keeps hgr (by omega) HZ15.out)
                have HY16 := Lib.hid (HGw15.out.keeps hgr (by omega) HY15.out)
                have HGr16 := Lib.hid (HGr15.out.apart (List.append_ne_nil_of_right_ne_nil _ (by simp)) HGw15.out HNw.out (by decide) hgr)
                have HC16 := Lib.hid (S.kept HC15.out hgr (HGw15.out.typed (by decide)))
                have HL16 := Lib.hid (AllR.kept S HL15.out hgr (HGw15.out.typed (by decide)))
                have HV16 := Lib.hid (HV15.out.trans (HGw15.out.below hgr (by omega) (Nat.le_trans (Nat.le_of_lt HXV.out) HV15.out.size)))
                clear hrow hgr
                refine hK.out _ _ (by first | exact ⟨HZ12.out, HY12.out⟩ | exact ⟨HZ13.out, HY13.out⟩ | exact ⟨HZ14.out, HY14.out⟩ | exact ⟨HZ15.out, HY15.out⟩ | exact ⟨HZ16.out, HY16.out⟩) (fun hHeld => ?_)
                clear hK K
                (try simp only [Act.put, List.setIfInBounds_toArray, List.set_cons_zero, List.set_cons_succ])
                refine wpAnyT_last (i := 8) (o := ⟨some 7, _, _, _, _, _⟩) (by kernel_rfl) (by decide) rfl (fun K hK => ?_)
                go_simp
                refine hK.out _ _ ?_
                clear hK K
                (try simp only [Act.put, List.setIfInBounds_toArray, List.set_cons_zero, List.set_cons_succ])
                refine wpAnyT_last (i := 9) (o := ⟨some 8, _, _, _, _, _⟩) (by kernel_rfl) (by decide) rfl (fun K hK => ?_)
                go_simp
                refine hK.out _ _ ?_
                clear hK K
                (try simp only [Act.put, List.setIfInBounds_toArray, List.set_cons_zero, List.set_cons_succ])
                refine wpAnyT_done (by kernel_rfl) ?_ _
                have hL := AllR.snoc HL16.out HC16.out HE2.out
                have hR := HGr16.out
                have hW := HGw16.out
                rw [show ts.map (·.2.1) ++ [c'] = (ts ++ [(doR R x, c', d')]).map (·.2.1) by simp] at hR
                rw [show ts.map (·.2.2) ++ [d'] = (ts ++ [(doR R x, c', d')]).map (·.2.2) by simp] at hW
                have hT : (ts ++ [(doR R x, c', d')]).length = n + 1 + 1 := by rw [List.length_append, HTS.out]; rfl
                have HRR := Lib.hid hR
                have HWW := Lib.hid hW
                have HLL := Lib.hid hL
                have HTT := Lib.hid hT
                clear hR hW hL hT
                go_wp2_with fail
                case roundEnd => exact ⟨⟨n + 1, c', d', doR R x, ts ++ [(doR R x, c', d')], by omega, by go_num, HTT.out, ⟨HRR.out, HWW.out, HLL.out⟩, HZ16.out, HY16.out, HC16.out, HE2.out, HV16.out⟩, by simp [intOf]; omega⟩
          · as_aux_lemma =>
            rw [if_pos (by rfl)]
            refine bs_wp 33 31 _ rfl d' 64 (.agg zeroC) rfl HE2.out.size (by decide) (by decide) Tryd.underlying33 (by kernel_rfl) ?_
            intro w14 hg hb hz
            have HN14 := Lib.hid hg
            clear hg hz
            have HZ14 := Lib.hid ((hb.block _ (Array.getElem?_eq_some_iff.1 HZ13.out).1).trans HZ13.out)
            have HY14 := Lib.hid ((hb.block _ (Array.getElem?_eq_some_iff.1 HY13.out).1).trans HY13.out)
            have HC14 := Lib.hid (S.later HC13.out hb)
            have HV14 := Lib.hid (HV13.out.trans (hb.mono (Nat.le_trans (Nat.le_of_lt HXV.out) HV13.out.size)))
            have HGr14 := Lib.hid (HGr13.out.later hb)
            have HGw14 := Lib.hid (HGw13.out.later hb)
            have HL14 := Lib.hid (AllR.later S HL13.out hb)
            have HM14 := Lib.hid ((hb.block _ (Array.getElem?_eq_some_iff.1 HM13.out).1).trans HM13.out)
            clear hb
            refine hK.out _ _ (by first | exact ⟨HZ12.out, HY12.out⟩ | exact ⟨HZ13.out, HY13.out⟩ | exact ⟨HZ14.out, HY14.out⟩ | exact ⟨HZ15.out, HY15.out⟩ | exact ⟨HZ16.out, HY16.out⟩) (fun hHeld => ?_)
            clear hK K
            (try simp only [Act.put, List.setIfInBounds_toArray, List.set_cons_zero, List.set_cons_succ])
            refine wpAnyT_ready (rs := [3]) (by kernel_rfl) (by simp) ?_
            refine AllT.cons (i := 3) (o := ⟨some 63, _, _, _, _, _⟩) rfl (fun K hK => ?_) AllT.nil
            · as_aux_lemma =>
              rw [if_pos (by rfl)]
              refine rows_wp (z := .agg zeroS) (by_ := 32) 32 27 _ _ rfl rfl HGr14.out (w11.drew.heap.size) rfl HM14.out (S.size HC14.out) (S.one HC14.out) Tryd.underlying32 (by kernel_rfl) rfl (by decide) (by have := HTS.out; simp; omega) (by decide) ?_
              intro vr1 w15 hrow hgr
              have HGr15 := Lib.hid hrow
              have HZ15 := Lib.hid (HGr14.out.keeps hgr (by omega) HZ14.out)
              have HY15 := Lib.hid (HGr14.out.keeps hgr (by omega) HY14.out)
              have HN15 := Lib.hid (HGr14.out.keepsT hgr (by decide) HN14.out)
              have HGw15 := Lib.hid (HGw14.out.apart HNw.out HGr14.out HNr.out (by decide) hgr)
              have HC15 := Lib.hid (S.kept HC14.out hgr (HGr14.out.typed (by decide)))
              have HL15 := Lib.hid (AllR.kept S HL14.out hgr (HGr14.out.typed (by decide)))
              have HV15 := Lib.hid (HV14.out.trans (HGr14.out.below hgr (by omega) (Nat.le_trans (Nat.le_of_lt HXV.out) HV14.out.size)))
              clear hrow hgr
              refine hK.out _ _ (by first | exact ⟨HZ12.out, HY12.out⟩ | exact ⟨HZ13.out, HY13.out⟩ | exact ⟨HZ14.out, HY14.out⟩ | exact ⟨HZ15.out, HY15.out⟩ | exact ⟨HZ16.out, HY16.out⟩) (fun hHeld => ?_)
              clear hK K
              (try simp only [Act.put, List.setIfInBounds_toArray, List.set_cons_zero, List.set_cons_succ])
              refine wpAnyT_ready (rs := [7]) (by kernel_rfl) (by simp) ?_
              refine AllT.cons (i := 7) (o := ⟨some 67, _, _, _, _, _⟩) rfl (fun K hK => ?_) AllT.nil
              · as_aux_lemma =>
                rw [if_pos (by rfl)]
                refine rows_wp (z := .agg zeroC) (by_ := 288) 33 31 _ _ rfl rfl HGw15.out (w13.heap.size) rfl HN15.out HE2.out.size HE2.out.one Tryd.underlying33 (by kernel_rfl) rfl (by decide) (by have := HTS.out; simp; omega) (by decide) ?_
                intro vw1 w16 hrow hgr
                have HGw16 := Lib.hid hrow
                have HZ16 := Lib.hid (HGw15.out.keeps hgr (by omega) HZ15.out)
                have HY16 := Lib.hid (HGw15.out.keeps hgr (by omega) HY15.out)
                have HGr16 := Lib.hid (HGr15.out.apart (List.append_ne_nil_of_right_ne_nil _ (by simp)) HGw15.out HNw.out (by decide) hgr)
                have HC16 := Lib.hid (S.kept HC15.out hgr (HGw15.out.typed (by decide)))
                have HL16 := Lib.hid (AllR.kept S HL15.out hgr (HGw15.out.typed (by decide)))
                have HV16 := Lib.hid (HV15.out.trans (HGw15.out.below hgr (by omega) (Nat.le_trans (Nat.le_of_lt HXV.out) HV15.out.size)))
                clear hrow hgr
                refine hK.out _ _ (by first | exact ⟨HZ12.out, HY12.out⟩ | exact ⟨HZ13.out, HY13.out⟩ | exact ⟨HZ14.out, HY14.out⟩ | exact ⟨HZ15.out, HY15.out⟩ | exact ⟨HZ16.out, HY16.out⟩) (fun hHeld => ?_)
                clear hK K
                (try simp only [Act.put, List.setIfInBounds_toArray, List.set_cons_zero, List.set_cons_succ])
                refine wpAnyT_last (i := 8) (o := ⟨some 7, _, _, _, _, _⟩) (by kernel_rfl) (by decide) rfl (fun K hK => ?_)
                go_simp
                refine hK.out _ _ ?_
                clear hK K
                (try simp only [Act.put, List.setIfInBounds_toArray, List.set_cons_zero, List.set_cons_succ])
                refine wpAnyT_last (i := 9) (o := ⟨some 8, _, _, _, _, _⟩) (by kernel_rfl) (by decide) rfl (fun K hK => ?_)
                go_simp
                refine hK.out _ _ ?_
                clear hK K
                (try simp only [Act.put, List.setIfInBounds_toArray, List.set_cons_zero, List.set_cons_succ])
                refine wpAnyT_done (by kernel_rfl) ?_ _
                have hL := AllR.snoc HL16.out HC16.out HE2.out
                have hR := HGr16.out
                have hW := HGw16.out
                rw [show ts.map (·.2.1) ++ [c'] = (ts ++ [(doR R x, c', d')]).map (·.2.1) by simp] at hR
                rw [show ts.map (·.2.2) ++ [d'] = (ts ++ [(doR R x, c', d')]).map (·.2.2) by simp] at hW
                have hT : (ts ++ [(doR R x, c', d')]).length = n + 1 + 1 := by rw [List.length_append, HTS.out]; rfl
                have HRR := Lib.hid hR
                have HWW := Lib.hid hW
                have HLL := Lib.hid hL
                have HTT := Lib.hid hT
                clear hR hW hL hT
                go_wp2_with fail
                case roundEnd => exact ⟨⟨n + 1, c', d', doR R x, ts ++ [(doR R x, c', d')], by omega, by go_num, HTT.out, ⟨HRR.out, HWW.out, HLL.out⟩, HZ16.out, HY16.out, HC16.out, HE2.out, HV16.out⟩, by simp [intOf]; omega⟩
        · as_aux_lemma =>
          rw [if_pos (by rfl)]
          refine bs_wp 33 31 _ rfl d' 64 (.agg zeroC) rfl HE2.out.size (by decide) (by decide) Tryd.underlying33 (by kernel_rfl) ?_
          intro w13 hg hb hz
          have HN13 := Lib.hid hg
          clear hg hz
          have HZ13 := Lib.hid ((hb.block _ (Array.getElem?_eq_some_iff.1 HZ12.out).1).trans HZ12.out)
          have HY13 := Lib.hid ((hb.block _ (Array.getElem?_eq_some_iff.1 HY12.out).1).trans HY12.out)
          have HC13 := Lib.hid (S.later HC12.out hb)
          have HV13 := Lib.hid (HV12.out.trans (hb.mono (Nat.le_trans (Nat.le_of_lt HXV.out) HV12.out.size)))
          have HGr13 := Lib.hid (HGr12.out.later hb)
          have HGw13 := Lib.hid (HGw12.out.later hb)
          have HL13 := Lib.hid (AllR.later S HL12.out hb)
          clear hb
          refine hK.out _ _ (by first | exact ⟨HZ12.out, HY12.out⟩ | exact ⟨HZ13.out, HY13.out⟩ | exact ⟨HZ14.out, HY14.out⟩ | exact ⟨HZ15.out, HY15.out⟩ | exact ⟨HZ16.out, HY16.out⟩) (fun hHeld => ?_)
          clear hK K
          (try simp only [Act.put, List.setIfInBounds_toArray, List.set_cons_zero, List.set_cons_succ])
          refine wpAnyT_ready (rs := [2]) (by kernel_rfl) (by simp) ?_
          refine AllT.cons (i := 2) (o := ⟨some 62, _, _, _, _, _⟩) rfl (fun K hK => ?_) AllT.nil
          · as_aux_lemma =>
            rw [if_pos (by rfl)]
            refine bs_wp 32 27 _ rfl c' 2 (.agg zeroS) rfl (S.size HC13.out) (by decide) (by decide) Tryd.underlying32 (by kernel_rfl) ?_
            intro w14 hg hb hz
            have HM14 := Lib.hid hg
            clear hg hz
            have HZ14 := Lib.hid ((hb.block _ (Array.getElem?_eq_some_iff.1 HZ13.out).1).trans HZ13.out)
            have HY14 := Lib.hid ((hb.block _ (Array.getElem?_eq_some_iff.1 HY13.out).1).trans HY13.out)
            have HC14 := Lib.hid (S.later HC13.out hb)
            have HV14 := Lib.hid (HV13.out.trans (hb.mono (Nat.le_trans (Nat.le_of_lt HXV.out) HV13.out.size)))
            have HGr14 := Lib.hid (HGr13.out.later hb)
            have HGw14 := Lib.hid (HGw13.out.later hb)
            have HL14 := Lib.hid (AllR.later S HL13.out hb)
            have HN14 := Lib.hid ((hb.block _ (Array.getElem?_eq_some_iff.1 HN13.out).1).trans HN13.out)
            clear hb
            refine hK.out _ _ (by first | exact ⟨HZ12.out, HY12.out⟩ | exact ⟨HZ13.out, HY13.out⟩ | exact ⟨HZ14.out, HY14.out⟩ | exact ⟨HZ15.out, HY15.out⟩ | exact ⟨HZ16.out, HY16.out⟩) (fun hHeld => ?_)
            clear hK K
            (try simp only [Act.put, List.setIfInBounds_toArray, List.set_cons_zero, List.set_cons_succ])
            refine wpAnyT_ready (rs := [3]) (by kernel_rfl) (by simp) ?_
            refine AllT.cons (i := 3) (o := ⟨some 63, _, _, _, _, _⟩) rfl (fun K hK => ?_) AllT.nil
            · as_aux_lemma =>
              rw [if_pos (by rfl)]
              refine rows_wp (z := .agg zeroS) (by_ := 32) 32 27 _ _ rfl rfl HGr14.out (w13.heap.size) rfl HM14.out (S.size HC14.out) (S.one HC14.out) Tryd.underlying32 (by kernel_rfl) rfl (by decide) (by have := HTS.out; simp; omega) (by decide) ?_
              intro vr1 w15 hrow hgr
              have HGr15 := Lib.hid hrow
              have HZ15 := Lib.hid (HGr14.out.keeps hgr (by omega) HZ14.out)
              have HY15 := Lib.hid (HGr14.out.keeps hgr (by omega) HY14.out)
              have HN15 := Lib.hid (HGr14.out.keepsT hgr (by decide) HN14.out)
              have HGw15 := Lib.hid (HGw14.out.apart HNw.out HGr14.out HNr.out (by decide) hgr)
              have HC15 := Lib.hid (S.kept HC14.out hgr (HGr14.out.typed (by decide)))
              have HL15 := Lib.hid (AllR.kept S HL14.out hgr (HGr14.out.typed (by decide)))
              have HV15 := Lib.hid (HV14.out.trans (HGr14.out.below hgr (by omega) (Nat.le_trans (Nat.le_of_lt HXV.out) HV14.out.size)))
              clear hrow hgr
              refine hK.out _ _ (by first | exact ⟨HZ12.out, HY12.out⟩ | exact ⟨HZ13.out, HY13.out⟩ | exact ⟨HZ14.out, HY14.out⟩ | exact ⟨HZ15.out, HY15.out⟩ | exact ⟨HZ16.out, HY16.out⟩) (fun hHeld => ?_)
              clear hK K
              (try simp only [Act.put, List.setIfInBounds_toArray, List.set_cons_zero, List.set_cons_succ])
              refine wpAnyT_ready (rs := [7]) (by kernel_rfl) (by simp) ?_
              refine AllT.cons (i := 7) (o := ⟨some 67, _, _, _, _, _⟩) rfl (fun K hK => ?_) AllT.nil
              · as_aux_lemma =>
                rw [if_pos (by rfl)]
                refine rows_wp (z := .agg zeroC) (by_ := 288) 33 31 _ _ rfl rfl HGw15.out (w11.drew.heap.size) rfl HN15.out HE2.out.size HE2.out.one Tryd.underlying33 (by kernel_rfl) rfl (by decide) (by have := HTS.out; simp; omega) (by decide) ?_
                intro vw1 w16 hrow hgr
                have HGw16 := Lib.hid hrow
                have HZ16 := Lib.hid (HGw15.out.keeps hgr (by omega) HZ15.out)
                have HY16 := Lib.hid (HGw15.out.keeps hgr (by omega) HY15.out)
                have HGr16 := Lib.hid (HGr15.out.apart (List.append_ne_nil_of_right_ne_nil _ (by simp)) HGw15.out HNw.out (by decide) hgr)
                have HC16 := Lib.hid (S.kept HC15.out hgr (HGw15.out.typed (by decide)))
                have HL16 := Lib.hid (AllR.kept S HL15.out hgr (HGw15.out.typed (by decide)))
                have HV16 := Lib.hid (HV15.out.trans (HGw15.out.below hgr (by omega) (Nat.le_trans (Nat.le_of_lt HXV.out) HV15.out.size)))
                clear hrow hgr
                refine hK.out _ _ (by first | exact ⟨HZ12.out, HY12.out⟩ | exact ⟨HZ13.out, HY13.out⟩ | exact ⟨HZ14.out, HY14.out⟩ | exact ⟨HZ15.out, HY15.out⟩ | exact ⟨HZ16.out, HY16.out⟩) (fun hHeld => ?_)
                clear hK K
                (try simp only [Act.put, List.setIfInBounds_toArray, List.set_cons_zero, List.set_cons_succ])
                refine wpAnyT_last (i := 8) (o := ⟨some 7, _, _, _, _, _⟩) (by kernel_rfl) (by decide) rfl (fun K hK => ?_)
                go_simp
                refine hK.out _ _ ?_
                clear hK K
                (try simp only [Act.put, List.setIfInBounds_toArray, List.set_cons_zero, List.set_cons_succ])
                refine wpAnyT_last (i := 9) (o := ⟨some 8, _, _, _, _, _⟩) (by kernel_rfl) (by decide) rfl (fun K hK => ?_)
                go_simp
                refine hK.out _ _ ?_
                clear hK K
                (try simp only [Act.put, List.setIfInBounds_toArray, List.set_cons_zero, List.set_cons_succ])
                refine wpAnyT_done (by kernel_rfl) ?_ _
                have hL := AllR.snoc HL16.out HC16.out HE2.out
                have hR := HGr16.out
                have hW := HGw16.out
                rw [show ts.map (·.2.1) ++ [c'] = (ts ++ [(doR R x, c', d')]).map (·.2.1) by simp] at hR
                rw [show ts.map (·.2.2) ++ [d'] = (ts ++ [(doR R x, c', d')]).map (·.2.2) by simp] at hW
                have hT : (ts ++ [(doR R x, c', d')]).length = n + 1 + 1 := by rw [List.length_append, HTS.out]; rfl
                have HRR := Lib.hid hR
                have HWW := Lib.hid hW
                have HLL := Lib.hid hL
                have HTT := Lib.hid hT
                clear hR hW hL hT
                go_wp2_with fail
                case roundEnd => exact ⟨⟨n + 1, c', d', doR R x, ts ++ [(doR R x, c', d')], by omega, by go_num, HTT.out, ⟨HRR.out, HWW.out, HLL.out⟩, HZ16.out, HY16.out, HC16.out, HE2.out, HV16.out⟩, by simp [intOf]; omega⟩
      · obtain rfl : n = l.length := by omega
        obtain ⟨g1, cap1, cur1, fz1, e1, _, hg1, _⟩ := HGr4.out.at_ HNr.out
        obtain ⟨g2, cap2, cur2, fz2, e2, _, hg2, _⟩ := HGw4.out.at_ HNw.out
        have HE1 := Lib.hid e1
        have HE2 := Lib.hid e2
        rw [List.length_map] at e1 e2
        obtain ⟨N, hN⟩ : ∃ N, N = ts.length := ⟨_, rfl⟩
        rw [← hN] at e1 e2
        have hNm : N ≤ 101 := by have := HTS.out; omega
        have HN := Lib.hid hN
        subst e1 e2
        clear hN hg1 hg2 HZ4 HY4 HC4 HD HV4 HS4
        go_wp2_with fail
        go_loopw [71] (fun i wl => ∃ k : Nat, k ≤ N ∧ i = .int .i64 k ∧ Below wr.heap.size wr wl) (fun i _ => N - (intOf i).toNat)
        case atStart => exact ⟨0, Nat.zero_le _, rfl, Below.refl _ _⟩
        case round =>
          rename World => wq
          obtain ⟨k, hk, rfl, hbl⟩ := hrel
          have HW5 := Lib.hid (HW4.out.trans (hbl.mono HW4.out.size))
          have HB5 := Lib.hid hbl
          by_cases hkN : k < N
          · have hk' : (k : Int) < (N : Int) := by omega
            have i0 : (0 : Int) ≤ (k : Int) := by omega
            have hkt : k < ts.length := by have := HN.out; omega
            have hmem := HL4.out ts[k] (List.getElem_mem hkt)
            have r1 : wr.rangeAt g1 (k * 2) ts[k].2.1.toList := HGr4.out.read HE1.out (by simp [List.getElem?_eq_getElem hkt])
            have r2 : wr.rangeAt g2 (k * 64) ts[k].2.2.toList := HGw4.out.read HE2.out (by simp [List.getElem?_eq_getElem hkt])
            obtain ⟨⟨R', c', d'⟩, ht⟩ : ∃ t, t = ts[k] := ⟨_, rfl⟩
            rw [← ht] at hmem r1 r2
            simp only at hmem r1 r2
            have hb6 : Below wr.heap.size wr wq.drew := Below.drewMany hbl 1
            have HR6 := Lib.hid (rangeAt_later r1 hb6)
            have HT6 := Lib.hid (rangeAt_later r2 hb6)
            have HC6 := Lib.hid (S.later hmem.1 hb6)
            have HD6 := Lib.hid hmem.2
            have HQ6 := Lib.hid hb6
            clear hmem r1 r2 ht hb6 hbl
            go_upto_region 19 with fail
            refine wp_region_T (S := fun W => W.rangeAt g1 (k * 2) c'.toList ∧ W.rangeAt g2 (k * 64) d'.toList) [] (by kernel_rfl) (by first | exact ⟨HR6.out, HT6.out⟩ | exact ⟨HR7.out, HT7.out⟩) (fun hHeld => ?_)
            refine wpAnyT_take (i := 0) (oi := ⟨some 74, _, _, _, _, _⟩) (v := ?vg4_0) rfl (by kernel_rfl) (by kernel_rfl) (by kernel_rfl) (by kernel_rfl) (fun _ _ _ h => h) (Or.inl ⟨by rfl, ?hg4_0⟩) (by assumption) ?rg4_0
            case hg4_0 => (intro w hSw; (try dsimp only at hSw); first | (go_simp; done) | (go_simp; with_reducible rfl))
            (try simp only [Act.put, List.setIfInBounds_toArray, List.set_cons_zero, List.set_cons_succ])
            refine wpAnyT_take (i := 1) (oi := ⟨some 75, _, _, _, _, _⟩) (v := ?vg4_1) rfl (by kernel_rfl) (by kernel_rfl) (by kernel_rfl) (by kernel_rfl) (fun _ _ _ h => h) (Or.inl ⟨by rfl, ?hg4_1⟩) (by assumption) ?rg4_1
            case hg4_1 => (intro w hSw; (try dsimp only at hSw); first | (go_simp; done) | (go_simp; with_reducible rfl))
            (try simp only [Act.put, List.setIfInBounds_toArray, List.set_cons_zero, List.set_cons_succ])
            refine wpAnyT_take (i := 2) (oi := ⟨some 76, _, _, _, _, _⟩) (v := ?vg4_2) rfl (by kernel_rfl) (by kernel_rfl) (by kernel_rfl) (by kernel_rfl) (fun _ _ _ h => h) (Or.inl ⟨by rfl, ?hg4_2⟩) (by assumption) ?rg4_2
            case hg4_2 => (intro w hSw; (try dsimp only at hSw); first | (go_simp; done) | (go_simp; with_reducible rfl))
            (try simp only [Act.put, List.setIfInBounds_toArray, List.set_cons_zero, List.set_cons_succ])
            refine wpAnyT_take (i := 3) (oi := ⟨some 77, _, _, _, _, _⟩) (v := _) rfl (by kernel_rfl) (by kernel_rfl) (by kernel_rfl) (by kernel_rfl) (fun _ _ _ h => h) (yieldsIf_arr (by rfl) 27 _ rfl g1 (k * 2) rfl c' _ (fun w hw => hw.1) Tryd.underlying27 rfl (by rw [S.size HC6.out]; exact srow_info)) (by assumption) ?_
            (try simp only [Act.put, List.setIfInBounds_toArray, List.set_cons_zero, List.set_cons_succ])
            refine wpAnyT_take (i := 4) (oi := ⟨some 78, _, _, _, _, _⟩) (v := ?vg4_4) rfl (by kernel_rfl) (by kernel_rfl) (by kernel_rfl) (by kernel_rfl) (fun _ _ _ h => h) (Or.inl ⟨by rfl, ?hg4_4⟩) (by assumption) ?rg4_4
            case hg4_4 => (intro w hSw; (try dsimp only at hSw); first | (go_simp; done) | (go_simp; with_reducible rfl))
            (try simp only [Act.put, List.setIfInBounds_toArray, List.set_cons_zero, List.set_cons_succ])
            refine wpAnyT_take (i := 5) (oi := ⟨some 79, _, _, _, _, _⟩) (v := ?vg4_5) rfl (by kernel_rfl) (by kernel_rfl) (by kernel_rfl) (by kernel_rfl) (fun _ _ _ h => h) (Or.inl ⟨by rfl, ?hg4_5⟩) (by assumption) ?rg4_5
            case hg4_5 => (intro w hSw; (try dsimp only at hSw); first | (go_simp; done) | (go_simp; with_reducible rfl))
            (try simp only [Act.put, List.setIfInBounds_toArray, List.set_cons_zero, List.set_cons_succ])
            refine wpAnyT_take (i := 6) (oi := ⟨some 80, _, _, _, _, _⟩) (v := ?vg4_6) rfl (by kernel_rfl) (by kernel_rfl) (by kernel_rfl) (by kernel_rfl) (fun _ _ _ h => h) (Or.inl ⟨by rfl, ?hg4_6⟩) (by assumption) ?rg4_6
            case hg4_6 => (intro w hSw; (try dsimp only at hSw); first | (go_simp; done) | (go_simp; with_reducible rfl))
            (try simp only [Act.put, List.setIfInBounds_toArray, List.set_cons_zero, List.set_cons_succ])
            refine wpAnyT_take (i := 7) (oi := ⟨some 81, _, _, _, _, _⟩) (v := _) rfl (by kernel_rfl) (by kernel_rfl) (by kernel_rfl) (by kernel_rfl) (fun _ _ _ h => h) (yieldsIf_arr (by rfl) 31 _ rfl g2 (k * 64) rfl d' _ (fun w hw => hw.2) Tryd.underlying31 rfl (by rw [HD6.out.size]; exact row_info)) (by assumption) ?_
            (try simp only [Act.put, List.setIfInBounds_toArray, List.set_cons_zero, List.set_cons_succ])
            refine wpAnyT_one (i := 8) (o := ⟨some 82, _, _, _, _, _⟩) (by kernel_rfl) rfl (fun K hK => ?_)
            go_simp
            go_at_call 14
            refine (same_walk S R' c' d' _ HC6.out HD6.out (S.tab hT (Below.drewMany HW5.out 1))).mono ?_
            rintro e w7 ⟨rfl, hb⟩
            have HQ7 := Lib.hid (HQ6.out.trans (hb.mono (show wr.heap.size ≤ wq.drew.heap.size from HQ6.out.size)))
            have HR7 := Lib.hid (rangeAt_later HR6.out hb)
            have HT7 := Lib.hid (rangeAt_later HT6.out hb)
            clear hb
            (try go_wp2_with fail)
            refine hK.out _ _ (by first | exact ⟨HR6.out, HT6.out⟩ | exact ⟨HR7.out, HT7.out⟩) (fun hHeld => ?_)
            clear hK K
            (try simp only [Act.put, List.setIfInBounds_toArray, List.set_cons_zero, List.set_cons_succ])
            refine wpAnyT_take (i := 9) (oi := ⟨some 83, _, _, _, _, _⟩) (v := ?vg4_9) rfl (by kernel_rfl) (by kernel_rfl) (by kernel_rfl) (by kernel_rfl) (fun _ _ _ h => h) (Or.inl ⟨by rfl, ?hg4_9⟩) (by assumption) ?rg4_9
            case hg4_9 => (intro w hSw; (try dsimp only at hSw); first | (go_simp; done) | (go_simp; with_reducible rfl))
            (try simp only [Act.put, List.setIfInBounds_toArray, List.set_cons_zero, List.set_cons_succ])
            refine wpAnyT_done (by kernel_rfl) ?_ _
            go_wp2_with fail
            case roundEnd => exact ⟨⟨k + 1, by omega, by go_num, HQ7.out⟩, by simp [intOf]; omega⟩
          · obtain rfl : k = N := by omega
            go_wp2_with fail
            go_ret
            exact ⟨rfl, HW5.out⟩
end
end Go.Proofs.YtmdfpkklnaekmaaDoor
