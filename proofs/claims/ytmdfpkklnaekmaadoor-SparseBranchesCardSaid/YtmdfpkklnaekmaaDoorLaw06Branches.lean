/- Layer 6's law SparseBranches, over what package sparse's rows answer. -/
import Derived.Test.YtmdfpkklnaekmaaDoorLaw06Ops
import Derived.Deep.CutRange
import Derived.Lib.MinMax
namespace Go.Proofs.YtmdfpkklnaekmaaDoor
open Go.RowKit
set_option maxRecDepth 1000000
set_option linter.unusedSimpArgs false

section
variable {Tb : World → Prop} {At : World → Rw → Array Value → Prop} (S : RSpec Tb At)
include S
set_option maxHeartbeats 4000000 in
theorem sparseBranches_of (v va vb : Value) (l la lb : List Opr) (w : World) (hl : OpsAt w v l) (hla : OpsAt w va la) (hlb : OpsAt w vb lb) (hT : Tb w) :
    Calls Tryd.prog 4 #[v, va, vb] w fun e w' => e = .returned (.bool true) ∧ Below w.heap.size w w' := by
  obtain ⟨ad, cap, bb, oo, rfl, h1, h2, h3, h4⟩ := hl
  have HLO := Lib.hid h1
  have HLC := Lib.hid h2
  have HLI := Lib.hid h3
  clear h1 h2 h3
  obtain ⟨ada, capa, bba, ooa, rfl, h1, h2, h3, h4a⟩ := hla
  have HLOa := Lib.hid h1
  have HLCa := Lib.hid h2
  have HLIa := Lib.hid h3
  clear h1 h2 h3
  obtain ⟨adb, capb, bbb, oob, rfl, h1, h2, h3, h4b⟩ := hlb
  have HLOb := Lib.hid h1
  have HLCb := Lib.hid h2
  have HLIb := Lib.hid h3
  clear h1 h2 h3
  have HW0 := Lib.hid (Below.refl w.heap.size w)
  by_cases hlen : l.length ≤ 100 ∧ la.length ≤ 100 ∧ lb.length ≤ 100
  case neg =>
    as_aux_lemma =>
    by_cases g1 : l.length ≤ 100
    · by_cases g2 : la.length ≤ 100
      · have g3 : ¬ lb.length ≤ 100 := fun h => hlen ⟨g1, g2, h⟩
        have t1 : ¬ (100 : Int) < (l.length : Int) := by omega
        have t2 : ¬ (100 : Int) < (la.length : Int) := by omega
        have t3 : (100 : Int) < (lb.length : Int) := by omega
        clear hlen g1 g2 g3
        go_enter Tryd.func4, Tryd.ntmps4
        go_wp2_with (first
          | (go_at_call 9; with_reducible refine (live6_true S w hT).mono ?_; rintro e w1 ⟨rfl, hb⟩; have HW1 := Lib.hid (HW0.out.trans (hb.mono HW0.out.size)); clear hb)
          | (go_at_call 9; with_reducible refine (live6_true S w1 (S.tab hT HW1.out)).mono ?_; rintro e w2 ⟨rfl, hb⟩; have HW2 := Lib.hid (HW1.out.trans (hb.mono HW1.out.size)); clear hb))
        go_ret
        exact ⟨rfl, HW2.out⟩
      · have t1 : ¬ (100 : Int) < (l.length : Int) := by omega
        have t2 : (100 : Int) < (la.length : Int) := by omega
        clear hlen g1 g2
        go_enter Tryd.func4, Tryd.ntmps4
        go_wp2_with (first
          | (go_at_call 9; with_reducible refine (live6_true S w hT).mono ?_; rintro e w1 ⟨rfl, hb⟩; have HW1 := Lib.hid (HW0.out.trans (hb.mono HW0.out.size)); clear hb)
          | (go_at_call 9; with_reducible refine (live6_true S w1 (S.tab hT HW1.out)).mono ?_; rintro e w2 ⟨rfl, hb⟩; have HW2 := Lib.hid (HW1.out.trans (hb.mono HW1.out.size)); clear hb))
        go_ret
        exact ⟨rfl, HW2.out⟩
    · have t1 : (100 : Int) < (l.length : Int) := by omega
      clear hlen g1
      go_enter Tryd.func4, Tryd.ntmps4
      go_wp2_with (first
        | (go_at_call 9; with_reducible refine (live6_true S w hT).mono ?_; rintro e w1 ⟨rfl, hb⟩; have HW1 := Lib.hid (HW0.out.trans (hb.mono HW0.out.size)); clear hb)
        | (go_at_call 9; with_reducible refine (live6_true S w1 (S.tab hT HW1.out)).mono ?_; rintro e w2 ⟨rfl, hb⟩; have HW2 := Lib.hid (HW1.out.trans (hb.mono HW1.out.size)); clear hb))
      go_ret
      exact ⟨rfl, HW2.out⟩
  obtain ⟨g1, g2, g3⟩ := hlen
  have t1 : ¬ (100 : Int) < (l.length : Int) := by omega
  have t2 : ¬ (100 : Int) < (la.length : Int) := by omega
  have t3 : ¬ (100 : Int) < (lb.length : Int) := by omega
  clear g1 g2 g3
  go_enter Tryd.func4, Tryd.ntmps4
  go_upto_region 5 with (first
    | (go_at_call 9; with_reducible refine (live6_true S w hT).mono ?_; rintro e w1 ⟨rfl, hb⟩; have HW1 := Lib.hid (HW0.out.trans (hb.mono HW0.out.size)); clear hb))
  obtain ⟨X, hX⟩ : ∃ X, X = w1.heap.size := ⟨_, rfl⟩
  obtain ⟨V, hV⟩ : ∃ V, (w1.alloc (.cells zeroS 27)).alloc (.cells zeroC 31) = V := ⟨_, rfl⟩
  rw [hV, ← hX]
  obtain ⟨hx, hy, hbl⟩ := pair_laid hV
  rw [← hX] at hx hy hbl
  have HVX := Lib.hid hx
  have HVY := Lib.hid hy
  have HX1 : Hid (w.heap.size ≤ X) := by show _ ≤ _; rw [hX]; exact HW1.out.size
  have HWV : Hid (Below w.heap.size w V) := HW1.out.trans (hbl.mono HX1.out)
  have HXV : Hid (X < V.heap.size) := (Array.getElem?_eq_some_iff.1 hx).1
  clear hx hy hbl hV hX
  clear t1 t2 t3
  go_wp2_with fail
  go_loopw [36] (fun i wl => ∃ (n : Nat) (c d : Array Value) (R : Rw), n ≤ l.length ∧ i = .int .i64 n ∧ wl.heap[X]? = some (.cells c 27 (0, 0)) ∧ wl.heap[X + 1]? = some (.cells d 31 (0, 0)) ∧ At wl R c ∧ RC R d ∧ Below X V wl) (fun i _ => l.length - (intOf i).toNat)
  case atStart => exact ⟨0, _, _, noR, Nat.zero_le _, rfl, HVX.out, HVY.out, S.zero _, zero_rc, Below.refl _ _⟩
  case round =>
    obtain ⟨n, c, d, R, hn, rfl, hz, hy, hc, hd, hbl⟩ := hrel
    have HZ4 := Lib.hid hz
    have HY4 := Lib.hid hy
    have HC4 := Lib.hid hc
    have HD := Lib.hid hd
    have HV4 := Lib.hid hbl
    have HW4 : Hid (Below w.heap.size w wr) := HWV.out.trans (hbl.mono HX1.out)
    have HS4 : Hid (X < wr.heap.size) := (Array.getElem?_eq_some_iff.1 hz).1
    clear hz hy hc hd hbl
    by_cases hlt : n < l.length
    · skip
      have hlt' : (n : Int) < (l.length : Int) := by omega
      have i0 : (0 : Int) ≤ (n : Int) := by omega
      have had : ad = some ⟨bb, oo, none⟩ := HLO.out (by omega)
      subst had
      have HI := Lib.hid (HLI.out l[n] (List.getElem_mem hlt))
      have HR4 := Lib.hid ((HLC.out n hlt).later HW4.out)
      obtain ⟨x, hx⟩ : ∃ x, x = l[n] := ⟨_, rfl⟩
      rw [← hx] at HR4 HI
      clear hx
      go_upto_region 8 with (refine ld_op rfl _ rfl bb (oo + n * 3) rfl x HR4.out ?_)
      obtain ⟨w5, hw5⟩ : ∃ w5, wr.alloc (.cells (opC x) 35) = w5 := ⟨_, rfl⟩
      rw [hw5]
      have hb : Below wr.heap.size wr w5.drew := by rw [← hw5]; exact Below.drewMany (Below.newly' _ _) 1
      have HP5 : Hid (w5.drew.heap[wr.heap.size]? = some (.cells (opC x) 35 (0, 0))) := by show _ = _; rw [← hw5]; exact heap_alloc_last wr _
      clear hw5
      have HZ5 := Lib.hid ((hb.block _ (Array.getElem?_eq_some_iff.1 HZ4.out).1).trans HZ4.out)
      have HY5 := Lib.hid ((hb.block _ (Array.getElem?_eq_some_iff.1 HY4.out).1).trans HY4.out)
      have HC5 := Lib.hid (S.later HC4.out hb)
      have HV5 := Lib.hid (HV4.out.trans (hb.mono (Nat.le_trans (Nat.le_of_lt HXV.out) HV4.out.size)))
      clear hb
      refine wp_region_T (S := fun W => W.heap[X]? = some (.cells c 27 (0, 0)) ∧ W.heap[(X + 1)]? = some (.cells d 31 (0, 0)) ∧ W.heap[wr.heap.size]? = some (.cells (opC x) 35 (0, 0))) [6, 7] (by kernel_rfl) (by first | exact ⟨HZ5.out, HY5.out, HP5.out⟩ | exact ⟨HZ6.out, HY6.out, HP6.out⟩ | exact ⟨HZ7.out, HY7.out, HP7.out⟩) (fun hHeld => ?_)
      refine wpAnyT_take (i := 0) (oi := ⟨some 40, _, _, _, _, _⟩) (v := _) rfl (by kernel_rfl) (by kernel_rfl) (by kernel_rfl) (by kernel_rfl) (fun _ _ _ h => h) (yieldsIf_load_row (by rfl) 27 _ rfl X rfl c 27 (0, 0) _ (fun w hw => hw.1) Tryd.underlying27 rfl (by rw [S.size HC5.out]; exact srow_info)) (by assumption) ?_
      (try simp only [Act.put, List.setIfInBounds_toArray, List.set_cons_zero, List.set_cons_succ])
      refine wpAnyT_take (i := 1) (oi := ⟨some 41, _, _, _, _, _⟩) (v := _) rfl (by kernel_rfl) (by kernel_rfl) (by kernel_rfl) (by kernel_rfl) (fun _ _ _ h => h) (yieldsIf_load_row (by rfl) 35 _ rfl wr.heap.size rfl (opC x) 35 (0, 0) _ (fun w hw => hw.2.2) Tryd.underlying35 rfl (by exact op_info)) (by assumption) ?_
      (try simp only [Act.put, List.setIfInBounds_toArray, List.set_cons_zero, List.set_cons_succ])
      refine wpAnyT_take (i := 3) (oi := ⟨some 43, _, _, _, _, _⟩) (v := _) rfl (by kernel_rfl) (by kernel_rfl) (by kernel_rfl) (by kernel_rfl) (fun _ _ _ h => h) (yieldsIf_load_row (by rfl) 31 _ rfl (X + 1) rfl d 31 (0, 0) _ (fun w hw => hw.2.1) Tryd.underlying31 rfl (by rw [HD.out.size]; exact row_info)) (by assumption) ?_
      (try simp only [Act.put, List.setIfInBounds_toArray, List.set_cons_zero, List.set_cons_succ])
      refine wpAnyT_take (i := 4) (oi := ⟨some 44, _, _, _, _, _⟩) (v := _) rfl (by kernel_rfl) (by kernel_rfl) (by kernel_rfl) (by kernel_rfl) (fun _ _ _ h => h) (yieldsIf_load_row (by rfl) 35 _ rfl wr.heap.size rfl (opC x) 35 (0, 0) _ (fun w hw => hw.2.2) Tryd.underlying35 rfl (by exact op_info)) (by assumption) ?_
      (try simp only [Act.put, List.setIfInBounds_toArray, List.set_cons_zero, List.set_cons_succ])
      refine wpAnyT_one (i := 2) (o := ⟨some 42, _, _, _, _, _⟩) (by kernel_rfl) rfl (fun K hK => ?_)
      go_simp
      go_at_call 10
      refine (does_walk S R c x HI.out.1 HI.out.2 _ HC5.out).mono ?_
      rintro e w6 ⟨c', rfl, hc', hb⟩
      have HN6 := Lib.hid hc'
      clear hc'
      have HZ6 := Lib.hid ((hb.block _ (Array.getElem?_eq_some_iff.1 HZ5.out).1).trans HZ5.out)
      have HY6 := Lib.hid ((hb.block _ (Array.getElem?_eq_some_iff.1 HY5.out).1).trans HY5.out)
      have HC6 := Lib.hid (S.later HC5.out hb)
      have HV6 := Lib.hid (HV5.out.trans (hb.mono (Nat.le_trans (Nat.le_of_lt HXV.out) HV5.out.size)))
      have HP6 := Lib.hid ((hb.block _ (Array.getElem?_eq_some_iff.1 HP5.out).1).trans HP5.out)
      clear hb
      (try go_wp2_with fail)
      refine hK.out _ _ (by first | exact ⟨HZ5.out, HY5.out, HP5.out⟩ | exact ⟨HZ6.out, HY6.out, HP6.out⟩ | exact ⟨HZ7.out, HY7.out, HP7.out⟩) (fun hHeld => ?_)
      clear hK K
      (try simp only [Act.put, List.setIfInBounds_toArray, List.set_cons_zero, List.set_cons_succ])
      refine wpAnyT_one (i := 5) (o := ⟨some 45, _, _, _, _, _⟩) (by kernel_rfl) rfl (fun K hK => ?_)
      go_simp
      go_at_call 11
      refine (should_walk R d x _ HD.out).mono ?_
      rintro e w7 ⟨d', rfl, hd', hb⟩
      have HE2 := Lib.hid hd'
      clear hd'
      have HZ7 := Lib.hid ((hb.block _ (Array.getElem?_eq_some_iff.1 HZ6.out).1).trans HZ6.out)
      have HY7 := Lib.hid ((hb.block _ (Array.getElem?_eq_some_iff.1 HY6.out).1).trans HY6.out)
      have HC7 := Lib.hid (S.later HC6.out hb)
      have HV7 := Lib.hid (HV6.out.trans (hb.mono (Nat.le_trans (Nat.le_of_lt HXV.out) HV6.out.size)))
      have HP7 := Lib.hid ((hb.block _ (Array.getElem?_eq_some_iff.1 HP6.out).1).trans HP6.out)
      have HN7 := Lib.hid (S.later HN6.out hb)
      clear hb
      (try go_wp2_with fail)
      refine hK.out _ _ (by first | exact ⟨HZ5.out, HY5.out, HP5.out⟩ | exact ⟨HZ6.out, HY6.out, HP6.out⟩ | exact ⟨HZ7.out, HY7.out, HP7.out⟩) (fun hHeld => ?_)
      clear hK K
      (try simp only [Act.put, List.setIfInBounds_toArray, List.set_cons_zero, List.set_cons_succ])
      refine wpAnyT_last (i := 6) (o := ⟨none, _, _, _, _, _⟩) (by kernel_rfl) (by decide) rfl (fun K hK => ?_)
      rw [if_pos (by rfl)]
      refine st_agg_wp 27 _ _ rfl (X) c' rfl rfl 27 c HZ7.out (by rw [S.size HN7.out]; exact srow_info) (by rw [S.size HC7.out, S.size HN7.out]) (S.one HN7.out) ?_
      intro w8 h k
      have HZ8 := Lib.hid h
      have HY8 := Lib.hid (k.other HY7.out (by omega))
      have HN8 := Lib.hid (S.but HN7.out k HZ7.out (by decide))
      have HP8 := Lib.hid (k.other HP7.out (by have := HS4.out; omega))
      have HV8 := Lib.hid (HV7.out.trans (k.below (Nat.le_refl _)))
      clear h k
      refine hK.out _ _ ?_
      clear hK K
      (try simp only [Act.put, List.setIfInBounds_toArray, List.set_cons_zero, List.set_cons_succ])
      refine wpAnyT_last (i := 7) (o := ⟨none, _, _, _, _, _⟩) (by kernel_rfl) (by decide) rfl (fun K hK => ?_)
      rw [if_pos (by rfl)]
      refine st_agg_wp 31 _ _ rfl ((X + 1)) d' rfl rfl 31 d HY8.out (by rw [HE2.out.size]; exact row_info) (by rw [HD.out.size, HE2.out.size]) HE2.out.one ?_
      intro w9 h k
      have HY9 := Lib.hid h
      have HZ9 := Lib.hid (k.other HZ8.out (by omega))
      have HC9 := Lib.hid (S.but HN8.out k HY8.out (by decide))
      have HP9 := Lib.hid (k.other HP8.out (by have := (Array.getElem?_eq_some_iff.1 HY4.out).1; omega))
      have HV9 := Lib.hid (HV8.out.trans (k.below (by omega)))
      clear h k
      refine hK.out _ _ ?_
      clear hK K
      (try simp only [Act.put, List.setIfInBounds_toArray, List.set_cons_zero, List.set_cons_succ])
      refine wpAnyT_done (by kernel_rfl) ?_ _
      go_wp2_with fail
      case roundEnd => exact ⟨⟨n + 1, c', d', doR R x, by omega, by go_num, HZ9.out, HY9.out, HC9.out, HE2.out, HV9.out⟩, by simp [intOf]; omega⟩
    · obtain rfl : n = l.length := by omega
      go_upto_region 10 with fail
      go_cut [11, 12] from 47 to 48 (fun p q wx => ∃ P Q : Nat, p = .pointer (some ⟨P, 0, none⟩) ∧ q = .pointer (some ⟨Q, 0, none⟩) ∧ ¬ P = Q ∧ wr.heap.size ≤ P ∧ wr.heap.size ≤ Q ∧ wx.heap[P]? = some (.cells c 27 (0, 0)) ∧ wx.heap[Q]? = some (.cells c 27 (0, 0)) ∧ Below wr.heap.size wr wx)
      case first =>
        as_aux_lemma =>
        have HX0 : Hid (wr.drew.heap[X]? = some (.cells c 27 (0, 0))) := HZ4.out
        have hlt : X < wr.heap.size := (Array.getElem?_eq_some_iff.1 HX0.out).1
        refine wp_region_T (S := fun W => W.heap[X]? = some (.cells c 27 (0, 0))) [5] (by kernel_rfl) (by first | exact HX0.out | exact HX1.out | exact HX2.out | exact HX3.out) (fun hHeld => ?_)
        refine wpAnyT_take (i := 0) (oi := ⟨some 47, _, _, _, _, _⟩) (v := _) rfl (by kernel_rfl) (by kernel_rfl) (by kernel_rfl) (by kernel_rfl) (fun _ _ _ h => h) (yieldsIf_load_row (by rfl) 27 _ rfl X rfl c 27 (0, 0) _ (fun w hw => hw) Tryd.underlying27 rfl (by rw [S.size HC4.out]; exact srow_info)) (by assumption) ?_
        (try simp only [Act.put, List.setIfInBounds_toArray, List.set_cons_zero, List.set_cons_succ])
        refine wpAnyT_take (i := 1) (oi := ⟨some 48, _, _, _, _, _⟩) (v := _) rfl (by kernel_rfl) (by kernel_rfl) (by kernel_rfl) (by kernel_rfl) (fun _ _ _ h => h) (yieldsIf_load_row (by rfl) 27 _ rfl X rfl c 27 (0, 0) _ (fun w hw => hw) Tryd.underlying27 rfl (by rw [S.size HC4.out]; exact srow_info)) (by assumption) ?_
        (try simp only [Act.put, List.setIfInBounds_toArray, List.set_cons_zero, List.set_cons_succ])
        refine wpAnyT_ready (rs := [2, 3]) (by kernel_rfl) (by simp) ?_
        refine AllT.cons (i := 2) (o := ⟨some 11, _, _, _, _, _⟩) rfl (fun K hK => ?_) (AllT.cons (i := 3) (o := ⟨some 12, _, _, _, _, _⟩) rfl (fun K hK => ?_) AllT.nil)
        · go_simp
          obtain ⟨w1, hw1⟩ : ∃ w1, (wr.alloc (.cells zeroS 27)).drew = w1 := ⟨_, rfl⟩
          rw [hw1]
          have HA1 : Hid (w1.heap[wr.heap.size]? = some (.cells zeroS 27 (0, 0))) := by show _ = _; rw [← hw1]; exact heap_alloc_last wr _
          have hb1 : Below wr.heap.size wr w1 := by rw [← hw1]; exact Below.drewMany ((Below.refl _ wr).alloc (Nat.le_refl _) _) 1
          have hs1 : w1.heap.size = wr.heap.size + 1 := by rw [← hw1]; show (wr.alloc _).heap.size = _; simp
          have HX1 : Hid (w1.heap[X]? = some (.cells c 27 (0, 0))) := (hb1.block _ hlt).trans HX0.out
          clear hw1
          refine hK.out _ _ (by first | exact HX0.out | exact HX1.out | exact HX2.out | exact HX3.out) (fun hHeld => ?_)
          clear hK K
          (try simp only [Act.put, List.setIfInBounds_toArray, List.set_cons_zero, List.set_cons_succ])
          refine wpAnyT_one (i := 3) (o := ⟨some 12, _, _, _, _, _⟩) (by kernel_rfl) rfl (fun K hK => ?_)
          go_simp
          obtain ⟨w2, hw2⟩ : ∃ w2, w1.alloc (.cells zeroS 27) = w2 := ⟨_, rfl⟩
          rw [hw2]
          (try rw [hs1])
          have HB2 : Hid (w2.heap[wr.heap.size + 1]? = some (.cells zeroS 27 (0, 0))) := by show _ = _; rw [← hw2, ← hs1]; exact heap_alloc_last w1 _
          have hb2 : Below w1.heap.size w1 w2 := by rw [← hw2]; exact Below.newly' _ _
          have HA2 : Hid (w2.heap[wr.heap.size]? = some (.cells zeroS 27 (0, 0))) := (hb2.block _ (by omega)).trans HA1.out
          have HX2 : Hid (w2.heap[X]? = some (.cells c 27 (0, 0))) := (hb2.block _ (by omega)).trans HX1.out
          have hb : Below wr.heap.size wr w2 := hb1.trans (hb2.mono (by omega))
          clear hw2 hb1 hb2
          refine hK.out _ _ (by first | exact HX0.out | exact HX1.out | exact HX2.out | exact HX3.out) (fun hHeld => ?_)
          clear hK K
          (try simp only [Act.put, List.setIfInBounds_toArray, List.set_cons_zero, List.set_cons_succ])
          refine wpAnyT_one (i := 4) (o := ⟨none, _, _, _, _, _⟩) (by kernel_rfl) rfl (fun K hK => ?_)
          rw [if_pos (by rfl)]
          refine st_agg_wp 27 _ _ rfl wr.heap.size c rfl rfl 27 zeroS HA2.out (by rw [S.size HC4.out]; exact srow_info) (by rw [S.size HC4.out]; rfl) (S.one HC4.out) ?_
          intro w3 h3 k3
          have HP3 := Lib.hid h3
          have HO3 := Lib.hid (k3.other HB2.out (by omega))
          have HX3 := Lib.hid (k3.other HX2.out (by omega))
          have hb3 := hb.trans (k3.below (by omega))
          clear h3 k3 hb
          refine hK.out _ _ (by first | exact HX0.out | exact HX1.out | exact HX2.out | exact HX3.out) (fun hHeld => ?_)
          clear hK K
          (try simp only [Act.put, List.setIfInBounds_toArray, List.set_cons_zero, List.set_cons_succ])
          refine wpAnyT_last (i := 5) (o := ⟨none, _, _, _, _, _⟩) (by kernel_rfl) (by decide) rfl (fun K hK => ?_)
          rw [if_pos (by rfl)]
          refine st_agg_wp 27 _ _ rfl (wr.heap.size + 1) c rfl rfl 27 zeroS HO3.out (by rw [S.size HC4.out]; exact srow_info) (by rw [S.size HC4.out]; rfl) (S.one HC4.out) ?_
          intro w4 h4 k4
          have HQ4 := Lib.hid h4
          have HP4 := Lib.hid (k4.other HP3.out (by omega))
          have hb4 := hb3.trans (k4.below (by omega))
          clear h4 k4 hb3
          refine hK.out _ _ ?_
          clear hK K
          (try simp only [Act.put, List.setIfInBounds_toArray, List.set_cons_zero, List.set_cons_succ])
          refine wpAnyT_done (by kernel_rfl) ?_ _
          go_wp2_with fail
          go_meet
          case rel => exact ⟨wr.heap.size, (wr.heap.size + 1), rfl, rfl, by omega, by omega, by omega, HP4.out, HQ4.out, hb4⟩
        · go_simp
          obtain ⟨w1, hw1⟩ : ∃ w1, (wr.alloc (.cells zeroS 27)).drew = w1 := ⟨_, rfl⟩
          rw [hw1]
          have HA1 : Hid (w1.heap[wr.heap.size]? = some (.cells zeroS 27 (0, 0))) := by show _ = _; rw [← hw1]; exact heap_alloc_last wr _
          have hb1 : Below wr.heap.size wr w1 := by rw [← hw1]; exact Below.drewMany ((Below.refl _ wr).alloc (Nat.le_refl _) _) 1
          have hs1 : w1.heap.size = wr.heap.size + 1 := by rw [← hw1]; show (wr.alloc _).heap.size = _; simp
          have HX1 : Hid (w1.heap[X]? = some (.cells c 27 (0, 0))) := (hb1.block _ hlt).trans HX0.out
          clear hw1
          refine hK.out _ _ (by first | exact HX0.out | exact HX1.out | exact HX2.out | exact HX3.out) (fun hHeld => ?_)
          clear hK K
          (try simp only [Act.put, List.setIfInBounds_toArray, List.set_cons_zero, List.set_cons_succ])
          refine wpAnyT_one (i := 2) (o := ⟨some 11, _, _, _, _, _⟩) (by kernel_rfl) rfl (fun K hK => ?_)
          go_simp
          obtain ⟨w2, hw2⟩ : ∃ w2, w1.alloc (.cells zeroS 27) = w2 := ⟨_, rfl⟩
          rw [hw2]
          (try rw [hs1])
          have HB2 : Hid (w2.heap[wr.heap.size + 1]? = some (.cells zeroS 27 (0, 0))) := by show _ = _; rw [← hw2, ← hs1]; exact heap_alloc_last w1 _
          have hb2 : Below w1.heap.size w1 w2 := by rw [← hw2]; exact Below.newly' _ _
          have HA2 : Hid (w2.heap[wr.heap.size]? = some (.cells zeroS 27 (0, 0))) := (hb2.block _ (by omega)).trans HA1.out
          have HX2 : Hid (w2.heap[X]? = some (.cells c 27 (0, 0))) := (hb2.block _ (by omega)).trans HX1.out
          have hb : Below wr.heap.size wr w2 := hb1.trans (hb2.mono (by omega))
          clear hw2 hb1 hb2
          refine hK.out _ _ (by first | exact HX0.out | exact HX1.out | exact HX2.out | exact HX3.out) (fun hHeld => ?_)
          clear hK K
          (try simp only [Act.put, List.setIfInBounds_toArray, List.set_cons_zero, List.set_cons_succ])
          refine wpAnyT_one (i := 4) (o := ⟨none, _, _, _, _, _⟩) (by kernel_rfl) rfl (fun K hK => ?_)
          rw [if_pos (by rfl)]
          refine st_agg_wp 27 _ _ rfl (wr.heap.size + 1) c rfl rfl 27 zeroS HB2.out (by rw [S.size HC4.out]; exact srow_info) (by rw [S.size HC4.out]; rfl) (S.one HC4.out) ?_
          intro w3 h3 k3
          have HP3 := Lib.hid h3
          have HO3 := Lib.hid (k3.other HA2.out (by omega))
          have HX3 := Lib.hid (k3.other HX2.out (by omega))
          have hb3 := hb.trans (k3.below (by omega))
          clear h3 k3 hb
          refine hK.out _ _ (by first | exact HX0.out | exact HX1.out | exact HX2.out | exact HX3.out) (fun hHeld => ?_)
          clear hK K
          (try simp only [Act.put, List.setIfInBounds_toArray, List.set_cons_zero, List.set_cons_succ])
          refine wpAnyT_last (i := 5) (o := ⟨none, _, _, _, _, _⟩) (by kernel_rfl) (by decide) rfl (fun K hK => ?_)
          rw [if_pos (by rfl)]
          refine st_agg_wp 27 _ _ rfl wr.heap.size c rfl rfl 27 zeroS HO3.out (by rw [S.size HC4.out]; exact srow_info) (by rw [S.size HC4.out]; rfl) (S.one HC4.out) ?_
          intro w4 h4 k4
          have HQ4 := Lib.hid h4
          have HP4 := Lib.hid (k4.other HP3.out (by omega))
          have hb4 := hb3.trans (k4.below (by omega))
          clear h4 k4 hb3
          refine hK.out _ _ ?_
          clear hK K
          (try simp only [Act.put, List.setIfInBounds_toArray, List.set_cons_zero, List.set_cons_succ])
          refine wpAnyT_done (by kernel_rfl) ?_ _
          go_wp2_with fail
          go_meet
          case rel => exact ⟨(wr.heap.size + 1), wr.heap.size, rfl, rfl, by omega, by omega, by omega, HP4.out, HQ4.out, hb4⟩
      case rest =>
        obtain ⟨P, Q, rfl, rfl, hPQ, hP, hQ, hp, hq, hbc⟩ := hcut
        go_upto_region 11 with fail
        have HZ10 := Lib.hid ((hbc.block _ (Array.getElem?_eq_some_iff.1 HZ4.out).1).trans HZ4.out)
        have HY10 := Lib.hid ((hbc.block _ (Array.getElem?_eq_some_iff.1 HY4.out).1).trans HY4.out)
        have HC10 := Lib.hid (S.later HC4.out hbc)
        have HP10 := Lib.hid hp
        have HQ10 := Lib.hid hq
        have HV10 := Lib.hid (HV4.out.trans (hbc.mono (Nat.le_of_lt HS4.out)))
        have hXP : X + 1 < P := by have := (Array.getElem?_eq_some_iff.1 HY4.out).1; omega
        have hXQ : X + 1 < Q := by have := (Array.getElem?_eq_some_iff.1 HY4.out).1; omega
        clear hbc hp hq hP hQ HLO HLC HLI
        go_cut [13, 14] from 49 to 50 (fun p q wx => ∃ P Q : Nat, p = .pointer (some ⟨P, 0, none⟩) ∧ q = .pointer (some ⟨Q, 0, none⟩) ∧ ¬ P = Q ∧ wc.heap.size ≤ P ∧ wc.heap.size ≤ Q ∧ wx.heap[P]? = some (.cells d 31 (0, 0)) ∧ wx.heap[Q]? = some (.cells d 31 (0, 0)) ∧ Below wc.heap.size wc wx)
        case first =>
          as_aux_lemma =>
          have HX0 : Hid (wc.drew.heap[(X + 1)]? = some (.cells d 31 (0, 0))) := HY10.out
          have hlt : (X + 1) < wc.heap.size := (Array.getElem?_eq_some_iff.1 HX0.out).1
          refine wp_region_T (S := fun W => W.heap[(X + 1)]? = some (.cells d 31 (0, 0))) [5] (by kernel_rfl) (by first | exact HX0.out | exact HX1.out | exact HX2.out | exact HX3.out) (fun hHeld => ?_)
          refine wpAnyT_take (i := 0) (oi := ⟨some 49, _, _, _, _, _⟩) (v := _) rfl (by kernel_rfl) (by kernel_rfl) (by kernel_rfl) (by kernel_rfl) (fun _ _ _ h => h) (yieldsIf_load_row (by rfl) 31 _ rfl (X + 1) rfl d 31 (0, 0) _ (fun w hw => hw) Tryd.underlying31 rfl (by rw [HD.out.size]; exact row_info)) (by assumption) ?_
          (try simp only [Act.put, List.setIfInBounds_toArray, List.set_cons_zero, List.set_cons_succ])
          refine wpAnyT_take (i := 1) (oi := ⟨some 50, _, _, _, _, _⟩) (v := _) rfl (by kernel_rfl) (by kernel_rfl) (by kernel_rfl) (by kernel_rfl) (fun _ _ _ h => h) (yieldsIf_load_row (by rfl) 31 _ rfl (X + 1) rfl d 31 (0, 0) _ (fun w hw => hw) Tryd.underlying31 rfl (by rw [HD.out.size]; exact row_info)) (by assumption) ?_
          (try simp only [Act.put, List.setIfInBounds_toArray, List.set_cons_zero, List.set_cons_succ])
          refine wpAnyT_ready (rs := [2, 3]) (by kernel_rfl) (by simp) ?_
          refine AllT.cons (i := 2) (o := ⟨some 13, _, _, _, _, _⟩) rfl (fun K hK => ?_) (AllT.cons (i := 3) (o := ⟨some 14, _, _, _, _, _⟩) rfl (fun K hK => ?_) AllT.nil)
          · go_simp
            obtain ⟨w1, hw1⟩ : ∃ w1, (wc.alloc (.cells zeroC 31)).drew = w1 := ⟨_, rfl⟩
            rw [hw1]
            have HA1 : Hid (w1.heap[wc.heap.size]? = some (.cells zeroC 31 (0, 0))) := by show _ = _; rw [← hw1]; exact heap_alloc_last wc _
            have hb1 : Below wc.heap.size wc w1 := by rw [← hw1]; exact Below.drewMany ((Below.refl _ wc).alloc (Nat.le_refl _) _) 1
            have hs1 : w1.heap.size = wc.heap.size + 1 := by rw [← hw1]; show (wc.alloc _).heap.size = _; simp
            have HX1 : Hid (w1.heap[(X + 1)]? = some (.cells d 31 (0, 0))) := (hb1.block _ hlt).trans HX0.out
            clear hw1
            refine hK.out _ _ (by first | exact HX0.out | exact HX1.out | exact HX2.out | exact HX3.out) (fun hHeld => ?_)
            clear hK K
            (try simp only [Act.put, List.setIfInBounds_toArray, List.set_cons_zero, List.set_cons_succ])
            refine wpAnyT_one (i := 3) (o := ⟨some 14, _, _, _, _, _⟩) (by kernel_rfl) rfl (fun K hK => ?_)
            go_simp
            obtain ⟨w2, hw2⟩ : ∃ w2, w1.alloc (.cells zeroC 31) = w2 := ⟨_, rfl⟩
            rw [hw2]
            (try rw [hs1])
            have HB2 : Hid (w2.heap[wc.heap.size + 1]? = some (.cells zeroC 31 (0, 0))) := by show _ = _; rw [← hw2, ← hs1]; exact heap_alloc_last w1 _
            have hb2 : Below w1.heap.size w1 w2 := by rw [← hw2]; exact Below.newly' _ _
            have HA2 : Hid (w2.heap[wc.heap.size]? = some (.cells zeroC 31 (0, 0))) := (hb2.block _ (by omega)).trans HA1.out
            have HX2 : Hid (w2.heap[(X + 1)]? = some (.cells d 31 (0, 0))) := (hb2.block _ (by omega)).trans HX1.out
            have hb : Below wc.heap.size wc w2 := hb1.trans (hb2.mono (by omega))
            clear hw2 hb1 hb2
            refine hK.out _ _ (by first | exact HX0.out | exact HX1.out | exact HX2.out | exact HX3.out) (fun hHeld => ?_)
            clear hK K
            (try simp only [Act.put, List.setIfInBounds_toArray, List.set_cons_zero, List.set_cons_succ])
            refine wpAnyT_one (i := 4) (o := ⟨none, _, _, _, _, _⟩) (by kernel_rfl) rfl (fun K hK => ?_)
            rw [if_pos (by rfl)]
            refine st_agg_wp 31 _ _ rfl wc.heap.size d rfl rfl 31 zeroC HA2.out (by rw [HD.out.size]; exact row_info) (by rw [HD.out.size]; rfl) HD.out.one ?_
            intro w3 h3 k3
            have HP3 := Lib.hid h3
            have HO3 := Lib.hid (k3.other HB2.out (by omega))
            have HX3 := Lib.hid (k3.other HX2.out (by omega))
            have hb3 := hb.trans (k3.below (by omega))
            clear h3 k3 hb
            refine hK.out _ _ (by first | exact HX0.out | exact HX1.out | exact HX2.out | exact HX3.out) (fun hHeld => ?_)
            clear hK K
            (try simp only [Act.put, List.setIfInBounds_toArray, List.set_cons_zero, List.set_cons_succ])
            refine wpAnyT_last (i := 5) (o := ⟨none, _, _, _, _, _⟩) (by kernel_rfl) (by decide) rfl (fun K hK => ?_)
            rw [if_pos (by rfl)]
            refine st_agg_wp 31 _ _ rfl (wc.heap.size + 1) d rfl rfl 31 zeroC HO3.out (by rw [HD.out.size]; exact row_info) (by rw [HD.out.size]; rfl) HD.out.one ?_
            intro w4 h4 k4
            have HQ4 := Lib.hid h4
            have HP4 := Lib.hid (k4.other HP3.out (by omega))
            have hb4 := hb3.trans (k4.below (by omega))
            clear h4 k4 hb3
            refine hK.out _ _ ?_
            clear hK K
            (try simp only [Act.put, List.setIfInBounds_toArray, List.set_cons_zero, List.set_cons_succ])
            refine wpAnyT_done (by kernel_rfl) ?_ _
            go_wp2_with fail
            go_meet
            case rel => exact ⟨wc.heap.size, (wc.heap.size + 1), rfl, rfl, by omega, by omega, by omega, HP4.out, HQ4.out, hb4⟩
          · go_simp
            obtain ⟨w1, hw1⟩ : ∃ w1, (wc.alloc (.cells zeroC 31)).drew = w1 := ⟨_, rfl⟩
            rw [hw1]
            have HA1 : Hid (w1.heap[wc.heap.size]? = some (.cells zeroC 31 (0, 0))) := by show _ = _; rw [← hw1]; exact heap_alloc_last wc _
            have hb1 : Below wc.heap.size wc w1 := by rw [← hw1]; exact Below.drewMany ((Below.refl _ wc).alloc (Nat.le_refl _) _) 1
            have hs1 : w1.heap.size = wc.heap.size + 1 := by rw [← hw1]; show (wc.alloc _).heap.size = _; simp
            have HX1 : Hid (w1.heap[(X + 1)]? = some (.cells d 31 (0, 0))) := (hb1.block _ hlt).trans HX0.out
            clear hw1
            refine hK.out _ _ (by first | exact HX0.out | exact HX1.out | exact HX2.out | exact HX3.out) (fun hHeld => ?_)
            clear hK K
            (try simp only [Act.put, List.setIfInBounds_toArray, List.set_cons_zero, List.set_cons_succ])
            refine wpAnyT_one (i := 2) (o := ⟨some 13, _, _, _, _, _⟩) (by kernel_rfl) rfl (fun K hK => ?_)
            go_simp
            obtain ⟨w2, hw2⟩ : ∃ w2, w1.alloc (.cells zeroC 31) = w2 := ⟨_, rfl⟩
            rw [hw2]
            (try rw [hs1])
            have HB2 : Hid (w2.heap[wc.heap.size + 1]? = some (.cells zeroC 31 (0, 0))) := by show _ = _; rw [← hw2, ← hs1]; exact heap_alloc_last w1 _
            have hb2 : Below w1.heap.size w1 w2 := by rw [← hw2]; exact Below.newly' _ _
            have HA2 : Hid (w2.heap[wc.heap.size]? = some (.cells zeroC 31 (0, 0))) := (hb2.block _ (by omega)).trans HA1.out
            have HX2 : Hid (w2.heap[(X + 1)]? = some (.cells d 31 (0, 0))) := (hb2.block _ (by omega)).trans HX1.out
            have hb : Below wc.heap.size wc w2 := hb1.trans (hb2.mono (by omega))
            clear hw2 hb1 hb2
            refine hK.out _ _ (by first | exact HX0.out | exact HX1.out | exact HX2.out | exact HX3.out) (fun hHeld => ?_)
            clear hK K
            (try simp only [Act.put, List.setIfInBounds_toArray, List.set_cons_zero, List.set_cons_succ])
            refine wpAnyT_one (i := 4) (o := ⟨none, _, _, _, _, _⟩) (by kernel_rfl) rfl (fun K hK => ?_)
            rw [if_pos (by rfl)]
            refine st_agg_wp 31 _ _ rfl (wc.heap.size + 1) d rfl rfl 31 zeroC HB2.out (by rw [HD.out.size]; exact row_info) (by rw [HD.out.size]; rfl) HD.out.one ?_
            intro w3 h3 k3
            have HP3 := Lib.hid h3
            have HO3 := Lib.hid (k3.other HA2.out (by omega))
            have HX3 := Lib.hid (k3.other HX2.out (by omega))
            have hb3 := hb.trans (k3.below (by omega))
            clear h3 k3 hb
            refine hK.out _ _ (by first | exact HX0.out | exact HX1.out | exact HX2.out | exact HX3.out) (fun hHeld => ?_)
            clear hK K
            (try simp only [Act.put, List.setIfInBounds_toArray, List.set_cons_zero, List.set_cons_succ])
            refine wpAnyT_last (i := 5) (o := ⟨none, _, _, _, _, _⟩) (by kernel_rfl) (by decide) rfl (fun K hK => ?_)
            rw [if_pos (by rfl)]
            refine st_agg_wp 31 _ _ rfl wc.heap.size d rfl rfl 31 zeroC HO3.out (by rw [HD.out.size]; exact row_info) (by rw [HD.out.size]; rfl) HD.out.one ?_
            intro w4 h4 k4
            have HQ4 := Lib.hid h4
            have HP4 := Lib.hid (k4.other HP3.out (by omega))
            have hb4 := hb3.trans (k4.below (by omega))
            clear h4 k4 hb3
            refine hK.out _ _ ?_
            clear hK K
            (try simp only [Act.put, List.setIfInBounds_toArray, List.set_cons_zero, List.set_cons_succ])
            refine wpAnyT_done (by kernel_rfl) ?_ _
            go_wp2_with fail
            go_meet
            case rel => exact ⟨(wc.heap.size + 1), wc.heap.size, rfl, rfl, by omega, by omega, by omega, HP4.out, HQ4.out, hb4⟩
        case rest =>
          obtain ⟨U, T, rfl, rfl, hUT, hU, hT, hu, ht, hbc⟩ := hcut
          have HZ11 := Lib.hid ((hbc.block _ (Array.getElem?_eq_some_iff.1 HZ10.out).1).trans HZ10.out)
          have HY11 := Lib.hid ((hbc.block _ (Array.getElem?_eq_some_iff.1 HY10.out).1).trans HY10.out)
          have HP11 := Lib.hid ((hbc.block _ (Array.getElem?_eq_some_iff.1 HP10.out).1).trans HP10.out)
          have HQ11 := Lib.hid ((hbc.block _ (Array.getElem?_eq_some_iff.1 HQ10.out).1).trans HQ10.out)
          have HC11 := Lib.hid (S.later HC10.out hbc)
          have HU11 := Lib.hid hu
          have HT11 := Lib.hid ht
          have HV11 := Lib.hid (HV10.out.trans (hbc.mono (Nat.le_of_lt (Array.getElem?_eq_some_iff.1 HZ10.out).1)))
          have hPs := (Array.getElem?_eq_some_iff.1 HP10.out).1
          have hQs := (Array.getElem?_eq_some_iff.1 HQ10.out).1
          have HNE : Hid (X + 1 < P ∧ X + 1 < Q ∧ ¬ P = Q ∧ P < U ∧ Q < U ∧ P < T ∧ Q < T ∧ ¬ U = T) := ⟨hXP, hXQ, hPQ, by omega, by omega, by omega, by omega, hUT⟩
          clear hbc hu ht hU hT hUT hPQ hXP hXQ hPs hQs HZ4 HY4 HC4 HV4 HW4 HS4 HZ10 HY10 HC10 HP10 HQ10 HV10
          obtain ⟨M, hmax, hMa, hMb, hMc⟩ : ∃ M : Nat, max (la.length : Int) (lb.length : Int) = (M : Int) ∧ la.length ≤ M ∧ lb.length ≤ M ∧ M ≤ 100 := ⟨max la.length lb.length, by omega, by omega, by omega, by omega⟩
          have HMA := Lib.hid hMa
          have HMB := Lib.hid hMb
          clear hMa hMb
          go_wp2_with fail
          clear hmax
          go_loopw [56] (fun i wl => ∃ (n : Nat) (cp cq du dt : Array Value) (A B : Rw), n ≤ M ∧ i = .int .i64 n ∧ (wl.heap[P]? = some (.cells cp 27 (0, 0)) ∧ wl.heap[Q]? = some (.cells cq 27 (0, 0)) ∧ wl.heap[U]? = some (.cells du 31 (0, 0)) ∧ wl.heap[T]? = some (.cells dt 31 (0, 0)) ∧ wl.heap[X]? = some (.cells c 27 (0, 0)) ∧ wl.heap[X + 1]? = some (.cells d 31 (0, 0))) ∧ (At wl A cp ∧ At wl B cq ∧ At wl R c) ∧ RC A du ∧ RC B dt ∧ Below X V wl) (fun i _ => M - (intOf i).toNat)
          case atStart => exact ⟨0, _, _, _, _, R, R, Nat.zero_le _, rfl, ⟨HP11.out, HQ11.out, HU11.out, HT11.out, HZ11.out, HY11.out⟩, ⟨HC11.out, HC11.out, HC11.out⟩, HD.out, HD.out, HV11.out⟩
          case round =>
            clear HP11 HQ11 HU11 HT11 HZ11 HY11 HC11 HV11
            obtain ⟨n, cp, cq, du, dt, A, B, hn, rfl, ⟨hp, hq, hu, ht, hz, hy⟩, ⟨hcp, hcq, hc⟩, hdu, hdt, hbl⟩ := hrel
            have HP20 := Lib.hid hp
            have HQ20 := Lib.hid hq
            have HU20 := Lib.hid hu
            have HT20 := Lib.hid ht
            have HZ20 := Lib.hid hz
            have HY20 := Lib.hid hy
            have HA20 := Lib.hid hcp
            have HB20 := Lib.hid hcq
            have HC20 := Lib.hid hc
            have HDA := Lib.hid hdu
            have HDB := Lib.hid hdt
            have HV20 := Lib.hid hbl
            have HW20 : Hid (Below w.heap.size w wr) := HWV.out.trans (hbl.mono HX1.out)
            clear hp hq hu ht hz hy hcp hcq hc hdu hdt hbl
            by_cases hM : n < M
            case neg =>
              as_aux_lemma =>
              obtain rfl : n = M := by omega
              go_wp2_with (first
                | (refine ld_if rfl 27 _ rfl (P) rfl 27 _ _ _ HP20.out Tryd.underlying27 rfl (by rw [S.size HA20.out]; exact srow_info) ?_)
                | (refine ld_if rfl 31 _ rfl (U) rfl 31 _ _ _ HU20.out Tryd.underlying31 rfl (by rw [HDA.out.size]; exact row_info) ?_)
                | (go_at_call 14; with_reducible refine (same_walk S A cp du _ HA20.out HDA.out (S.tab hT HW20.out)).mono ?_; rintro e w21 ⟨rfl, hb⟩; have HP21 := Lib.hid ((hb.block _ (Array.getElem?_eq_some_iff.1 HP20.out).1).trans HP20.out); have HQ21 := Lib.hid ((hb.block _ (Array.getElem?_eq_some_iff.1 HQ20.out).1).trans HQ20.out); have HU21 := Lib.hid ((hb.block _ (Array.getElem?_eq_some_iff.1 HU20.out).1).trans HU20.out); have HT21 := Lib.hid ((hb.block _ (Array.getElem?_eq_some_iff.1 HT20.out).1).trans HT20.out); have HZ21 := Lib.hid ((hb.block _ (Array.getElem?_eq_some_iff.1 HZ20.out).1).trans HZ20.out); have HY21 := Lib.hid ((hb.block _ (Array.getElem?_eq_some_iff.1 HY20.out).1).trans HY20.out); have HA21 := Lib.hid (S.later HA20.out hb); have HB21 := Lib.hid (S.later HB20.out hb); have HC21 := Lib.hid (S.later HC20.out hb); have HW21 := Lib.hid (HW20.out.trans (hb.mono HW20.out.size)); clear hb)
                | (refine ld_if rfl 27 _ rfl (Q) rfl 27 _ _ _ HQ21.out Tryd.underlying27 rfl (by rw [S.size HB21.out]; exact srow_info) ?_)
                | (refine ld_if rfl 31 _ rfl (T) rfl 31 _ _ _ HT21.out Tryd.underlying31 rfl (by rw [HDB.out.size]; exact row_info) ?_)
                | (go_at_call 14; with_reducible refine (same_walk S B cq dt _ HB21.out HDB.out (S.tab hT HW21.out)).mono ?_; rintro e w22 ⟨rfl, hb⟩; have HP22 := Lib.hid ((hb.block _ (Array.getElem?_eq_some_iff.1 HP21.out).1).trans HP21.out); have HQ22 := Lib.hid ((hb.block _ (Array.getElem?_eq_some_iff.1 HQ21.out).1).trans HQ21.out); have HU22 := Lib.hid ((hb.block _ (Array.getElem?_eq_some_iff.1 HU21.out).1).trans HU21.out); have HT22 := Lib.hid ((hb.block _ (Array.getElem?_eq_some_iff.1 HT21.out).1).trans HT21.out); have HZ22 := Lib.hid ((hb.block _ (Array.getElem?_eq_some_iff.1 HZ21.out).1).trans HZ21.out); have HY22 := Lib.hid ((hb.block _ (Array.getElem?_eq_some_iff.1 HY21.out).1).trans HY21.out); have HA22 := Lib.hid (S.later HA21.out hb); have HB22 := Lib.hid (S.later HB21.out hb); have HC22 := Lib.hid (S.later HC21.out hb); have HW22 := Lib.hid (HW21.out.trans (hb.mono HW21.out.size)); clear hb)
                | (refine ld_if rfl 27 _ rfl (X) rfl 27 _ _ _ HZ22.out Tryd.underlying27 rfl (by rw [S.size HC22.out]; exact srow_info) ?_)
                | (refine ld_if rfl 31 _ rfl ((X + 1)) rfl 31 _ _ _ HY22.out Tryd.underlying31 rfl (by rw [HD.out.size]; exact row_info) ?_)
                | (go_at_call 14; with_reducible refine (same_walk S R c d _ HC22.out HD.out (S.tab hT HW22.out)).mono ?_; rintro e w23 ⟨rfl, hb⟩; have HP23 := Lib.hid ((hb.block _ (Array.getElem?_eq_some_iff.1 HP22.out).1).trans HP22.out); have HQ23 := Lib.hid ((hb.block _ (Array.getElem?_eq_some_iff.1 HQ22.out).1).trans HQ22.out); have HU23 := Lib.hid ((hb.block _ (Array.getElem?_eq_some_iff.1 HU22.out).1).trans HU22.out); have HT23 := Lib.hid ((hb.block _ (Array.getElem?_eq_some_iff.1 HT22.out).1).trans HT22.out); have HZ23 := Lib.hid ((hb.block _ (Array.getElem?_eq_some_iff.1 HZ22.out).1).trans HZ22.out); have HY23 := Lib.hid ((hb.block _ (Array.getElem?_eq_some_iff.1 HY22.out).1).trans HY22.out); have HA23 := Lib.hid (S.later HA22.out hb); have HB23 := Lib.hid (S.later HB22.out hb); have HC23 := Lib.hid (S.later HC22.out hb); have HW23 := Lib.hid (HW22.out.trans (hb.mono HW22.out.size)); clear hb))
              go_ret
              exact ⟨rfl, HW23.out⟩
            have i0 : (0 : Int) ≤ (n : Int) := by omega
            have hM' : (n : Int) < (M : Int) := by omega
            by_cases hlta : n < la.length
            · have ta : (n : Int) < (la.length : Int) := by omega
              by_cases hltb : n < lb.length
              · as_aux_lemma =>
                have tb : (n : Int) < (lb.length : Int) := by omega
                have had : ada = some ⟨bba, ooa, none⟩ := HLOa.out (by omega)
                subst had
                have HIa := Lib.hid (HLIa.out la[n] (List.getElem_mem hlta))
                have HW20' : Hid (Below w.heap.size w wr) := HWV.out.trans (HV20.out.mono HX1.out)
                have HR20 := Lib.hid ((HLCa.out n hlta).later HW20'.out)
                obtain ⟨xa, hx⟩ : ∃ x, x = la[n] := ⟨_, rfl⟩
                rw [← hx] at HR20 HIa
                clear hx
                go_upto_region 16 with fail
                have hb := drawn_below wr
                have HP21 := Lib.hid ((hb.block _ (Array.getElem?_eq_some_iff.1 HP20.out).1).trans HP20.out)
                have HQ21 := Lib.hid ((hb.block _ (Array.getElem?_eq_some_iff.1 HQ20.out).1).trans HQ20.out)
                have HU21 := Lib.hid ((hb.block _ (Array.getElem?_eq_some_iff.1 HU20.out).1).trans HU20.out)
                have HT21 := Lib.hid ((hb.block _ (Array.getElem?_eq_some_iff.1 HT20.out).1).trans HT20.out)
                have HZ21 := Lib.hid ((hb.block _ (Array.getElem?_eq_some_iff.1 HZ20.out).1).trans HZ20.out)
                have HY21 := Lib.hid ((hb.block _ (Array.getElem?_eq_some_iff.1 HY20.out).1).trans HY20.out)
                have HA21 := Lib.hid (S.later HA20.out hb)
                have HB21 := Lib.hid (S.later HB20.out hb)
                have HC21 := Lib.hid (S.later HC20.out hb)
                have HV21 := Lib.hid (HV20.out.trans (hb.mono (Nat.le_trans (Nat.le_of_lt HXV.out) HV20.out.size)))
                have HR21 := Lib.hid (HR20.out.later hb)
                clear hb
                refine wp_region_T (S := fun W => W.heap[P]? = some (.cells cp 27 (0, 0)) ∧ W.heap[U]? = some (.cells du 31 (0, 0)) ∧ OpIn W bba (ooa + n * 3) xa) [12, 13] (by kernel_rfl) (by first | exact ⟨HP21.out, HU21.out, HR21.out⟩ | exact ⟨HP22.out, HU22.out, HR22.out⟩ | exact ⟨HP23.out, HU23.out, HR23.out⟩) (fun hHeld => ?_)
                refine wpAnyT_take (i := 1) (oi := ⟨some 64, _, _, _, _, _⟩) (v := ?vg4_1) rfl (by kernel_rfl) (by kernel_rfl) (by kernel_rfl) (by kernel_rfl) (fun _ _ _ h => h) (Or.inl ⟨by rfl, ?hg4_1⟩) (by assumption) ?rg4_1
                case hg4_1 => (intro w hSw; (try dsimp only at hSw); first | (go_simp; done) | (go_simp; with_reducible rfl))
                (try simp only [Act.put, List.setIfInBounds_toArray, List.set_cons_zero, List.set_cons_succ])
                refine wpAnyT_take (i := 2) (oi := ⟨some 65, _, _, _, _, _⟩) (v := ?vg4_2) rfl (by kernel_rfl) (by kernel_rfl) (by kernel_rfl) (by kernel_rfl) (fun _ _ _ h => h) (Or.inl ⟨by rfl, ?hg4_2⟩) (by assumption) ?rg4_2
                case hg4_2 => (intro w hSw; (try dsimp only at hSw); first | (go_simp; done) | (go_simp; with_reducible rfl))
                (try simp only [Act.put, List.setIfInBounds_toArray, List.set_cons_zero, List.set_cons_succ])
                refine wpAnyT_take (i := 3) (oi := ⟨some 66, _, _, _, _, _⟩) (v := ?vg4_3) rfl (by kernel_rfl) (by kernel_rfl) (by kernel_rfl) (by kernel_rfl) (fun _ _ _ h => h) (Or.inl ⟨by rfl, ?hg4_3⟩) (by assumption) ?rg4_3
                case hg4_3 => (intro w hSw; (try dsimp only at hSw); first | (go_simp; done) | (go_simp; with_reducible rfl))
                (try simp only [Act.put, List.setIfInBounds_toArray, List.set_cons_zero, List.set_cons_succ])
                refine wpAnyT_take (i := 7) (oi := ⟨some 70, _, _, _, _, _⟩) (v := ?vg4_7) rfl (by kernel_rfl) (by kernel_rfl) (by kernel_rfl) (by kernel_rfl) (fun _ _ _ h => h) (Or.inl ⟨by rfl, ?hg4_7⟩) (by assumption) ?rg4_7
                case hg4_7 => (intro w hSw; (try dsimp only at hSw); first | (go_simp; done) | (go_simp; with_reducible rfl))
                (try simp only [Act.put, List.setIfInBounds_toArray, List.set_cons_zero, List.set_cons_succ])
                refine wpAnyT_take (i := 8) (oi := ⟨some 71, _, _, _, _, _⟩) (v := ?vg4_8) rfl (by kernel_rfl) (by kernel_rfl) (by kernel_rfl) (by kernel_rfl) (fun _ _ _ h => h) (Or.inl ⟨by rfl, ?hg4_8⟩) (by assumption) ?rg4_8
                case hg4_8 => (intro w hSw; (try dsimp only at hSw); first | (go_simp; done) | (go_simp; with_reducible rfl))
                (try simp only [Act.put, List.setIfInBounds_toArray, List.set_cons_zero, List.set_cons_succ])
                refine wpAnyT_take (i := 9) (oi := ⟨some 72, _, _, _, _, _⟩) (v := ?vg4_9) rfl (by kernel_rfl) (by kernel_rfl) (by kernel_rfl) (by kernel_rfl) (fun _ _ _ h => h) (Or.inl ⟨by rfl, ?hg4_9⟩) (by assumption) ?rg4_9
                case hg4_9 => (intro w hSw; (try dsimp only at hSw); first | (go_simp; done) | (go_simp; with_reducible rfl))
                (try simp only [Act.put, List.setIfInBounds_toArray, List.set_cons_zero, List.set_cons_succ])
                refine wpAnyT_take (i := 0) (oi := ⟨some 63, _, _, _, _, _⟩) (v := _) rfl (by kernel_rfl) (by kernel_rfl) (by kernel_rfl) (by kernel_rfl) (fun _ _ _ h => h) (yieldsIf_load_row (by rfl) 27 _ rfl P rfl cp 27 (0, 0) _ (fun w hw => hw.1) Tryd.underlying27 rfl (by rw [S.size HA21.out]; exact srow_info)) (by assumption) ?_
                (try simp only [Act.put, List.setIfInBounds_toArray, List.set_cons_zero, List.set_cons_succ])
                refine wpAnyT_take (i := 4) (oi := ⟨some 67, _, _, _, _, _⟩) (v := _) rfl (by kernel_rfl) (by kernel_rfl) (by kernel_rfl) (by kernel_rfl) (fun _ _ _ h => h) (yieldsIf_op (by rfl) _ rfl bba (ooa + n * 3) rfl xa (fun w hw => hw.2.2)) (by assumption) ?_
                (try simp only [Act.put, List.setIfInBounds_toArray, List.set_cons_zero, List.set_cons_succ])
                refine wpAnyT_take (i := 6) (oi := ⟨some 69, _, _, _, _, _⟩) (v := _) rfl (by kernel_rfl) (by kernel_rfl) (by kernel_rfl) (by kernel_rfl) (fun _ _ _ h => h) (yieldsIf_load_row (by rfl) 31 _ rfl U rfl du 31 (0, 0) _ (fun w hw => hw.2.1) Tryd.underlying31 rfl (by rw [HDA.out.size]; exact row_info)) (by assumption) ?_
                (try simp only [Act.put, List.setIfInBounds_toArray, List.set_cons_zero, List.set_cons_succ])
                refine wpAnyT_take (i := 10) (oi := ⟨some 73, _, _, _, _, _⟩) (v := _) rfl (by kernel_rfl) (by kernel_rfl) (by kernel_rfl) (by kernel_rfl) (fun _ _ _ h => h) (yieldsIf_op (by rfl) _ rfl bba (ooa + n * 3) rfl xa (fun w hw => hw.2.2)) (by assumption) ?_
                (try simp only [Act.put, List.setIfInBounds_toArray, List.set_cons_zero, List.set_cons_succ])
                refine wpAnyT_one (i := 5) (o := ⟨some 68, _, _, _, _, _⟩) (by kernel_rfl) rfl (fun K hK => ?_)
                go_simp
                go_at_call 10
                refine (does_walk S A cp xa HIa.out.1 HIa.out.2 _ HA21.out).mono ?_
                rintro e w22 ⟨cp', rfl, hc', hb⟩
                have HN22 := Lib.hid hc'
                clear hc'
                have HP22 := Lib.hid ((hb.block _ (Array.getElem?_eq_some_iff.1 HP21.out).1).trans HP21.out)
                have HQ22 := Lib.hid ((hb.block _ (Array.getElem?_eq_some_iff.1 HQ21.out).1).trans HQ21.out)
                have HU22 := Lib.hid ((hb.block _ (Array.getElem?_eq_some_iff.1 HU21.out).1).trans HU21.out)
                have HT22 := Lib.hid ((hb.block _ (Array.getElem?_eq_some_iff.1 HT21.out).1).trans HT21.out)
                have HZ22 := Lib.hid ((hb.block _ (Array.getElem?_eq_some_iff.1 HZ21.out).1).trans HZ21.out)
                have HY22 := Lib.hid ((hb.block _ (Array.getElem?_eq_some_iff.1 HY21.out).1).trans HY21.out)
                have HA22 := Lib.hid (S.later HA21.out hb)
                have HB22 := Lib.hid (S.later HB21.out hb)
                have HC22 := Lib.hid (S.later HC21.out hb)
                have HV22 := Lib.hid (HV21.out.trans (hb.mono (Nat.le_trans (Nat.le_of_lt HXV.out) HV21.out.size)))
                have HR22 := Lib.hid (HR21.out.later hb)
                clear hb
                (try go_wp2_with fail)
                refine hK.out _ _ (by first | exact ⟨HP21.out, HU21.out, HR21.out⟩ | exact ⟨HP22.out, HU22.out, HR22.out⟩ | exact ⟨HP23.out, HU23.out, HR23.out⟩) (fun hHeld => ?_)
                clear hK K
                (try simp only [Act.put, List.setIfInBounds_toArray, List.set_cons_zero, List.set_cons_succ])
                refine wpAnyT_one (i := 11) (o := ⟨some 74, _, _, _, _, _⟩) (by kernel_rfl) rfl (fun K hK => ?_)
                go_simp
                go_at_call 11
                refine (should_walk A du xa _ HDA.out).mono ?_
                rintro e w23 ⟨du', rfl, hd', hb⟩
                have HE2 := Lib.hid hd'
                clear hd'
                have HP23 := Lib.hid ((hb.block _ (Array.getElem?_eq_some_iff.1 HP22.out).1).trans HP22.out)
                have HQ23 := Lib.hid ((hb.block _ (Array.getElem?_eq_some_iff.1 HQ22.out).1).trans HQ22.out)
                have HU23 := Lib.hid ((hb.block _ (Array.getElem?_eq_some_iff.1 HU22.out).1).trans HU22.out)
                have HT23 := Lib.hid ((hb.block _ (Array.getElem?_eq_some_iff.1 HT22.out).1).trans HT22.out)
                have HZ23 := Lib.hid ((hb.block _ (Array.getElem?_eq_some_iff.1 HZ22.out).1).trans HZ22.out)
                have HY23 := Lib.hid ((hb.block _ (Array.getElem?_eq_some_iff.1 HY22.out).1).trans HY22.out)
                have HA23 := Lib.hid (S.later HA22.out hb)
                have HB23 := Lib.hid (S.later HB22.out hb)
                have HC23 := Lib.hid (S.later HC22.out hb)
                have HV23 := Lib.hid (HV22.out.trans (hb.mono (Nat.le_trans (Nat.le_of_lt HXV.out) HV22.out.size)))
                have HR23 := Lib.hid (HR22.out.later hb)
                have HN23 := Lib.hid (S.later HN22.out hb)
                clear hb
                (try go_wp2_with fail)
                refine hK.out _ _ (by first | exact ⟨HP21.out, HU21.out, HR21.out⟩ | exact ⟨HP22.out, HU22.out, HR22.out⟩ | exact ⟨HP23.out, HU23.out, HR23.out⟩) (fun hHeld => ?_)
                clear hK K
                (try simp only [Act.put, List.setIfInBounds_toArray, List.set_cons_zero, List.set_cons_succ])
                refine wpAnyT_last (i := 12) (o := ⟨none, _, _, _, _, _⟩) (by kernel_rfl) (by decide) rfl (fun K hK => ?_)
                rw [if_pos (by rfl)]
                refine st_agg_wp 27 _ _ rfl (P) cp' rfl rfl 27 cp HP23.out (by rw [S.size HN23.out]; exact srow_info) (by rw [S.size HA23.out, S.size HN23.out]) (S.one HN23.out) ?_
                intro w24 h k
                have HP24 := Lib.hid h
                have HU24 := Lib.hid (k.other HU23.out (by have := HNE.out; omega))
                have HN24 := Lib.hid (S.but HN23.out k HP23.out (by decide))
                have HQ24 := Lib.hid (k.other HQ23.out (by have := HNE.out; omega))
                have HT24 := Lib.hid (k.other HT23.out (by have := HNE.out; omega))
                have HZ24 := Lib.hid (k.other HZ23.out (by have := HNE.out; omega))
                have HY24 := Lib.hid (k.other HY23.out (by have := HNE.out; omega))
                have HB24 := Lib.hid (S.but HB23.out k HP23.out (by decide))
                have HC24 := Lib.hid (S.but HC23.out k HP23.out (by decide))
                have HV24 := Lib.hid (HV23.out.trans (k.below (by have := HNE.out; omega)))
                clear h k
                refine hK.out _ _ ?_
                clear hK K
                (try simp only [Act.put, List.setIfInBounds_toArray, List.set_cons_zero, List.set_cons_succ])
                refine wpAnyT_last (i := 13) (o := ⟨none, _, _, _, _, _⟩) (by kernel_rfl) (by decide) rfl (fun K hK => ?_)
                rw [if_pos (by rfl)]
                refine st_agg_wp 31 _ _ rfl (U) du' rfl rfl 31 du HU24.out (by rw [HE2.out.size]; exact row_info) (by rw [HDA.out.size, HE2.out.size]) HE2.out.one ?_
                intro w25 h k
                have HU25 := Lib.hid h
                have HP25 := Lib.hid (k.other HP24.out (by have := HNE.out; omega))
                have HA25 := Lib.hid (S.but HN24.out k HU24.out (by decide))
                have HQ25 := Lib.hid (k.other HQ24.out (by have := HNE.out; omega))
                have HT25 := Lib.hid (k.other HT24.out (by have := HNE.out; omega))
                have HZ25 := Lib.hid (k.other HZ24.out (by have := HNE.out; omega))
                have HY25 := Lib.hid (k.other HY24.out (by have := HNE.out; omega))
                have HB25 := Lib.hid (S.but HB24.out k HU24.out (by decide))
                have HC25 := Lib.hid (S.but HC24.out k HU24.out (by decide))
                have HV25 := Lib.hid (HV24.out.trans (k.below (by have := HNE.out; omega)))
                clear h k
                refine hK.out _ _ ?_
                clear hK K
                (try simp only [Act.put, List.setIfInBounds_toArray, List.set_cons_zero, List.set_cons_succ])
                refine wpAnyT_done (by kernel_rfl) ?_ _
                have HEA := HE2
                clear HE2
                have had : adb = some ⟨bbb, oob, none⟩ := HLOb.out (by omega)
                subst had
                have HIb := Lib.hid (HLIb.out lb[n] (List.getElem_mem hltb))
                have HW25' : Hid (Below w.heap.size w w25) := HWV.out.trans (HV25.out.mono HX1.out)
                have HR25 := Lib.hid ((HLCb.out n hltb).later HW25'.out)
                obtain ⟨xb, hx⟩ : ∃ x, x = lb[n] := ⟨_, rfl⟩
                rw [← hx] at HR25 HIb
                clear hx
                go_upto_region 18 with fail
                have hb := drawn_below w25
                have HP26 := Lib.hid ((hb.block _ (Array.getElem?_eq_some_iff.1 HP25.out).1).trans HP25.out)
                have HQ26 := Lib.hid ((hb.block _ (Array.getElem?_eq_some_iff.1 HQ25.out).1).trans HQ25.out)
                have HU26 := Lib.hid ((hb.block _ (Array.getElem?_eq_some_iff.1 HU25.out).1).trans HU25.out)
                have HT26 := Lib.hid ((hb.block _ (Array.getElem?_eq_some_iff.1 HT25.out).1).trans HT25.out)
                have HZ26 := Lib.hid ((hb.block _ (Array.getElem?_eq_some_iff.1 HZ25.out).1).trans HZ25.out)
                have HY26 := Lib.hid ((hb.block _ (Array.getElem?_eq_some_iff.1 HY25.out).1).trans HY25.out)
                have HA26 := Lib.hid (S.later HA25.out hb)
                have HB26 := Lib.hid (S.later HB25.out hb)
                have HC26 := Lib.hid (S.later HC25.out hb)
                have HV26 := Lib.hid (HV25.out.trans (hb.mono (Nat.le_trans (Nat.le_of_lt HXV.out) HV25.out.size)))
                have HR26 := Lib.hid (HR25.out.later hb)
                clear hb
                refine wp_region_T (S := fun W => W.heap[Q]? = some (.cells cq 27 (0, 0)) ∧ W.heap[T]? = some (.cells dt 31 (0, 0)) ∧ OpIn W bbb (oob + n * 3) xb) [12, 13] (by kernel_rfl) (by first | exact ⟨HQ26.out, HT26.out, HR26.out⟩ | exact ⟨HQ27.out, HT27.out, HR27.out⟩ | exact ⟨HQ28.out, HT28.out, HR28.out⟩) (fun hHeld => ?_)
                refine wpAnyT_take (i := 1) (oi := ⟨some 80, _, _, _, _, _⟩) (v := ?vg5_1) rfl (by kernel_rfl) (by kernel_rfl) (by kernel_rfl) (by kernel_rfl) (fun _ _ _ h => h) (Or.inl ⟨by rfl, ?hg5_1⟩) (by assumption) ?rg5_1
                case hg5_1 => (intro w hSw; (try dsimp only at hSw); first | (go_simp; done) | (go_simp; with_reducible rfl))
                (try simp only [Act.put, List.setIfInBounds_toArray, List.set_cons_zero, List.set_cons_succ])
                refine wpAnyT_take (i := 2) (oi := ⟨some 81, _, _, _, _, _⟩) (v := ?vg5_2) rfl (by kernel_rfl) (by kernel_rfl) (by kernel_rfl) (by kernel_rfl) (fun _ _ _ h => h) (Or.inl ⟨by rfl, ?hg5_2⟩) (by assumption) ?rg5_2
                case hg5_2 => (intro w hSw; (try dsimp only at hSw); first | (go_simp; done) | (go_simp; with_reducible rfl))
                (try simp only [Act.put, List.setIfInBounds_toArray, List.set_cons_zero, List.set_cons_succ])
                refine wpAnyT_take (i := 3) (oi := ⟨some 82, _, _, _, _, _⟩) (v := ?vg5_3) rfl (by kernel_rfl) (by kernel_rfl) (by kernel_rfl) (by kernel_rfl) (fun _ _ _ h => h) (Or.inl ⟨by rfl, ?hg5_3⟩) (by assumption) ?rg5_3
                case hg5_3 => (intro w hSw; (try dsimp only at hSw); first | (go_simp; done) | (go_simp; with_reducible rfl))
                (try simp only [Act.put, List.setIfInBounds_toArray, List.set_cons_zero, List.set_cons_succ])
                refine wpAnyT_take (i := 7) (oi := ⟨some 86, _, _, _, _, _⟩) (v := ?vg5_7) rfl (by kernel_rfl) (by kernel_rfl) (by kernel_rfl) (by kernel_rfl) (fun _ _ _ h => h) (Or.inl ⟨by rfl, ?hg5_7⟩) (by assumption) ?rg5_7
                case hg5_7 => (intro w hSw; (try dsimp only at hSw); first | (go_simp; done) | (go_simp; with_reducible rfl))
                (try simp only [Act.put, List.setIfInBounds_toArray, List.set_cons_zero, List.set_cons_succ])
                refine wpAnyT_take (i := 8) (oi := ⟨some 87, _, _, _, _, _⟩) (v := ?vg5_8) rfl (by kernel_rfl) (by kernel_rfl) (by kernel_rfl) (by kernel_rfl) (fun _ _ _ h => h) (Or.inl ⟨by rfl, ?hg5_8⟩) (by assumption) ?rg5_8
                case hg5_8 => (intro w hSw; (try dsimp only at hSw); first | (go_simp; done) | (go_simp; with_reducible rfl))
                (try simp only [Act.put, List.setIfInBounds_toArray, List.set_cons_zero, List.set_cons_succ])
                refine wpAnyT_take (i := 9) (oi := ⟨some 88, _, _, _, _, _⟩) (v := ?vg5_9) rfl (by kernel_rfl) (by kernel_rfl) (by kernel_rfl) (by kernel_rfl) (fun _ _ _ h => h) (Or.inl ⟨by rfl, ?hg5_9⟩) (by assumption) ?rg5_9
                case hg5_9 => (intro w hSw; (try dsimp only at hSw); first | (go_simp; done) | (go_simp; with_reducible rfl))
                (try simp only [Act.put, List.setIfInBounds_toArray, List.set_cons_zero, List.set_cons_succ])
                refine wpAnyT_take (i := 0) (oi := ⟨some 79, _, _, _, _, _⟩) (v := _) rfl (by kernel_rfl) (by kernel_rfl) (by kernel_rfl) (by kernel_rfl) (fun _ _ _ h => h) (yieldsIf_load_row (by rfl) 27 _ rfl Q rfl cq 27 (0, 0) _ (fun w hw => hw.1) Tryd.underlying27 rfl (by rw [S.size HB26.out]; exact srow_info)) (by assumption) ?_
                (try simp only [Act.put, List.setIfInBounds_toArray, List.set_cons_zero, List.set_cons_succ])
                refine wpAnyT_take (i := 4) (oi := ⟨some 83, _, _, _, _, _⟩) (v := _) rfl (by kernel_rfl) (by kernel_rfl) (by kernel_rfl) (by kernel_rfl) (fun _ _ _ h => h) (yieldsIf_op (by rfl) _ rfl bbb (oob + n * 3) rfl xb (fun w hw => hw.2.2)) (by assumption) ?_
                (try simp only [Act.put, List.setIfInBounds_toArray, List.set_cons_zero, List.set_cons_succ])
                refine wpAnyT_take (i := 6) (oi := ⟨some 85, _, _, _, _, _⟩) (v := _) rfl (by kernel_rfl) (by kernel_rfl) (by kernel_rfl) (by kernel_rfl) (fun _ _ _ h => h) (yieldsIf_load_row (by rfl) 31 _ rfl T rfl dt 31 (0, 0) _ (fun w hw => hw.2.1) Tryd.underlying31 rfl (by rw [HDB.out.size]; exact row_info)) (by assumption) ?_
                (try simp only [Act.put, List.setIfInBounds_toArray, List.set_cons_zero, List.set_cons_succ])
                refine wpAnyT_take (i := 10) (oi := ⟨some 89, _, _, _, _, _⟩) (v := _) rfl (by kernel_rfl) (by kernel_rfl) (by kernel_rfl) (by kernel_rfl) (fun _ _ _ h => h) (yieldsIf_op (by rfl) _ rfl bbb (oob + n * 3) rfl xb (fun w hw => hw.2.2)) (by assumption) ?_
                (try simp only [Act.put, List.setIfInBounds_toArray, List.set_cons_zero, List.set_cons_succ])
                refine wpAnyT_one (i := 5) (o := ⟨some 84, _, _, _, _, _⟩) (by kernel_rfl) rfl (fun K hK => ?_)
                go_simp
                go_at_call 10
                refine (does_walk S B cq xb HIb.out.1 HIb.out.2 _ HB26.out).mono ?_
                rintro e w27 ⟨cq', rfl, hc', hb⟩
                have HN27 := Lib.hid hc'
                clear hc'
                have HP27 := Lib.hid ((hb.block _ (Array.getElem?_eq_some_iff.1 HP26.out).1).trans HP26.out)
                have HQ27 := Lib.hid ((hb.block _ (Array.getElem?_eq_some_iff.1 HQ26.out).1).trans HQ26.out)
                have HU27 := Lib.hid ((hb.block _ (Array.getElem?_eq_some_iff.1 HU26.out).1).trans HU26.out)
                have HT27 := Lib.hid ((hb.block _ (Array.getElem?_eq_some_iff.1 HT26.out).1).trans HT26.out)
                have HZ27 := Lib.hid ((hb.block _ (Array.getElem?_eq_some_iff.1 HZ26.out).1).trans HZ26.out)
                have HY27 := Lib.hid ((hb.block _ (Array.getElem?_eq_some_iff.1 HY26.out).1).trans HY26.out)
                have HA27 := Lib.hid (S.later HA26.out hb)
                have HB27 := Lib.hid (S.later HB26.out hb)
                have HC27 := Lib.hid (S.later HC26.out hb)
                have HV27 := Lib.hid (HV26.out.trans (hb.mono (Nat.le_trans (Nat.le_of_lt HXV.out) HV26.out.size)))
                have HR27 := Lib.hid (HR26.out.later hb)
                clear hb
                (try go_wp2_with fail)
                refine hK.out _ _ (by first | exact ⟨HQ26.out, HT26.out, HR26.out⟩ | exact ⟨HQ27.out, HT27.out, HR27.out⟩ | exact ⟨HQ28.out, HT28.out, HR28.out⟩) (fun hHeld => ?_)
                clear hK K
                (try simp only [Act.put, List.setIfInBounds_toArray, List.set_cons_zero, List.set_cons_succ])
                refine wpAnyT_one (i := 11) (o := ⟨some 90, _, _, _, _, _⟩) (by kernel_rfl) rfl (fun K hK => ?_)
                go_simp
                go_at_call 11
                refine (should_walk B dt xb _ HDB.out).mono ?_
                rintro e w28 ⟨dt', rfl, hd', hb⟩
                have HE2 := Lib.hid hd'
                clear hd'
                have HP28 := Lib.hid ((hb.block _ (Array.getElem?_eq_some_iff.1 HP27.out).1).trans HP27.out)
                have HQ28 := Lib.hid ((hb.block _ (Array.getElem?_eq_some_iff.1 HQ27.out).1).trans HQ27.out)
                have HU28 := Lib.hid ((hb.block _ (Array.getElem?_eq_some_iff.1 HU27.out).1).trans HU27.out)
                have HT28 := Lib.hid ((hb.block _ (Array.getElem?_eq_some_iff.1 HT27.out).1).trans HT27.out)
                have HZ28 := Lib.hid ((hb.block _ (Array.getElem?_eq_some_iff.1 HZ27.out).1).trans HZ27.out)
                have HY28 := Lib.hid ((hb.block _ (Array.getElem?_eq_some_iff.1 HY27.out).1).trans HY27.out)
                have HA28 := Lib.hid (S.later HA27.out hb)
                have HB28 := Lib.hid (S.later HB27.out hb)
                have HC28 := Lib.hid (S.later HC27.out hb)
                have HV28 := Lib.hid (HV27.out.trans (hb.mono (Nat.le_trans (Nat.le_of_lt HXV.out) HV27.out.size)))
                have HR28 := Lib.hid (HR27.out.later hb)
                have HN28 := Lib.hid (S.later HN27.out hb)
                clear hb
                (try go_wp2_with fail)
                refine hK.out _ _ (by first | exact ⟨HQ26.out, HT26.out, HR26.out⟩ | exact ⟨HQ27.out, HT27.out, HR27.out⟩ | exact ⟨HQ28.out, HT28.out, HR28.out⟩) (fun hHeld => ?_)
                clear hK K
                (try simp only [Act.put, List.setIfInBounds_toArray, List.set_cons_zero, List.set_cons_succ])
                refine wpAnyT_last (i := 12) (o := ⟨none, _, _, _, _, _⟩) (by kernel_rfl) (by decide) rfl (fun K hK => ?_)
                rw [if_pos (by rfl)]
                refine st_agg_wp 27 _ _ rfl (Q) cq' rfl rfl 27 cq HQ28.out (by rw [S.size HN28.out]; exact srow_info) (by rw [S.size HB28.out, S.size HN28.out]) (S.one HN28.out) ?_
                intro w29 h k
                have HQ29 := Lib.hid h
                have HT29 := Lib.hid (k.other HT28.out (by have := HNE.out; omega))
                have HN29 := Lib.hid (S.but HN28.out k HQ28.out (by decide))
                have HP29 := Lib.hid (k.other HP28.out (by have := HNE.out; omega))
                have HU29 := Lib.hid (k.other HU28.out (by have := HNE.out; omega))
                have HZ29 := Lib.hid (k.other HZ28.out (by have := HNE.out; omega))
                have HY29 := Lib.hid (k.other HY28.out (by have := HNE.out; omega))
                have HA29 := Lib.hid (S.but HA28.out k HQ28.out (by decide))
                have HC29 := Lib.hid (S.but HC28.out k HQ28.out (by decide))
                have HV29 := Lib.hid (HV28.out.trans (k.below (by have := HNE.out; omega)))
                clear h k
                refine hK.out _ _ ?_
                clear hK K
                (try simp only [Act.put, List.setIfInBounds_toArray, List.set_cons_zero, List.set_cons_succ])
                refine wpAnyT_last (i := 13) (o := ⟨none, _, _, _, _, _⟩) (by kernel_rfl) (by decide) rfl (fun K hK => ?_)
                rw [if_pos (by rfl)]
                refine st_agg_wp 31 _ _ rfl (T) dt' rfl rfl 31 dt HT29.out (by rw [HE2.out.size]; exact row_info) (by rw [HDB.out.size, HE2.out.size]) HE2.out.one ?_
                intro w30 h k
                have HT30 := Lib.hid h
                have HQ30 := Lib.hid (k.other HQ29.out (by have := HNE.out; omega))
                have HB30 := Lib.hid (S.but HN29.out k HT29.out (by decide))
                have HP30 := Lib.hid (k.other HP29.out (by have := HNE.out; omega))
                have HU30 := Lib.hid (k.other HU29.out (by have := HNE.out; omega))
                have HZ30 := Lib.hid (k.other HZ29.out (by have := HNE.out; omega))
                have HY30 := Lib.hid (k.other HY29.out (by have := HNE.out; omega))
                have HA30 := Lib.hid (S.but HA29.out k HT29.out (by decide))
                have HC30 := Lib.hid (S.but HC29.out k HT29.out (by decide))
                have HV30 := Lib.hid (HV29.out.trans (k.below (by have := HNE.out; omega)))
                clear h k
                refine hK.out _ _ ?_
                clear hK K
                (try simp only [Act.put, List.setIfInBounds_toArray, List.set_cons_zero, List.set_cons_succ])
                refine wpAnyT_done (by kernel_rfl) ?_ _
                have HEB := HE2
                clear HE2
                go_wp2_with fail
                case roundEnd => exact ⟨⟨n + 1, cp', cq', du', dt', doR A xa, doR B xb, by omega, by go_num, ⟨HP30.out, HQ30.out, HU30.out, HT30.out, HZ30.out, HY30.out⟩, ⟨HA30.out, HB30.out, HC30.out⟩, HEA.out, HEB.out, HV30.out⟩, by simp [intOf]; omega⟩
              · as_aux_lemma =>
                have tb : ¬ (n : Int) < (lb.length : Int) := by omega
                have had : ada = some ⟨bba, ooa, none⟩ := HLOa.out (by omega)
                subst had
                have HIa := Lib.hid (HLIa.out la[n] (List.getElem_mem hlta))
                have HW20' : Hid (Below w.heap.size w wr) := HWV.out.trans (HV20.out.mono HX1.out)
                have HR20 := Lib.hid ((HLCa.out n hlta).later HW20'.out)
                obtain ⟨xa, hx⟩ : ∃ x, x = la[n] := ⟨_, rfl⟩
                rw [← hx] at HR20 HIa
                clear hx
                go_upto_region 16 with fail
                have hb := drawn_below wr
                have HP21 := Lib.hid ((hb.block _ (Array.getElem?_eq_some_iff.1 HP20.out).1).trans HP20.out)
                have HQ21 := Lib.hid ((hb.block _ (Array.getElem?_eq_some_iff.1 HQ20.out).1).trans HQ20.out)
                have HU21 := Lib.hid ((hb.block _ (Array.getElem?_eq_some_iff.1 HU20.out).1).trans HU20.out)
                have HT21 := Lib.hid ((hb.block _ (Array.getElem?_eq_some_iff.1 HT20.out).1).trans HT20.out)
                have HZ21 := Lib.hid ((hb.block _ (Array.getElem?_eq_some_iff.1 HZ20.out).1).trans HZ20.out)
                have HY21 := Lib.hid ((hb.block _ (Array.getElem?_eq_some_iff.1 HY20.out).1).trans HY20.out)
                have HA21 := Lib.hid (S.later HA20.out hb)
                have HB21 := Lib.hid (S.later HB20.out hb)
                have HC21 := Lib.hid (S.later HC20.out hb)
                have HV21 := Lib.hid (HV20.out.trans (hb.mono (Nat.le_trans (Nat.le_of_lt HXV.out) HV20.out.size)))
                have HR21 := Lib.hid (HR20.out.later hb)
                clear hb
                refine wp_region_T (S := fun W => W.heap[P]? = some (.cells cp 27 (0, 0)) ∧ W.heap[U]? = some (.cells du 31 (0, 0)) ∧ OpIn W bba (ooa + n * 3) xa) [12, 13] (by kernel_rfl) (by first | exact ⟨HP21.out, HU21.out, HR21.out⟩ | exact ⟨HP22.out, HU22.out, HR22.out⟩ | exact ⟨HP23.out, HU23.out, HR23.out⟩) (fun hHeld => ?_)
                refine wpAnyT_take (i := 1) (oi := ⟨some 64, _, _, _, _, _⟩) (v := ?vg6_1) rfl (by kernel_rfl) (by kernel_rfl) (by kernel_rfl) (by kernel_rfl) (fun _ _ _ h => h) (Or.inl ⟨by rfl, ?hg6_1⟩) (by assumption) ?rg6_1
                case hg6_1 => (intro w hSw; (try dsimp only at hSw); first | (go_simp; done) | (go_simp; with_reducible rfl))
                (try simp only [Act.put, List.setIfInBounds_toArray, List.set_cons_zero, List.set_cons_succ])
                refine wpAnyT_take (i := 2) (oi := ⟨some 65, _, _, _, _, _⟩) (v := ?vg6_2) rfl (by kernel_rfl) (by kernel_rfl) (by kernel_rfl) (by kernel_rfl) (fun _ _ _ h => h) (Or.inl ⟨by rfl, ?hg6_2⟩) (by assumption) ?rg6_2
                case hg6_2 => (intro w hSw; (try dsimp only at hSw); first | (go_simp; done) | (go_simp; with_reducible rfl))
                (try simp only [Act.put, List.setIfInBounds_toArray, List.set_cons_zero, List.set_cons_succ])
                refine wpAnyT_take (i := 3) (oi := ⟨some 66, _, _, _, _, _⟩) (v := ?vg6_3) rfl (by kernel_rfl) (by kernel_rfl) (by kernel_rfl) (by kernel_rfl) (fun _ _ _ h => h) (Or.inl ⟨by rfl, ?hg6_3⟩) (by assumption) ?rg6_3
                case hg6_3 => (intro w hSw; (try dsimp only at hSw); first | (go_simp; done) | (go_simp; with_reducible rfl))
                (try simp only [Act.put, List.setIfInBounds_toArray, List.set_cons_zero, List.set_cons_succ])
                refine wpAnyT_take (i := 7) (oi := ⟨some 70, _, _, _, _, _⟩) (v := ?vg6_7) rfl (by kernel_rfl) (by kernel_rfl) (by kernel_rfl) (by kernel_rfl) (fun _ _ _ h => h) (Or.inl ⟨by rfl, ?hg6_7⟩) (by assumption) ?rg6_7
                case hg6_7 => (intro w hSw; (try dsimp only at hSw); first | (go_simp; done) | (go_simp; with_reducible rfl))
                (try simp only [Act.put, List.setIfInBounds_toArray, List.set_cons_zero, List.set_cons_succ])
                refine wpAnyT_take (i := 8) (oi := ⟨some 71, _, _, _, _, _⟩) (v := ?vg6_8) rfl (by kernel_rfl) (by kernel_rfl) (by kernel_rfl) (by kernel_rfl) (fun _ _ _ h => h) (Or.inl ⟨by rfl, ?hg6_8⟩) (by assumption) ?rg6_8
                case hg6_8 => (intro w hSw; (try dsimp only at hSw); first | (go_simp; done) | (go_simp; with_reducible rfl))
                (try simp only [Act.put, List.setIfInBounds_toArray, List.set_cons_zero, List.set_cons_succ])
                refine wpAnyT_take (i := 9) (oi := ⟨some 72, _, _, _, _, _⟩) (v := ?vg6_9) rfl (by kernel_rfl) (by kernel_rfl) (by kernel_rfl) (by kernel_rfl) (fun _ _ _ h => h) (Or.inl ⟨by rfl, ?hg6_9⟩) (by assumption) ?rg6_9
                case hg6_9 => (intro w hSw; (try dsimp only at hSw); first | (go_simp; done) | (go_simp; with_reducible rfl))
                (try simp only [Act.put, List.setIfInBounds_toArray, List.set_cons_zero, List.set_cons_succ])
                refine wpAnyT_take (i := 0) (oi := ⟨some 63, _, _, _, _, _⟩) (v := _) rfl (by kernel_rfl) (by kernel_rfl) (by kernel_rfl) (by kernel_rfl) (fun _ _ _ h => h) (yieldsIf_load_row (by rfl) 27 _ rfl P rfl cp 27 (0, 0) _ (fun w hw => hw.1) Tryd.underlying27 rfl (by rw [S.size HA21.out]; exact srow_info)) (by assumption) ?_
                (try simp only [Act.put, List.setIfInBounds_toArray, List.set_cons_zero, List.set_cons_succ])
                refine wpAnyT_take (i := 4) (oi := ⟨some 67, _, _, _, _, _⟩) (v := _) rfl (by kernel_rfl) (by kernel_rfl) (by kernel_rfl) (by kernel_rfl) (fun _ _ _ h => h) (yieldsIf_op (by rfl) _ rfl bba (ooa + n * 3) rfl xa (fun w hw => hw.2.2)) (by assumption) ?_
                (try simp only [Act.put, List.setIfInBounds_toArray, List.set_cons_zero, List.set_cons_succ])
                refine wpAnyT_take (i := 6) (oi := ⟨some 69, _, _, _, _, _⟩) (v := _) rfl (by kernel_rfl) (by kernel_rfl) (by kernel_rfl) (by kernel_rfl) (fun _ _ _ h => h) (yieldsIf_load_row (by rfl) 31 _ rfl U rfl du 31 (0, 0) _ (fun w hw => hw.2.1) Tryd.underlying31 rfl (by rw [HDA.out.size]; exact row_info)) (by assumption) ?_
                (try simp only [Act.put, List.setIfInBounds_toArray, List.set_cons_zero, List.set_cons_succ])
                refine wpAnyT_take (i := 10) (oi := ⟨some 73, _, _, _, _, _⟩) (v := _) rfl (by kernel_rfl) (by kernel_rfl) (by kernel_rfl) (by kernel_rfl) (fun _ _ _ h => h) (yieldsIf_op (by rfl) _ rfl bba (ooa + n * 3) rfl xa (fun w hw => hw.2.2)) (by assumption) ?_
                (try simp only [Act.put, List.setIfInBounds_toArray, List.set_cons_zero, List.set_cons_succ])
                refine wpAnyT_one (i := 5) (o := ⟨some 68, _, _, _, _, _⟩) (by kernel_rfl) rfl (fun K hK => ?_)
                go_simp
                go_at_call 10
                refine (does_walk S A cp xa HIa.out.1 HIa.out.2 _ HA21.out).mono ?_
                rintro e w22 ⟨cp', rfl, hc', hb⟩
                have HN22 := Lib.hid hc'
                clear hc'
                have HP22 := Lib.hid ((hb.block _ (Array.getElem?_eq_some_iff.1 HP21.out).1).trans HP21.out)
                have HQ22 := Lib.hid ((hb.block _ (Array.getElem?_eq_some_iff.1 HQ21.out).1).trans HQ21.out)
                have HU22 := Lib.hid ((hb.block _ (Array.getElem?_eq_some_iff.1 HU21.out).1).trans HU21.out)
                have HT22 := Lib.hid ((hb.block _ (Array.getElem?_eq_some_iff.1 HT21.out).1).trans HT21.out)
                have HZ22 := Lib.hid ((hb.block _ (Array.getElem?_eq_some_iff.1 HZ21.out).1).trans HZ21.out)
                have HY22 := Lib.hid ((hb.block _ (Array.getElem?_eq_some_iff.1 HY21.out).1).trans HY21.out)
                have HA22 := Lib.hid (S.later HA21.out hb)
                have HB22 := Lib.hid (S.later HB21.out hb)
                have HC22 := Lib.hid (S.later HC21.out hb)
                have HV22 := Lib.hid (HV21.out.trans (hb.mono (Nat.le_trans (Nat.le_of_lt HXV.out) HV21.out.size)))
                have HR22 := Lib.hid (HR21.out.later hb)
                clear hb
                (try go_wp2_with fail)
                refine hK.out _ _ (by first | exact ⟨HP21.out, HU21.out, HR21.out⟩ | exact ⟨HP22.out, HU22.out, HR22.out⟩ | exact ⟨HP23.out, HU23.out, HR23.out⟩) (fun hHeld => ?_)
                clear hK K
                (try simp only [Act.put, List.setIfInBounds_toArray, List.set_cons_zero, List.set_cons_succ])
                refine wpAnyT_one (i := 11) (o := ⟨some 74, _, _, _, _, _⟩) (by kernel_rfl) rfl (fun K hK => ?_)
                go_simp
                go_at_call 11
                refine (should_walk A du xa _ HDA.out).mono ?_
                rintro e w23 ⟨du', rfl, hd', hb⟩
                have HE2 := Lib.hid hd'
                clear hd'
                have HP23 := Lib.hid ((hb.block _ (Array.getElem?_eq_some_iff.1 HP22.out).1).trans HP22.out)
                have HQ23 := Lib.hid ((hb.block _ (Array.getElem?_eq_some_iff.1 HQ22.out).1).trans HQ22.out)
                have HU23 := Lib.hid ((hb.block _ (Array.getElem?_eq_some_iff.1 HU22.out).1).trans HU22.out)
                have HT23 := Lib.hid ((hb.block _ (Array.getElem?_eq_some_iff.1 HT22.out).1).trans HT22.out)
                have HZ23 := Lib.hid ((hb.block _ (Array.getElem?_eq_some_iff.1 HZ22.out).1).trans HZ22.out)
                have HY23 := Lib.hid ((hb.block _ (Array.getElem?_eq_some_iff.1 HY22.out).1).trans HY22.out)
                have HA23 := Lib.hid (S.later HA22.out hb)
                have HB23 := Lib.hid (S.later HB22.out hb)
                have HC23 := Lib.hid (S.later HC22.out hb)
                have HV23 := Lib.hid (HV22.out.trans (hb.mono (Nat.le_trans (Nat.le_of_lt HXV.out) HV22.out.size)))
                have HR23 := Lib.hid (HR22.out.later hb)
                have HN23 := Lib.hid (S.later HN22.out hb)
                clear hb
                (try go_wp2_with fail)
                refine hK.out _ _ (by first | exact ⟨HP21.out, HU21.out, HR21.out⟩ | exact ⟨HP22.out, HU22.out, HR22.out⟩ | exact ⟨HP23.out, HU23.out, HR23.out⟩) (fun hHeld => ?_)
                clear hK K
                (try simp only [Act.put, List.setIfInBounds_toArray, List.set_cons_zero, List.set_cons_succ])
                refine wpAnyT_last (i := 12) (o := ⟨none, _, _, _, _, _⟩) (by kernel_rfl) (by decide) rfl (fun K hK => ?_)
                rw [if_pos (by rfl)]
                refine st_agg_wp 27 _ _ rfl (P) cp' rfl rfl 27 cp HP23.out (by rw [S.size HN23.out]; exact srow_info) (by rw [S.size HA23.out, S.size HN23.out]) (S.one HN23.out) ?_
                intro w24 h k
                have HP24 := Lib.hid h
                have HU24 := Lib.hid (k.other HU23.out (by have := HNE.out; omega))
                have HN24 := Lib.hid (S.but HN23.out k HP23.out (by decide))
                have HQ24 := Lib.hid (k.other HQ23.out (by have := HNE.out; omega))
                have HT24 := Lib.hid (k.other HT23.out (by have := HNE.out; omega))
                have HZ24 := Lib.hid (k.other HZ23.out (by have := HNE.out; omega))
                have HY24 := Lib.hid (k.other HY23.out (by have := HNE.out; omega))
                have HB24 := Lib.hid (S.but HB23.out k HP23.out (by decide))
                have HC24 := Lib.hid (S.but HC23.out k HP23.out (by decide))
                have HV24 := Lib.hid (HV23.out.trans (k.below (by have := HNE.out; omega)))
                clear h k
                refine hK.out _ _ ?_
                clear hK K
                (try simp only [Act.put, List.setIfInBounds_toArray, List.set_cons_zero, List.set_cons_succ])
                refine wpAnyT_last (i := 13) (o := ⟨none, _, _, _, _, _⟩) (by kernel_rfl) (by decide) rfl (fun K hK => ?_)
                rw [if_pos (by rfl)]
                refine st_agg_wp 31 _ _ rfl (U) du' rfl rfl 31 du HU24.out (by rw [HE2.out.size]; exact row_info) (by rw [HDA.out.size, HE2.out.size]) HE2.out.one ?_
                intro w25 h k
                have HU25 := Lib.hid h
                have HP25 := Lib.hid (k.other HP24.out (by have := HNE.out; omega))
                have HA25 := Lib.hid (S.but HN24.out k HU24.out (by decide))
                have HQ25 := Lib.hid (k.other HQ24.out (by have := HNE.out; omega))
                have HT25 := Lib.hid (k.other HT24.out (by have := HNE.out; omega))
                have HZ25 := Lib.hid (k.other HZ24.out (by have := HNE.out; omega))
                have HY25 := Lib.hid (k.other HY24.out (by have := HNE.out; omega))
                have HB25 := Lib.hid (S.but HB24.out k HU24.out (by decide))
                have HC25 := Lib.hid (S.but HC24.out k HU24.out (by decide))
                have HV25 := Lib.hid (HV24.out.trans (k.below (by have := HNE.out; omega)))
                clear h k
                refine hK.out _ _ ?_
                clear hK K
                (try simp only [Act.put, List.setIfInBounds_toArray, List.set_cons_zero, List.set_cons_succ])
                refine wpAnyT_done (by kernel_rfl) ?_ _
                have HEA := HE2
                clear HE2
                go_wp2_with fail
                case roundEnd => exact ⟨⟨n + 1, cp', cq, du', dt, doR A xa, B, by omega, by go_num, ⟨HP25.out, HQ25.out, HU25.out, HT25.out, HZ25.out, HY25.out⟩, ⟨HA25.out, HB25.out, HC25.out⟩, HEA.out, HDB.out, HV25.out⟩, by simp [intOf]; omega⟩
            · have ta : ¬ (n : Int) < (la.length : Int) := by omega
              by_cases hltb : n < lb.length
              · as_aux_lemma =>
                have tb : (n : Int) < (lb.length : Int) := by omega
                have had : adb = some ⟨bbb, oob, none⟩ := HLOb.out (by omega)
                subst had
                have HIb := Lib.hid (HLIb.out lb[n] (List.getElem_mem hltb))
                have HW20' : Hid (Below w.heap.size w wr) := HWV.out.trans (HV20.out.mono HX1.out)
                have HR20 := Lib.hid ((HLCb.out n hltb).later HW20'.out)
                obtain ⟨xb, hx⟩ : ∃ x, x = lb[n] := ⟨_, rfl⟩
                rw [← hx] at HR20 HIb
                clear hx
                go_upto_region 18 with fail
                have hb := drawn_below wr
                have HP21 := Lib.hid ((hb.block _ (Array.getElem?_eq_some_iff.1 HP20.out).1).trans HP20.out)
                have HQ21 := Lib.hid ((hb.block _ (Array.getElem?_eq_some_iff.1 HQ20.out).1).trans HQ20.out)
                have HU21 := Lib.hid ((hb.block _ (Array.getElem?_eq_some_iff.1 HU20.out).1).trans HU20.out)
                have HT21 := Lib.hid ((hb.block _ (Array.getElem?_eq_some_iff.1 HT20.out).1).trans HT20.out)
                have HZ21 := Lib.hid ((hb.block _ (Array.getElem?_eq_some_iff.1 HZ20.out).1).trans HZ20.out)
                have HY21 := Lib.hid ((hb.block _ (Array.getElem?_eq_some_iff.1 HY20.out).1).trans HY20.out)
                have HA21 := Lib.hid (S.later HA20.out hb)
                have HB21 := Lib.hid (S.later HB20.out hb)
                have HC21 := Lib.hid (S.later HC20.out hb)
                have HV21 := Lib.hid (HV20.out.trans (hb.mono (Nat.le_trans (Nat.le_of_lt HXV.out) HV20.out.size)))
                have HR21 := Lib.hid (HR20.out.later hb)
                clear hb
                refine wp_region_T (S := fun W => W.heap[Q]? = some (.cells cq 27 (0, 0)) ∧ W.heap[T]? = some (.cells dt 31 (0, 0)) ∧ OpIn W bbb (oob + n * 3) xb) [12, 13] (by kernel_rfl) (by first | exact ⟨HQ21.out, HT21.out, HR21.out⟩ | exact ⟨HQ22.out, HT22.out, HR22.out⟩ | exact ⟨HQ23.out, HT23.out, HR23.out⟩) (fun hHeld => ?_)
                refine wpAnyT_take (i := 1) (oi := ⟨some 80, _, _, _, _, _⟩) (v := ?vg7_1) rfl (by kernel_rfl) (by kernel_rfl) (by kernel_rfl) (by kernel_rfl) (fun _ _ _ h => h) (Or.inl ⟨by rfl, ?hg7_1⟩) (by assumption) ?rg7_1
                case hg7_1 => (intro w hSw; (try dsimp only at hSw); first | (go_simp; done) | (go_simp; with_reducible rfl))
                (try simp only [Act.put, List.setIfInBounds_toArray, List.set_cons_zero, List.set_cons_succ])
                refine wpAnyT_take (i := 2) (oi := ⟨some 81, _, _, _, _, _⟩) (v := ?vg7_2) rfl (by kernel_rfl) (by kernel_rfl) (by kernel_rfl) (by kernel_rfl) (fun _ _ _ h => h) (Or.inl ⟨by rfl, ?hg7_2⟩) (by assumption) ?rg7_2
                case hg7_2 => (intro w hSw; (try dsimp only at hSw); first | (go_simp; done) | (go_simp; with_reducible rfl))
                (try simp only [Act.put, List.setIfInBounds_toArray, List.set_cons_zero, List.set_cons_succ])
                refine wpAnyT_take (i := 3) (oi := ⟨some 82, _, _, _, _, _⟩) (v := ?vg7_3) rfl (by kernel_rfl) (by kernel_rfl) (by kernel_rfl) (by kernel_rfl) (fun _ _ _ h => h) (Or.inl ⟨by rfl, ?hg7_3⟩) (by assumption) ?rg7_3
                case hg7_3 => (intro w hSw; (try dsimp only at hSw); first | (go_simp; done) | (go_simp; with_reducible rfl))
                (try simp only [Act.put, List.setIfInBounds_toArray, List.set_cons_zero, List.set_cons_succ])
                refine wpAnyT_take (i := 7) (oi := ⟨some 86, _, _, _, _, _⟩) (v := ?vg7_7) rfl (by kernel_rfl) (by kernel_rfl) (by kernel_rfl) (by kernel_rfl) (fun _ _ _ h => h) (Or.inl ⟨by rfl, ?hg7_7⟩) (by assumption) ?rg7_7
                case hg7_7 => (intro w hSw; (try dsimp only at hSw); first | (go_simp; done) | (go_simp; with_reducible rfl))
                (try simp only [Act.put, List.setIfInBounds_toArray, List.set_cons_zero, List.set_cons_succ])
                refine wpAnyT_take (i := 8) (oi := ⟨some 87, _, _, _, _, _⟩) (v := ?vg7_8) rfl (by kernel_rfl) (by kernel_rfl) (by kernel_rfl) (by kernel_rfl) (fun _ _ _ h => h) (Or.inl ⟨by rfl, ?hg7_8⟩) (by assumption) ?rg7_8
                case hg7_8 => (intro w hSw; (try dsimp only at hSw); first | (go_simp; done) | (go_simp; with_reducible rfl))
                (try simp only [Act.put, List.setIfInBounds_toArray, List.set_cons_zero, List.set_cons_succ])
                refine wpAnyT_take (i := 9) (oi := ⟨some 88, _, _, _, _, _⟩) (v := ?vg7_9) rfl (by kernel_rfl) (by kernel_rfl) (by kernel_rfl) (by kernel_rfl) (fun _ _ _ h => h) (Or.inl ⟨by rfl, ?hg7_9⟩) (by assumption) ?rg7_9
                case hg7_9 => (intro w hSw; (try dsimp only at hSw); first | (go_simp; done) | (go_simp; with_reducible rfl))
                (try simp only [Act.put, List.setIfInBounds_toArray, List.set_cons_zero, List.set_cons_succ])
                refine wpAnyT_take (i := 0) (oi := ⟨some 79, _, _, _, _, _⟩) (v := _) rfl (by kernel_rfl) (by kernel_rfl) (by kernel_rfl) (by kernel_rfl) (fun _ _ _ h => h) (yieldsIf_load_row (by rfl) 27 _ rfl Q rfl cq 27 (0, 0) _ (fun w hw => hw.1) Tryd.underlying27 rfl (by rw [S.size HB21.out]; exact srow_info)) (by assumption) ?_
                (try simp only [Act.put, List.setIfInBounds_toArray, List.set_cons_zero, List.set_cons_succ])
                refine wpAnyT_take (i := 4) (oi := ⟨some 83, _, _, _, _, _⟩) (v := _) rfl (by kernel_rfl) (by kernel_rfl) (by kernel_rfl) (by kernel_rfl) (fun _ _ _ h => h) (yieldsIf_op (by rfl) _ rfl bbb (oob + n * 3) rfl xb (fun w hw => hw.2.2)) (by assumption) ?_
                (try simp only [Act.put, List.setIfInBounds_toArray, List.set_cons_zero, List.set_cons_succ])
                refine wpAnyT_take (i := 6) (oi := ⟨some 85, _, _, _, _, _⟩) (v := _) rfl (by kernel_rfl) (by kernel_rfl) (by kernel_rfl) (by kernel_rfl) (fun _ _ _ h => h) (yieldsIf_load_row (by rfl) 31 _ rfl T rfl dt 31 (0, 0) _ (fun w hw => hw.2.1) Tryd.underlying31 rfl (by rw [HDB.out.size]; exact row_info)) (by assumption) ?_
                (try simp only [Act.put, List.setIfInBounds_toArray, List.set_cons_zero, List.set_cons_succ])
                refine wpAnyT_take (i := 10) (oi := ⟨some 89, _, _, _, _, _⟩) (v := _) rfl (by kernel_rfl) (by kernel_rfl) (by kernel_rfl) (by kernel_rfl) (fun _ _ _ h => h) (yieldsIf_op (by rfl) _ rfl bbb (oob + n * 3) rfl xb (fun w hw => hw.2.2)) (by assumption) ?_
                (try simp only [Act.put, List.setIfInBounds_toArray, List.set_cons_zero, List.set_cons_succ])
                refine wpAnyT_one (i := 5) (o := ⟨some 84, _, _, _, _, _⟩) (by kernel_rfl) rfl (fun K hK => ?_)
                go_simp
                go_at_call 10
                refine (does_walk S B cq xb HIb.out.1 HIb.out.2 _ HB21.out).mono ?_
                rintro e w22 ⟨cq', rfl, hc', hb⟩
                have HN22 := Lib.hid hc'
                clear hc'
                have HP22 := Lib.hid ((hb.block _ (Array.getElem?_eq_some_iff.1 HP21.out).1).trans HP21.out)
                have HQ22 := Lib.hid ((hb.block _ (Array.getElem?_eq_some_iff.1 HQ21.out).1).trans HQ21.out)
                have HU22 := Lib.hid ((hb.block _ (Array.getElem?_eq_some_iff.1 HU21.out).1).trans HU21.out)
                have HT22 := Lib.hid ((hb.block _ (Array.getElem?_eq_some_iff.1 HT21.out).1).trans HT21.out)
                have HZ22 := Lib.hid ((hb.block _ (Array.getElem?_eq_some_iff.1 HZ21.out).1).trans HZ21.out)
                have HY22 := Lib.hid ((hb.block _ (Array.getElem?_eq_some_iff.1 HY21.out).1).trans HY21.out)
                have HA22 := Lib.hid (S.later HA21.out hb)
                have HB22 := Lib.hid (S.later HB21.out hb)
                have HC22 := Lib.hid (S.later HC21.out hb)
                have HV22 := Lib.hid (HV21.out.trans (hb.mono (Nat.le_trans (Nat.le_of_lt HXV.out) HV21.out.size)))
                have HR22 := Lib.hid (HR21.out.later hb)
                clear hb
                (try go_wp2_with fail)
                refine hK.out _ _ (by first | exact ⟨HQ21.out, HT21.out, HR21.out⟩ | exact ⟨HQ22.out, HT22.out, HR22.out⟩ | exact ⟨HQ23.out, HT23.out, HR23.out⟩) (fun hHeld => ?_)
                clear hK K
                (try simp only [Act.put, List.setIfInBounds_toArray, List.set_cons_zero, List.set_cons_succ])
                refine wpAnyT_one (i := 11) (o := ⟨some 90, _, _, _, _, _⟩) (by kernel_rfl) rfl (fun K hK => ?_)
                go_simp
                go_at_call 11
                refine (should_walk B dt xb _ HDB.out).mono ?_
                rintro e w23 ⟨dt', rfl, hd', hb⟩
                have HE2 := Lib.hid hd'
                clear hd'
                have HP23 := Lib.hid ((hb.block _ (Array.getElem?_eq_some_iff.1 HP22.out).1).trans HP22.out)
                have HQ23 := Lib.hid ((hb.block _ (Array.getElem?_eq_some_iff.1 HQ22.out).1).trans HQ22.out)
                have HU23 := Lib.hid ((hb.block _ (Array.getElem?_eq_some_iff.1 HU22.out).1).trans HU22.out)
                have HT23 := Lib.hid ((hb.block _ (Array.getElem?_eq_some_iff.1 HT22.out).1).trans HT22.out)
                have HZ23 := Lib.hid ((hb.block _ (Array.getElem?_eq_some_iff.1 HZ22.out).1).trans HZ22.out)
                have HY23 := Lib.hid ((hb.block _ (Array.getElem?_eq_some_iff.1 HY22.out).1).trans HY22.out)
                have HA23 := Lib.hid (S.later HA22.out hb)
                have HB23 := Lib.hid (S.later HB22.out hb)
                have HC23 := Lib.hid (S.later HC22.out hb)
                have HV23 := Lib.hid (HV22.out.trans (hb.mono (Nat.le_trans (Nat.le_of_lt HXV.out) HV22.out.size)))
                have HR23 := Lib.hid (HR22.out.later hb)
                have HN23 := Lib.hid (S.later HN22.out hb)
                clear hb
                (try go_wp2_with fail)
                refine hK.out _ _ (by first | exact ⟨HQ21.out, HT21.out, HR21.out⟩ | exact ⟨HQ22.out, HT22.out, HR22.out⟩ | exact ⟨HQ23.out, HT23.out, HR23.out⟩) (fun hHeld => ?_)
                clear hK K
                (try simp only [Act.put, List.setIfInBounds_toArray, List.set_cons_zero, List.set_cons_succ])
                refine wpAnyT_last (i := 12) (o := ⟨none, _, _, _, _, _⟩) (by kernel_rfl) (by decide) rfl (fun K hK => ?_)
                rw [if_pos (by rfl)]
                refine st_agg_wp 27 _ _ rfl (Q) cq' rfl rfl 27 cq HQ23.out (by rw [S.size HN23.out]; exact srow_info) (by rw [S.size HB23.out, S.size HN23.out]) (S.one HN23.out) ?_
                intro w24 h k
                have HQ24 := Lib.hid h
                have HT24 := Lib.hid (k.other HT23.out (by have := HNE.out; omega))
                have HN24 := Lib.hid (S.but HN23.out k HQ23.out (by decide))
                have HP24 := Lib.hid (k.other HP23.out (by have := HNE.out; omega))
                have HU24 := Lib.hid (k.other HU23.out (by have := HNE.out; omega))
                have HZ24 := Lib.hid (k.other HZ23.out (by have := HNE.out; omega))
                have HY24 := Lib.hid (k.other HY23.out (by have := HNE.out; omega))
                have HA24 := Lib.hid (S.but HA23.out k HQ23.out (by decide))
                have HC24 := Lib.hid (S.but HC23.out k HQ23.out (by decide))
                have HV24 := Lib.hid (HV23.out.trans (k.below (by have := HNE.out; omega)))
                clear h k
                refine hK.out _ _ ?_
                clear hK K
                (try simp only [Act.put, List.setIfInBounds_toArray, List.set_cons_zero, List.set_cons_succ])
                refine wpAnyT_last (i := 13) (o := ⟨none, _, _, _, _, _⟩) (by kernel_rfl) (by decide) rfl (fun K hK => ?_)
                rw [if_pos (by rfl)]
                refine st_agg_wp 31 _ _ rfl (T) dt' rfl rfl 31 dt HT24.out (by rw [HE2.out.size]; exact row_info) (by rw [HDB.out.size, HE2.out.size]) HE2.out.one ?_
                intro w25 h k
                have HT25 := Lib.hid h
                have HQ25 := Lib.hid (k.other HQ24.out (by have := HNE.out; omega))
                have HB25 := Lib.hid (S.but HN24.out k HT24.out (by decide))
                have HP25 := Lib.hid (k.other HP24.out (by have := HNE.out; omega))
                have HU25 := Lib.hid (k.other HU24.out (by have := HNE.out; omega))
                have HZ25 := Lib.hid (k.other HZ24.out (by have := HNE.out; omega))
                have HY25 := Lib.hid (k.other HY24.out (by have := HNE.out; omega))
                have HA25 := Lib.hid (S.but HA24.out k HT24.out (by decide))
                have HC25 := Lib.hid (S.but HC24.out k HT24.out (by decide))
                have HV25 := Lib.hid (HV24.out.trans (k.below (by have := HNE.out; omega)))
                clear h k
                refine hK.out _ _ ?_
                clear hK K
                (try simp only [Act.put, List.setIfInBounds_toArray, List.set_cons_zero, List.set_cons_succ])
                refine wpAnyT_done (by kernel_rfl) ?_ _
                have HEB := HE2
                clear HE2
                go_wp2_with fail
                case roundEnd => exact ⟨⟨n + 1, cp, cq', du, dt', A, doR B xb, by omega, by go_num, ⟨HP25.out, HQ25.out, HU25.out, HT25.out, HZ25.out, HY25.out⟩, ⟨HA25.out, HB25.out, HC25.out⟩, HDA.out, HEB.out, HV25.out⟩, by simp [intOf]; omega⟩
              · as_aux_lemma =>
                have tb : ¬ (n : Int) < (lb.length : Int) := by omega
                go_wp2_with fail
                case roundEnd => exact ⟨⟨n + 1, cp, cq, du, dt, A, B, by omega, by go_num, ⟨HP20.out, HQ20.out, HU20.out, HT20.out, HZ20.out, HY20.out⟩, ⟨HA20.out, HB20.out, HC20.out⟩, HDA.out, HDB.out, HV20.out⟩, by simp [intOf]; omega⟩
end
end Go.Proofs.YtmdfpkklnaekmaaDoor
