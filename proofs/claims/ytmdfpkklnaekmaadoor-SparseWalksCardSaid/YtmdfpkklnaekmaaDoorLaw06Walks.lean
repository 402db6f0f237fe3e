/- Layer 6's law SparseWalks, over package sparse as it landed. (written by tools/gen06/walks.py) -/
import Derived.Test.YtmdfpkklnaekmaaDoorLaw06At
import Derived.Test.YtmdfpkklnaekmaaDoorSp9
import Derived.Test.YtmdfpkklnaekmaaDoorSeqNil
import Derived.Deep.CutRange
import Derived.Deep.RegionHeld3
namespace Go.Proofs.YtmdfpkklnaekmaaDoor
open Go.RowKit Go.Shelf
set_option maxRecDepth 1000000
set_option linter.unusedSimpArgs false
attribute [local go_sem] Oper.semAt_some

theorem all_sorted (R : Rw) : (allR R).Pairwise (fun a b => a.1 < b.1) := by
  unfold allR
  refine List.Pairwise.filterMap _ (fun a a' h b hb b' hb' => ?_) List.pairwise_lt_range
  cases h1 : R a with
  | none => rw [h1] at hb; cases hb
  | some x =>
    cases h2 : R a' with
    | none => rw [h2] at hb'; cases hb'
    | some x' => rw [h1] at hb; rw [h2] at hb'; cases hb; cases hb'; exact h
/-- The last place of those that have come. -/
def LastIs (pre : List (Nat × Int)) (ll : Int) : Prop := (pre = [] ∧ ll = -1) ∨ ∃ y, y ∈ pre ∧ ll = (y.1 : Int)
theorem pre_snoc {R : Rw} {pre : List (Nat × Int)} {x : Nat × Int} (h : pre ++ [x] <+: allR R) : pre <+: allR R ∧ getR R (x.1 : Int) = (x.2, true) ∧ ∀ ll, LastIs pre ll → ll < (x.1 : Int) := by
  have hx : x ∈ allR R := h.subset (by simp)
  obtain ⟨h1, h2⟩ := all_mem hx
  refine ⟨(List.prefix_append pre [x]).trans h, by rw [get_on h1, h2]; rfl, fun ll hl => ?_⟩
  rcases hl with ⟨_, rfl⟩ | ⟨y, hy, rfl⟩
  · omega
  · have hs := (List.pairwise_append.1 ((all_sorted R).sublist h.sublist)).2.2 y hy x (by simp)
    omega
theorem row_kept {A B : World} {k : Nat} {cs : Array Value} {T : TypeId} {fr : Nat × Nat} {row : Option Nat} (h : A.heap[k]? = some (.cells cs T fr)) (hg : A.grownBy B row) (hr : ∀ r, row = some r → ∃ o : Obj, A.heap[r]? = some o ∧ o.isCells = false) : B.heap[k]? = some (.cells cs T fr) := by
  refine (hg.block _ (Array.getElem?_eq_some_iff.1 h).1 fun e => ?_).trans h
  obtain ⟨o, ho, hc⟩ := hr k e.symm
  rw [h] at ho
  cases ho
  cases hc
theorem row_set {W : World} {k B : Nat} {cs : Array Value} {T : TypeId} {fr : Nat × Nat} (h : W.heap[k]? = some (.cells cs T fr)) (hne : k ≠ B) (v : Value) : (W.setCell ⟨B, 0, none⟩ v).heap[k]? = some (.cells cs T fr) :=
  ((grownBy_setCell' W B v).block _ (Array.getElem?_eq_some_iff.1 h).1 (fun e => hne (Option.some.inj e))).trans h
theorem keeps_below {A B : World} (h : Below A.heap.size A B) : KeepsOthers A B := ⟨h.size, fun k _ hk _ => (h.block k (Array.getElem?_eq_some_iff.1 hk).1).trans hk⟩
theorem bool_size : (Tryd.prog.info? 4).map (·.size) = some 1 := by kernel_rfl
set_option maxHeartbeats 4000000 in
theorem sparseWalks_of (v : Value) (l : List Opr) (most : Int) (w : World) (hl : OpsAt w v l) (hT : Tab6 w) :
    Calls Tryd.prog 5 #[v, .int .i64 most] w fun e w' => e = .returned (.bool true) ∧ Below w.heap.size w w' := by
  obtain ⟨ad, cap, bb, oo, rfl, h1, h2, h3, h4⟩ := hl
  have HLO := Lib.hid h1
  have HLC := Lib.hid h2
  have HLI := Lib.hid h3
  clear h1 h2 h3
  have S := rspec6
  by_cases hlen : l.length ≤ 100
  case neg =>
    as_aux_lemma =>
    have t1 : (100 : Int) < (l.length : Int) := by omega
    clear hlen
    go_enter Tryd.func5, Tryd.ntmps5
    go_upto_region 1 with fail
    obtain ⟨w0, hw0⟩ : ∃ w0, (w.alloc (.cells #[.int .i64 most] 3)).alloc (.cells #[.bool false] 4) = w0 := ⟨_, rfl⟩
    rw [hw0]
    obtain ⟨hx, hy, hbl⟩ := pair_laid hw0
    have HA0 := Lib.hid hx
    have HT0 := Lib.hid hy
    have HW0 := Lib.hid hbl
    clear hx hy hbl hw0
    go_wp2_with (first
      | (go_at_call 9; with_reducible refine (live6_true S w0 (S.tab hT HW0.out)).mono ?_; rintro e w1 ⟨rfl, hb⟩; have HT1 := Lib.hid ((hb.block _ (Array.getElem?_eq_some_iff.1 HT0.out).1).trans HT0.out); have HW1 := Lib.hid (HW0.out.trans (hb.mono HW0.out.size)); clear hb)
      | (go_at_call 9; with_reducible refine (live6_true S w1 (S.tab hT HW1.out)).mono ?_; rintro e w2 ⟨rfl, hb⟩; have HT2 := Lib.hid ((hb.block _ (Array.getElem?_eq_some_iff.1 HT1.out).1).trans HT1.out); have HW2 := Lib.hid (HW1.out.trans (hb.mono HW1.out.size)); clear hb)
      | (refine st_cell rfl 4 _ _ rfl (w.heap.size + 1) 0 (.bool true) rfl rfl rfl 4 #[.bool false] HT2.out bool_size (by decide) ?_; intro w3 h3 k3))
    have c3 : w3.cell? ⟨w.heap.size + 1, 0, none⟩ = some (.bool true) := cell_in h3 rfl
    refine bodyPost_ret (v := .bool true) (by simp [results, Tryd.f5, go_sem, Act.put, c3]) rfl ⟨rfl, HW2.out.trans (k3.below (by omega))⟩
  have t1 : ¬ (100 : Int) < (l.length : Int) := by omega
  refine (callsIn_wide (n := 5)).1 ?_
  refine callsIn_of_wp_marks Tryd.func5 rfl trivial ?_ rfl
  refine wpIn_wide.2 ?_
  simp only [Tryd.ntmps5, List.size_toArray, List.length_cons, List.length_nil, Nat.reduceAdd, Nat.reduceSub, Array.replicate_succ, Array.replicate_zero, List.push_toArray, List.append_toArray, List.nil_append, List.cons_append]
  go_upto_region 1 with fail
  obtain ⟨w0, hw0⟩ : ∃ w0, (w.alloc (.cells #[.int .i64 most] 3)).alloc (.cells #[.bool false] 4) = w0 := ⟨_, rfl⟩
  rw [hw0]
  obtain ⟨hx, hy, hbl⟩ := pair_laid hw0
  have HA0 := Lib.hid hx
  have HT0 := Lib.hid hy
  have HW0 := Lib.hid hbl
  clear hx hy hbl hw0
  go_upto_region 5 with (first
    | (go_at_call 9; with_reducible refine (live6_true S w0 (S.tab hT HW0.out)).mono ?_; rintro e w1 ⟨rfl, hb⟩; have HA1 := Lib.hid ((hb.block _ (Array.getElem?_eq_some_iff.1 HA0.out).1).trans HA0.out); have HT1 := Lib.hid ((hb.block _ (Array.getElem?_eq_some_iff.1 HT0.out).1).trans HT0.out); have HW1 := Lib.hid (HW0.out.trans (hb.mono HW0.out.size)); clear hb))
  have HXK : Hid (w.heap.size + 1 < w1.heap.size) := (Array.getElem?_eq_some_iff.1 HT1.out).1
  obtain ⟨X, hX⟩ : ∃ X, X = w1.heap.size := ⟨_, rfl⟩
  obtain ⟨V, hV⟩ : ∃ V, (w1.alloc (.cells zeroS 27)).alloc (.cells zeroC 31) = V := ⟨_, rfl⟩
  rw [hV, ← hX]
  obtain ⟨hx, hy, hbl⟩ := pair_laid hV
  rw [← hX] at hx hy hbl
  have HVX := Lib.hid hx
  have HVY := Lib.hid hy
  have HX1 : Hid (w.heap.size ≤ X) := by show _ ≤ _; rw [hX]; exact HW1.out.size
  have HWV : Hid (Below w.heap.size w V) := HW1.out.trans (hbl.mono HX1.out)
  have HXV : Hid (X < V.heap.size) := (Array.getElem?_eq_some_iff.1 hx).1
  have HVS : Hid (V.heap.size = X + 2) := by show _ = _; rw [← hV, hX]; simp
  have HKX : Hid (w.heap.size + 1 < X) := by show _ < _; rw [hX]; exact HXK.out
  have HAV : Hid (V.heap[w.heap.size]? = some (.cells #[.int .i64 most] 3 (0, 0))) := (hbl.block _ (by have := HKX.out; omega)).trans HA1.out
  have HTV : Hid (V.heap[w.heap.size + 1]? = some (.cells #[.bool false] 4 (0, 0))) := (hbl.block _ HKX.out).trans HT1.out
  clear hx hy hbl hV hX
  clear t1
  go_wp2_with fail
  go_loopw [26] (fun i wl => ∃ (n : Nat) (c d : Array Value) (R : Rw), n ≤ l.length ∧ i = .int .i64 n ∧ wl.heap[X]? = some (.cells c 27 (0, 0)) ∧ wl.heap[X + 1]? = some (.cells d 31 (0, 0)) ∧ At6 wl R c ∧ RC R d ∧ Below X V wl) (fun i _ => l.length - (intOf i).toNat)
  case atStart => exact ⟨0, _, _, noR, Nat.zero_le _, rfl, HVX.out, HVY.out, S.zero _, zero_rc, Below.refl _ _⟩
  case round =>
    obtain ⟨n, c, d, R, hn, rfl, hz, hy, hc, hd, hbl⟩ := hrel
    have HA4 : Hid (wr.heap[w.heap.size]? = some (.cells #[.int .i64 most] 3 (0, 0))) := (hbl.block _ (by have := HKX.out; omega)).trans HAV.out
    have HT4 : Hid (wr.heap[w.heap.size + 1]? = some (.cells #[.bool false] 4 (0, 0))) := (hbl.block _ HKX.out).trans HTV.out
    have HZ4 := Lib.hid hz
    have HY4 := Lib.hid hy
    have HC4 := Lib.hid hc
    have HD := Lib.hid hd
    have HV4 := Lib.hid hbl
    have HW4 : Hid (Below w.heap.size w wr) := HWV.out.trans (hbl.mono HX1.out)
    have HS4 : Hid (X < wr.heap.size) := (Array.getElem?_eq_some_iff.1 hz).1
    clear hz hy hc hd hbl
    by_cases hlt : n < l.length
    · skip
      have hlt' : (n : Int) < (l.length : Int) := by omega
      have i0 : (0 : Int) ≤ (n : Int) := by omega
      have had : ad = some ⟨bb, oo, none⟩ := HLO.out (by omega)
      subst had
      have HI := Lib.hid (HLI.out l[n] (List.getElem_mem hlt))
      have HR4 := Lib.hid ((HLC.out n hlt).later HW4.out)
      obtain ⟨x, hx⟩ : ∃ x, x = l[n] := ⟨_, rfl⟩
      rw [← hx] at HR4 HI
      clear hx
      go_upto_region 8 with (refine ld_op rfl _ rfl bb (oo + n * 3) rfl x HR4.out ?_)
      obtain ⟨w5, hw5⟩ : ∃ w5, wr.alloc (.cells (opC x) 35) = w5 := ⟨_, rfl⟩
      rw [hw5]
      have hb : Below wr.heap.size wr w5.drew := by rw [← hw5]; exact Below.drewMany (Below.newly' _ _) 1
      have HP5 : Hid (w5.drew.heap[wr.heap.size]? = some (.cells (opC x) 35 (0, 0))) := by show _ = _; rw [← hw5]; exact heap_alloc_last wr _
      clear hw5
      have HZ5 := Lib.hid ((hb.block _ (Array.getElem?_eq_some_iff.1 HZ4.out).1).trans HZ4.out)
      have HY5 := Lib.hid ((hb.block _ (Array.getElem?_eq_some_iff.1 HY4.out).1).trans HY4.out)
      have HC5 := Lib.hid (S.later HC4.out hb)
      have HV5 := Lib.hid (HV4.out.trans (hb.mono (Nat.le_trans (Nat.le_of_lt HXV.out) HV4.out.size)))
      clear hb
      refine wp_region_noPanic ?_
      refine wp_region_T (S := fun W => W.heap[X]? = some (.cells c 27 (0, 0)) ∧ W.heap[(X + 1)]? = some (.cells d 31 (0, 0)) ∧ W.heap[wr.heap.size]? = some (.cells (opC x) 35 (0, 0))) [6, 7] (by kernel_rfl) (by first | exact ⟨HZ5.out, HY5.out, HP5.out⟩ | exact ⟨HZ6.out, HY6.out, HP6.out⟩ | exact ⟨HZ7.out, HY7.out, HP7.out⟩) (fun hHeld => ?_)
      refine wpAnyT_take (i := 0) (oi := ⟨some 30, _, _, _, _, _⟩) (v := _) rfl (by kernel_rfl) (by kernel_rfl) (by kernel_rfl) (by kernel_rfl) (fun _ _ _ h => h) (yieldsIf_load_row (by rfl) 27 _ rfl X rfl c 27 (0, 0) _ (fun w hw => hw.1) Tryd.underlying27 rfl (by rw [S.size HC5.out]; exact srow_info)) (by assumption) ?_
      (try simp only [Act.put, List.setIfInBounds_toArray, List.set_cons_zero, List.set_cons_succ])
      refine wpAnyT_take (i := 1) (oi := ⟨some 31, _, _, _, _, _⟩) (v := _) rfl (by kernel_rfl) (by kernel_rfl) (by kernel_rfl) (by kernel_rfl) (fun _ _ _ h => h) (yieldsIf_load_row (by rfl) 35 _ rfl wr.heap.size rfl (opC x) 35 (0, 0) _ (fun w hw => hw.2.2) Tryd.underlying35 rfl (by exact op_info)) (by assumption) ?_
      (try simp only [Act.put, List.setIfInBounds_toArray, List.set_cons_zero, List.set_cons_succ])
      refine wpAnyT_take (i := 3) (oi := ⟨some 33, _, _, _, _, _⟩) (v := _) rfl (by kernel_rfl) (by kernel_rfl) (by kernel_rfl) (by kernel_rfl) (fun _ _ _ h => h) (yieldsIf_load_row (by rfl) 31 _ rfl (X + 1) rfl d 31 (0, 0) _ (fun w hw => hw.2.1) Tryd.underlying31 rfl (by rw [HD.out.size]; exact row_info)) (by assumption) ?_
      (try simp only [Act.put, List.setIfInBounds_toArray, List.set_cons_zero, List.set_cons_succ])
      refine wpAnyT_take (i := 4) (oi := ⟨some 34, _, _, _, _, _⟩) (v := _) rfl (by kernel_rfl) (by kernel_rfl) (by kernel_rfl) (by kernel_rfl) (fun _ _ _ h => h) (yieldsIf_load_row (by rfl) 35 _ rfl wr.heap.size rfl (opC x) 35 (0, 0) _ (fun w hw => hw.2.2) Tryd.underlying35 rfl (by exact op_info)) (by assumption) ?_
      (try simp only [Act.put, List.setIfInBounds_toArray, List.set_cons_zero, List.set_cons_succ])
      refine wpAnyT_one (i := 2) (o := ⟨some 32, _, _, _, _, _⟩) (by kernel_rfl) rfl (fun K hK => ?_)
      go_simp
      go_at_call 10
      refine (does_walk S R c x HI.out.1 HI.out.2 _ HC5.out).mono ?_
      rintro e w6 ⟨c', rfl, hc', hb⟩
      have HN6 := Lib.hid hc'
      clear hc'
      have HZ6 := Lib.hid ((hb.block _ (Array.getElem?_eq_some_iff.1 HZ5.out).1).trans HZ5.out)
      have HY6 := Lib.hid ((hb.block _ (Array.getElem?_eq_some_iff.1 HY5.out).1).trans HY5.out)
      have HC6 := Lib.hid (S.later HC5.out hb)
      have HV6 := Lib.hid (HV5.out.trans (hb.mono (Nat.le_trans (Nat.le_of_lt HXV.out) HV5.out.size)))
      have HP6 := Lib.hid ((hb.block _ (Array.getElem?_eq_some_iff.1 HP5.out).1).trans HP5.out)
      clear hb
      (try go_wp2_with fail)
      refine hK.out _ _ (by first | exact ⟨HZ5.out, HY5.out, HP5.out⟩ | exact ⟨HZ6.out, HY6.out, HP6.out⟩ | exact ⟨HZ7.out, HY7.out, HP7.out⟩) (fun hHeld => ?_)
      clear hK K
      (try simp only [Act.put, List.setIfInBounds_toArray, List.set_cons_zero, List.set_cons_succ])
      refine wpAnyT_one (i := 5) (o := ⟨some 35, _, _, _, _, _⟩) (by kernel_rfl) rfl (fun K hK => ?_)
      go_simp
      go_at_call 11
      refine (should_walk R d x _ HD.out).mono ?_
      rintro e w7 ⟨d', rfl, hd', hb⟩
      have HE2 := Lib.hid hd'
      clear hd'
      have HZ7 := Lib.hid ((hb.block _ (Array.getElem?_eq_some_iff.1 HZ6.out).1).trans HZ6.out)
      have HY7 := Lib.hid ((hb.block _ (Array.getElem?_eq_some_iff.1 HY6.out).1).trans HY6.out)
      have HC7 := Lib.hid (S.later HC6.out hb)
      have HV7 := Lib.hid (HV6.out.trans (hb.mono (Nat.le_trans (Nat.le_of_lt HXV.out) HV6.out.size)))
      have HP7 := Lib.hid ((hb.block _ (Array.getElem?_eq_some_iff.1 HP6.out).1).trans HP6.out)
      have HN7 := Lib.hid (S.later HN6.out hb)
      clear hb
      (try go_wp2_with fail)
      refine hK.out _ _ (by first | exact ⟨HZ5.out, HY5.out, HP5.out⟩ | exact ⟨HZ6.out, HY6.out, HP6.out⟩ | exact ⟨HZ7.out, HY7.out, HP7.out⟩) (fun hHeld => ?_)
      clear hK K
      (try simp only [Act.put, List.setIfInBounds_toArray, List.set_cons_zero, List.set_cons_succ])
      refine wpAnyT_last (i := 6) (o := ⟨none, _, _, _, _, _⟩) (by kernel_rfl) (by decide) rfl (fun K hK => ?_)
      rw [if_pos (by rfl)]
      refine st_agg_wp 27 _ _ rfl (X) c' rfl rfl 27 c HZ7.out (by rw [S.size HN7.out]; exact srow_info) (by rw [S.size HC7.out, S.size HN7.out]) (S.one HN7.out) ?_
      intro w8 h k
      have HZ8 := Lib.hid h
      have HY8 := Lib.hid (k.other HY7.out (by omega))
      have HN8 := Lib.hid (S.but HN7.out k HZ7.out (by decide))
      have HP8 := Lib.hid (k.other HP7.out (by have := HS4.out; omega))
      have HV8 := Lib.hid (HV7.out.trans (k.below (Nat.le_refl _)))
      clear h k
      refine hK.out _ _ ?_
      clear hK K
      (try simp only [Act.put, List.setIfInBounds_toArray, List.set_cons_zero, List.set_cons_succ])
      refine wpAnyT_last (i := 7) (o := ⟨none, _, _, _, _, _⟩) (by kernel_rfl) (by decide) rfl (fun K hK => ?_)
      rw [if_pos (by rfl)]
      refine st_agg_wp 31 _ _ rfl ((X + 1)) d' rfl rfl 31 d HY8.out (by rw [HE2.out.size]; exact row_info) (by rw [HD.out.size, HE2.out.size]) HE2.out.one ?_
      intro w9 h k
      have HY9 := Lib.hid h
      have HZ9 := Lib.hid (k.other HZ8.out (by omega))
      have HC9 := Lib.hid (S.but HN8.out k HY8.out (by decide))
      have HP9 := Lib.hid (k.other HP8.out (by have := (Array.getElem?_eq_some_iff.1 HY4.out).1; omega))
      have HV9 := Lib.hid (HV8.out.trans (k.below (by omega)))
      clear h k
      refine hK.out _ _ ?_
      clear hK K
      (try simp only [Act.put, List.setIfInBounds_toArray, List.set_cons_zero, List.set_cons_succ])
      refine wpAnyT_done (by kernel_rfl) ?_ _
      refine NoPanic.normal ?_
      go_wp2_with fail
      case roundEnd => exact ⟨⟨n + 1, c', d', doR R x, by omega, by go_num, HZ9.out, HY9.out, HC9.out, HE2.out, HV9.out⟩, by simp [intOf]; omega⟩
    · obtain rfl : n = l.length := by omega
      clear HLO HLC HLI
      have hmem := HC4.out
      obtain ⟨_, vv, hc6, hlis⟩ := HC4.out
      subst hc6
      have HALL := Lib.hid (fun b v w => callsIn_wide.1 (sp_All_in 5 b v w))
      have HLIS := Lib.hid hlis
      have hnil := fun (lb : Array Value) (W : World) => seq_nil 34 lb W
      clear hlis hmem
      go_wp2_with (first
        | (refine ld_if rfl 27 _ rfl (X) rfl 27 _ _ _ (((Below.more (Below.newly' wr _) _).block _ (Array.getElem?_eq_some_iff.1 HZ4.out).1).trans HZ4.out) Tryd.underlying27 rfl (by rw [S.size HC4.out]; exact srow_info) ?_)
        | (go_at_call 15; refine (HALL.out _ _ _).mono ?_; rintro e w' ⟨rfl, rfl⟩))
      have hs1 : X + 1 < wr.heap.size := (Array.getElem?_eq_some_iff.1 HY4.out).1
      have bN := (((Boxed.new wr 3 (.int .i64 0)).alloc (.cells #[.int .i64 (-1)] 3)).alloc (.cells #[.int .u32 (bitsR R 32 : Nat), vv] 27))
      have bL := ((Boxed.new (wr.alloc (.cells #[.int .i64 0] 3)) 3 (.int .i64 (-1))).alloc (.cells #[.int .u32 (bitsR R 32 : Nat), vv] 27))
      have bA := heap_alloc_last ((wr.alloc (.cells #[.int .i64 0] 3)).alloc (.cells #[.int .i64 (-1)] 3)) (.cells #[.int .u32 (bitsR R 32 : Nat), vv] 27)
      simp only [World.size_alloc] at bL bA
      obtain ⟨W0, hW0⟩ : ∃ W0, ((wr.alloc (.cells #[.int .i64 0] 3)).alloc (.cells #[.int .i64 (-1)] 3)).alloc (.cells #[.int .u32 (bitsR R 32 : Nat), vv] 27) = W0 := ⟨_, rfl⟩
      have hsz : W0.heap.size = wr.heap.size + 3 := by rw [← hW0]; simp
      have hb0 : Below wr.heap.size wr W0 := by rw [← hW0]; exact Below.more (Below.more (Below.newly' _ _) _) _
      rw [hW0] at bN bL bA ⊢
      clear hW0
      have hM0 : Boxed W0 w.heap.size 3 (.int .i64 most) := (hb0.block _ (by have := HKX.out; omega)).trans HA4.out
      have hT0 : Boxed W0 (w.heap.size + 1) 4 (.bool false) := (hb0.block _ (by have := HKX.out; omega)).trans HT4.out
      have hY0 : W0.heap[X + 1]? = some (.cells d 31 (0, 0)) := (hb0.block _ hs1).trans HY4.out
      have hB0 : Below w.heap.size w W0 := HW4.out.trans (hb0.mono HW4.out.size)
      have hTr : Tab6 wr := S.tab hT HW4.out
      have htl : 0 < wr.heap.size := World.block_lt_of_cell? wr _ (hTr 0 (by decide))
      have hwr : w.heap.size ≤ wr.heap.size := HW4.out.size
      have hKX := HKX.out
      refine (wpIn_wide (n := 5)).1 ?_
      refine wpIn_rangeFunc_ownG (F := Fence.wide) rfl (by omega) (gf := 34) (lb := #[.pointer (some ⟨wr.heap.size + 1 + 1, 0, none⟩)]) rfl trivial (enters_of Tryd.func34 (by kernel_rfl) rfl)
        (sp_all_stops 4 (by omega) (wr.heap.size + 1 + 1) wr.heap.size R vv W0 (by omega) (by omega) htl (cell_in bA rfl) (cell_in bA rfl) (HLIS.out.in_.below hb0) (hTr.below hb0)) belowK_t (belowK_b (by omega)) (Below.refl _ _) (fun _ => rfl)
        (fun pre V => ((∃ nn ll : Int, Boxed V wr.heap.size 3 (.int .i64 nn) ∧ Boxed V (wr.heap.size + 1) 3 (.int .i64 ll) ∧ (pre <+: allR R → nn = (pre.length : Int) ∧ LastIs pre ll ∧ ∀ j : Nat, 1 ≤ j → j ≤ pre.length → (j : Int) ≠ most)) ∧ Boxed V w.heap.size 3 (.int .i64 most) ∧ Boxed V (w.heap.size + 1) 4 (.bool false) ∧ V.heap[X + 1]? = some (.cells d 31 (0, 0))) ∧ Below w.heap.size w V)
        (fun k pre V => ((k = .ret ∧ ¬ pre <+: allR R) ∨ (k = .exit 2 ∧ pre ≠ [] ∧ (∃ nn : Int, Boxed V wr.heap.size 3 (.int .i64 nn) ∧ (pre <+: allR R → nn = (pre.length : Int) ∧ nn = most)) ∧ Boxed V w.heap.size 3 (.int .i64 most) ∧ Boxed V (w.heap.size + 1) 4 (.bool false) ∧ V.heap[X + 1]? = some (.cells d 31 (0, 0)))) ∧ Below w.heap.size w V)
        (OwnFrom.and (Own.from (fun s A B row hs hg hr => by
          obtain ⟨⟨nn, ll, h1, h2, h3⟩, h4, h5, h6⟩ := hs
          exact ⟨⟨nn, ll, bx_kept h1 hg hr, bx_kept h2 hg hr, h3⟩, bx_kept h4 hg hr, bx_kept h5 hg hr, row_kept h6 hg hr⟩) _) (ownFrom_below (Nat.le_refl _) (by omega)))
        (fun k => OwnFrom.and (Own.from (fun s A B row hs hg hr => by
          rcases hs with hs | ⟨e, hne, ⟨nn, h1, h3⟩, h4, h5, h6⟩
          · exact .inl hs
          · exact .inr ⟨e, hne, ⟨nn, bx_kept h1 hg hr, h3⟩, bx_kept h4 hg hr, bx_kept h5 hg hr, row_kept h6 hg hr⟩) _) (ownFrom_below (Nat.le_refl _) (by omega)))
        ⟨⟨⟨0, -1, bN, bL, fun _ => ⟨rfl, .inl ⟨rfl, rfl⟩, fun j h1 h2 => by simp at h2; omega⟩⟩, hM0, hT0, hY0⟩, hB0⟩
        (fun x => { tmps := #[.slice ad l.length cap, .int .i64 most, undef, .pointer (some ⟨w.heap.size, 0, none⟩), .pointer (some ⟨w.heap.size + 1, 0, none⟩), .pointer (some ⟨X, 0, none⟩), .pointer (some ⟨X + 1, 0, none⟩), undef, u8, .pointer (some ⟨wr.heap.size, 0, none⟩), .pointer (some ⟨wr.heap.size + 1, 0, none⟩), (.func (.func 34) #[] #[.pointer (some ⟨wr.heap.size + 1 + 1, 0, none⟩)]), .int .i64 (x.1 : Int), .int .i64 x.2, undef, undef, .bool true, .bool false, .bool false, .slice ad l.length cap, .int .i64 (l.length : Int), .bool (decide ((100 : Int) < (l.length : Int))), .bool (decide ((100 : Int) < (l.length : Int))), undef, .slice ad l.length cap, .int .i64 (l.length : Int), .int .i64 (l.length : Int), .bool false, u28, u29, u30, u31, u32, u33, u34, u35, u36, .agg #[.int .u32 (bitsR R 32 : Nat), vv], (.func (.func 34) #[] #[.pointer (some ⟨wr.heap.size + 1 + 1, 0, none⟩)]), (.func (.func 34) #[] #[.pointer (some ⟨wr.heap.size + 1 + 1, 0, none⟩)]), .bool false, (.func (.func 34) #[] #[.pointer (some ⟨wr.heap.size + 1 + 1, 0, none⟩)]), .int .i64 (x.1 : Int), .int .i64 x.2, undef, undef, undef, undef, undef, undef, undef, undef, undef, undef, undef, undef, undef, undef, undef, undef, undef, undef, undef, undef, undef, undef, undef, undef, undef, undef, undef, undef, undef, undef, undef, undef, undef, undef, undef, undef, undef, undef, undef], defers := [] }) ?assign ?body ?done ?stop
      case assign =>
        intro l x W K hK
        gi_wp2
        exact hK
      case body =>
        rintro lp pre x V ⟨⟨⟨nn, ll, hN, hL, hP⟩, hM, hTb, hY⟩, hBV⟩ _
        have HG := Lib.hid (fun V' => ref_Get6 R d HD.out (x.1 : Int) V')
        have HP := Lib.hid hP
        have HY := Lib.hid hY
        have HBV := Lib.hid hBV
        have HN := Lib.hid hN
        have HL := Lib.hid hL
        have HM := Lib.hid hM
        have HTb := Lib.hid hTb
        clear hN hL hM hTb hY hBV hP
        obtain ⟨⟨y, b⟩, hp⟩ : ∃ p, p = getR R (x.1 : Int) := ⟨_, rfl⟩
        rw [← hp] at HG
        simp only at HG
        have HGR := Lib.hid hp
        clear hp
        cases b with
        | false =>
          have HNO : Hid (¬ (pre ++ [x] <+: allR R)) := fun h => by have h2 := (pre_snoc h).2.1; rw [← HGR.out] at h2; cases h2
          gi_wp2_with (first
            | (refine ld_in rfl 31 _ rfl (X + 1) rfl 31 _ _ _ HY.out Tryd.underlying31 rfl (by rw [HD.out.size]; exact row_info) ?_)
            | (refine ⟨trivial, ?_⟩; gi_at_call 13; refine (CallsIn.inRound lp (callsIn_wide.2 (HG.out V))).mono ?_; rintro e V2 ⟨rfl, hb⟩; have HN2 : Hid (Boxed V2 wr.heap.size 3 (.int .i64 nn)) := (hb.block _ HN.out.lt).trans HN.out; have HL2 : Hid (Boxed V2 (wr.heap.size + 1) 3 (.int .i64 ll)) := (hb.block _ HL.out.lt).trans HL.out; have HM2 : Hid (Boxed V2 w.heap.size 3 (.int .i64 most)) := (hb.block _ HM.out.lt).trans HM.out; have HT2 : Hid (Boxed V2 (w.heap.size + 1) 4 (.bool false)) := (hb.block _ HTb.out.lt).trans HTb.out; have HY2 : Hid (V2.heap[X + 1]? = some (.cells d 31 (0, 0))) := (hb.block _ (Array.getElem?_eq_some_iff.1 HY.out).1).trans HY.out; have cN := HN2.out.cell; have fN := HN2.out.frozen; have cL := HL2.out.cell; have fL := HL2.out.frozen; have cM := HM2.out.cell; have cT := HT2.out.cell; have fT := HT2.out.frozen; have HB2 := Lib.hid hb; clear hb))
          exact ⟨((keeps_below HB2.out).trans (KeepsOthers.setCell _ _ _)).from _, .inl ⟨rfl, HNO.out⟩, (HBV.out.trans (HB2.out.mono HBV.out.size)).setCell (p := ⟨(w.heap.size + 1), 0, none⟩) (by simp) _⟩
        | true =>
          by_cases hxy : x.2 = y
          · by_cases hle : (x.1 : Int) ≤ ll
            · have hxy' : (x.2 != y) = false := by simp [hxy]
              have HNO : Hid (¬ (pre ++ [x] <+: allR R)) := fun h => by have h2 := (pre_snoc h).2.2 ll (HP.out (pre_snoc h).1).2.1; omega
              gi_wp2_with (first
                | (refine ld_in rfl 31 _ rfl (X + 1) rfl 31 _ _ _ HY.out Tryd.underlying31 rfl (by rw [HD.out.size]; exact row_info) ?_)
                | (refine ⟨trivial, ?_⟩; gi_at_call 13; refine (CallsIn.inRound lp (callsIn_wide.2 (HG.out V))).mono ?_; rintro e V2 ⟨rfl, hb⟩; have HN2 : Hid (Boxed V2 wr.heap.size 3 (.int .i64 nn)) := (hb.block _ HN.out.lt).trans HN.out; have HL2 : Hid (Boxed V2 (wr.heap.size + 1) 3 (.int .i64 ll)) := (hb.block _ HL.out.lt).trans HL.out; have HM2 : Hid (Boxed V2 w.heap.size 3 (.int .i64 most)) := (hb.block _ HM.out.lt).trans HM.out; have HT2 : Hid (Boxed V2 (w.heap.size + 1) 4 (.bool false)) := (hb.block _ HTb.out.lt).trans HTb.out; have HY2 : Hid (V2.heap[X + 1]? = some (.cells d 31 (0, 0))) := (hb.block _ (Array.getElem?_eq_some_iff.1 HY.out).1).trans HY.out; have cN := HN2.out.cell; have fN := HN2.out.frozen; have cL := HL2.out.cell; have fL := HL2.out.frozen; have cM := HM2.out.cell; have cT := HT2.out.cell; have fT := HT2.out.frozen; have HB2 := Lib.hid hb; clear hb))
              exact ⟨((keeps_below HB2.out).trans (KeepsOthers.setCell _ _ _)).from _, .inl ⟨rfl, HNO.out⟩, (HBV.out.trans (HB2.out.mono HBV.out.size)).setCell (p := ⟨(w.heap.size + 1), 0, none⟩) (by simp) _⟩
            · obtain ⟨n2, hn2⟩ : ∃ n2, n2 = wrap64 (nn + 1) := ⟨_, rfl⟩
              have e2 : wrap64 (nn + 1) = n2 := hn2.symm
              have HLEN : Hid (pre ++ [x] <+: allR R → n2 = ((pre ++ [x]).length : Int)) := fun hpre => by
                have h1 := (HP.out (pre_snoc hpre).1).1
                have h2 := hpre.length_le
                have h3 := cnt_le R 32
                rw [all_len] at h2
                rw [hn2, h1]
                simp at h2 ⊢
                unfold wrap64
                omega
              clear hn2
              have hxy' : (x.2 != y) = false := by simp [hxy]
              clear hxy
              by_cases hm : n2 = most
              · have hm2 : (n2 == most) = true := by simp [hm]
                have hm3 := Lib.hid hm
                clear hm
                gi_wp2_with (first
                  | (refine ld_in rfl 31 _ rfl (X + 1) rfl 31 _ _ _ HY.out Tryd.underlying31 rfl (by rw [HD.out.size]; exact row_info) ?_)
                  | (refine ⟨trivial, ?_⟩; gi_at_call 13; refine (CallsIn.inRound lp (callsIn_wide.2 (HG.out V))).mono ?_; rintro e V2 ⟨rfl, hb⟩; have HN2 : Hid (Boxed V2 wr.heap.size 3 (.int .i64 nn)) := (hb.block _ HN.out.lt).trans HN.out; have HL2 : Hid (Boxed V2 (wr.heap.size + 1) 3 (.int .i64 ll)) := (hb.block _ HL.out.lt).trans HL.out; have HM2 : Hid (Boxed V2 w.heap.size 3 (.int .i64 most)) := (hb.block _ HM.out.lt).trans HM.out; have HT2 : Hid (Boxed V2 (w.heap.size + 1) 4 (.bool false)) := (hb.block _ HTb.out.lt).trans HTb.out; have HY2 : Hid (V2.heap[X + 1]? = some (.cells d 31 (0, 0))) := (hb.block _ (Array.getElem?_eq_some_iff.1 HY.out).1).trans HY.out; have cN := HN2.out.cell; have fN := HN2.out.frozen; have cL := HL2.out.cell; have fL := HL2.out.frozen; have cM := HM2.out.cell; have cT := HT2.out.cell; have fT := HT2.out.frozen; have HB2 := Lib.hid hb; clear hb))
                have hN3 := (HN2.out.other (B' := (wr.heap.size + 1)) (by omega) (.int .i64 (x.1 : Int))).set (.int .i64 n2)
                have hL3 := (HL2.out.set (.int .i64 (x.1 : Int))).other (B' := wr.heap.size) (by omega) (.int .i64 n2)
                have hM3 := (HM2.out.other (B' := (wr.heap.size + 1)) (by omega) (.int .i64 (x.1 : Int))).other (B' := wr.heap.size) (by omega) (.int .i64 n2)
                have hT3 := (HT2.out.other (B' := (wr.heap.size + 1)) (by omega) (.int .i64 (x.1 : Int))).other (B' := wr.heap.size) (by omega) (.int .i64 n2)
                have hY3 := row_set (row_set HY2.out (B := (wr.heap.size + 1)) (by omega) (.int .i64 (x.1 : Int))) (B := wr.heap.size) (by omega) (.int .i64 n2)
                have hk3 := ((keeps_below HB2.out).trans (KeepsOthers.setCell V2 ⟨wr.heap.size + 1, 0, none⟩ (.int .i64 (x.1 : Int)))).trans (KeepsOthers.setCell _ ⟨wr.heap.size, 0, none⟩ (.int .i64 n2))
                have hNV := HN.out.lt
                have hb3 := ((HB2.out.mono (Nat.le_of_lt hNV)).setCell (p := ⟨wr.heap.size + 1, 0, none⟩) (by simp) (.int .i64 (x.1 : Int))).setCell (p := ⟨wr.heap.size, 0, none⟩) (Nat.le_refl _) (.int .i64 n2)
                have hw3 := ((HBV.out.trans (HB2.out.mono HBV.out.size)).setCell (p := ⟨wr.heap.size + 1, 0, none⟩) (by simp; omega) (.int .i64 (x.1 : Int))).setCell (p := ⟨wr.heap.size, 0, none⟩) (by simp; omega) (.int .i64 n2)
                exact ⟨hk3.from _, .inr ⟨rfl, by simp, ⟨n2, hN3, fun hpre => ⟨HLEN.out hpre, hm3.out⟩⟩, hM3, hT3, hY3⟩, hw3⟩
              · have hm2 : (n2 == most) = false := by simp [hm]
                have hm3 := Lib.hid hm
                clear hm
                gi_wp2_with (first
                  | (refine ld_in rfl 31 _ rfl (X + 1) rfl 31 _ _ _ HY.out Tryd.underlying31 rfl (by rw [HD.out.size]; exact row_info) ?_)
                  | (refine ⟨trivial, ?_⟩; gi_at_call 13; refine (CallsIn.inRound lp (callsIn_wide.2 (HG.out V))).mono ?_; rintro e V2 ⟨rfl, hb⟩; have HN2 : Hid (Boxed V2 wr.heap.size 3 (.int .i64 nn)) := (hb.block _ HN.out.lt).trans HN.out; have HL2 : Hid (Boxed V2 (wr.heap.size + 1) 3 (.int .i64 ll)) := (hb.block _ HL.out.lt).trans HL.out; have HM2 : Hid (Boxed V2 w.heap.size 3 (.int .i64 most)) := (hb.block _ HM.out.lt).trans HM.out; have HT2 : Hid (Boxed V2 (w.heap.size + 1) 4 (.bool false)) := (hb.block _ HTb.out.lt).trans HTb.out; have HY2 : Hid (V2.heap[X + 1]? = some (.cells d 31 (0, 0))) := (hb.block _ (Array.getElem?_eq_some_iff.1 HY.out).1).trans HY.out; have cN := HN2.out.cell; have fN := HN2.out.frozen; have cL := HL2.out.cell; have fL := HL2.out.frozen; have cM := HM2.out.cell; have cT := HT2.out.cell; have fT := HT2.out.frozen; have HB2 := Lib.hid hb; clear hb))
                have hN3 := (HN2.out.other (B' := (wr.heap.size + 1)) (by omega) (.int .i64 (x.1 : Int))).set (.int .i64 n2)
                have hL3 := (HL2.out.set (.int .i64 (x.1 : Int))).other (B' := wr.heap.size) (by omega) (.int .i64 n2)
                have hM3 := (HM2.out.other (B' := (wr.heap.size + 1)) (by omega) (.int .i64 (x.1 : Int))).other (B' := wr.heap.size) (by omega) (.int .i64 n2)
                have hT3 := (HT2.out.other (B' := (wr.heap.size + 1)) (by omega) (.int .i64 (x.1 : Int))).other (B' := wr.heap.size) (by omega) (.int .i64 n2)
                have hY3 := row_set (row_set HY2.out (B := (wr.heap.size + 1)) (by omega) (.int .i64 (x.1 : Int))) (B := wr.heap.size) (by omega) (.int .i64 n2)
                have hk3 := ((keeps_below HB2.out).trans (KeepsOthers.setCell V2 ⟨wr.heap.size + 1, 0, none⟩ (.int .i64 (x.1 : Int)))).trans (KeepsOthers.setCell _ ⟨wr.heap.size, 0, none⟩ (.int .i64 n2))
                have hNV := HN.out.lt
                have hb3 := ((HB2.out.mono (Nat.le_of_lt hNV)).setCell (p := ⟨wr.heap.size + 1, 0, none⟩) (by simp) (.int .i64 (x.1 : Int))).setCell (p := ⟨wr.heap.size, 0, none⟩) (Nat.le_refl _) (.int .i64 n2)
                have hw3 := ((HBV.out.trans (HB2.out.mono HBV.out.size)).setCell (p := ⟨wr.heap.size + 1, 0, none⟩) (by simp; omega) (.int .i64 (x.1 : Int))).setCell (p := ⟨wr.heap.size, 0, none⟩) (by simp; omega) (.int .i64 n2)
                refine ⟨hk3.from _, hb3, ⟨⟨n2, (x.1 : Int), hN3, hL3, fun hpre => ⟨HLEN.out hpre, .inr ⟨x, by simp, rfl⟩, fun j h1 h2 => ?_⟩⟩, hM3, hT3, hY3⟩, hw3⟩
                by_cases hj : j ≤ pre.length
                · exact (HP.out (pre_snoc hpre).1).2.2 j h1 hj
                · have h3 := HLEN.out hpre
                  have h4 : j = (pre ++ [x]).length := by simp at h2 ⊢; omega
                  rw [h4, ← h3]
                  exact hm3.out
          · have hxy' : (x.2 != y) = true := by simp [hxy]
            clear hxy
            have HNO : Hid (¬ (pre ++ [x] <+: allR R)) := fun h => by have h2 := (pre_snoc h).2.1; rw [← HGR.out] at h2; cases h2; simp at hxy'
            gi_wp2_with (first
              | (refine ld_in rfl 31 _ rfl (X + 1) rfl 31 _ _ _ HY.out Tryd.underlying31 rfl (by rw [HD.out.size]; exact row_info) ?_)
              | (refine ⟨trivial, ?_⟩; gi_at_call 13; refine (CallsIn.inRound lp (callsIn_wide.2 (HG.out V))).mono ?_; rintro e V2 ⟨rfl, hb⟩; have HN2 : Hid (Boxed V2 wr.heap.size 3 (.int .i64 nn)) := (hb.block _ HN.out.lt).trans HN.out; have HL2 : Hid (Boxed V2 (wr.heap.size + 1) 3 (.int .i64 ll)) := (hb.block _ HL.out.lt).trans HL.out; have HM2 : Hid (Boxed V2 w.heap.size 3 (.int .i64 most)) := (hb.block _ HM.out.lt).trans HM.out; have HT2 : Hid (Boxed V2 (w.heap.size + 1) 4 (.bool false)) := (hb.block _ HTb.out.lt).trans HTb.out; have HY2 : Hid (V2.heap[X + 1]? = some (.cells d 31 (0, 0))) := (hb.block _ (Array.getElem?_eq_some_iff.1 HY.out).1).trans HY.out; have cN := HN2.out.cell; have fN := HN2.out.frozen; have cL := HL2.out.cell; have fL := HL2.out.frozen; have cM := HM2.out.cell; have cT := HT2.out.cell; have fT := HT2.out.frozen; have HB2 := Lib.hid hb; clear hb))
            exact ⟨((keeps_below HB2.out).trans (KeepsOthers.setCell _ _ _)).from _, .inl ⟨rfl, HNO.out⟩, (HBV.out.trans (HB2.out.mono HBV.out.size)).setCell (p := ⟨(w.heap.size + 1), 0, none⟩) (by simp) _⟩
      case done =>
        rintro D ys V hD rfl ⟨⟨⟨nn, ll, hN, hL, hP⟩, hM, hTb, hY⟩, hBV⟩ hK
        obtain ⟨hnn, _, hj⟩ := hP (List.prefix_refl _)
        rw [all_len] at hnn hj
        clear hP hL
        obtain ⟨C, hC⟩ : ∃ C, C = cntR R 32 := ⟨_, rfl⟩
        have hC32 : C ≤ 32 := by rw [hC]; exact cnt_le R 32
        have HLN := Lib.hid (fun W => ref_Len6 R d HD.out W)
        rw [← hC] at HLN
        have HC := Lib.hid hC
        clear hC
        have HN6 : Hid (V.heap[wr.heap.size]? = some (.cells #[.int .i64 nn] 3 (0, 0))) := hN
        have HM6 : Hid (V.heap[w.heap.size]? = some (.cells #[.int .i64 most] 3 (0, 0))) := hM
        have HT6 : Hid (V.heap[w.heap.size + 1]? = some (.cells #[.bool false] 4 (0, 0))) := hTb
        have HY6 := Lib.hid hY
        have HK6 := Lib.hid hK
        have HW6 := Lib.hid hBV
        clear hN hM hTb hY hK hBV
        rw [← HC.out] at hnn hj
        subst hnn
        have HJ := Lib.hid hj
        clear hj
        by_cases h1 : most < 1
        · skip
          have hb := drawn_below V
          have HN7 := Lib.hid ((hb.block _ (Array.getElem?_eq_some_iff.1 HN6.out).1).trans HN6.out)
          have HM7 := Lib.hid ((hb.block _ (Array.getElem?_eq_some_iff.1 HM6.out).1).trans HM6.out)
          have HT7 := Lib.hid ((hb.block _ (Array.getElem?_eq_some_iff.1 HT6.out).1).trans HT6.out)
          have HY7 := Lib.hid ((hb.block _ (Array.getElem?_eq_some_iff.1 HY6.out).1).trans HY6.out)
          have HK7 := Lib.hid ((hb.block _ (Array.getElem?_eq_some_iff.1 HK6.out).1).trans HK6.out)
          have HW7 := Lib.hid (HW6.out.trans (hb.mono HW6.out.size))
          clear hb
          go_upto_region 23 with fail
          refine wp_region_noPanic ?_
          refine wp_region_T (S := fun W => W.cell? ⟨w.heap.size, 0, none⟩ = some (.int .i64 most)) [] (by kernel_rfl) (by exact cell_in HM7.out rfl) (fun hHeld => ?_)
          refine wpAnyT_take (i := 0) (oi := ⟨some 68, _, _, _, _, _⟩) (v := ?vg2_0) rfl (by kernel_rfl) (by kernel_rfl) (by kernel_rfl) (by kernel_rfl) (fun _ _ _ h => h) (Or.inl ⟨by rfl, ?hg2_0⟩) (by assumption) ?rg2_0
          case hg2_0 => (intro w hSw; (try dsimp only at hSw); first | (go_simp; done) | (go_simp; with_reducible rfl))
          (try simp only [Act.put, List.setIfInBounds_toArray, List.set_cons_zero, List.set_cons_succ])
          refine wpAnyT_take (i := 1) (oi := ⟨some 69, _, _, _, _, _⟩) (v := ?vg2_1) rfl (by kernel_rfl) (by kernel_rfl) (by kernel_rfl) (by kernel_rfl) (fun _ _ _ h => h) (Or.inl ⟨by rfl, ?hg2_1⟩) (by assumption) ?rg2_1
          case hg2_1 => (intro w hSw; (try dsimp only at hSw); first | (go_simp; done) | (go_simp; with_reducible rfl))
          (try simp only [Act.put, List.setIfInBounds_toArray, List.set_cons_zero, List.set_cons_succ])
          refine wpAnyT_take (i := 2) (oi := ⟨some 70, _, _, _, _, _⟩) (v := ?vg2_2) rfl (by kernel_rfl) (by kernel_rfl) (by kernel_rfl) (by kernel_rfl) (fun _ _ _ h => h) (Or.inl ⟨by rfl, ?hg2_2⟩) (by assumption) ?rg2_2
          case hg2_2 => (intro w hSw; (try dsimp only at hSw); first | (go_simp; done) | (go_simp; with_reducible rfl))
          (try simp only [Act.put, List.setIfInBounds_toArray, List.set_cons_zero, List.set_cons_succ])
          refine wpAnyT_take (i := 3) (oi := ⟨some 71, _, _, _, _, _⟩) (v := undef) rfl (by kernel_rfl) (by kernel_rfl) (by kernel_rfl) (by kernel_rfl) (fun _ _ _ h => h) (Or.inr ⟨by rfl, rfl⟩) (by assumption) ?_
          (try simp only [Act.put, List.setIfInBounds_toArray, List.set_cons_zero, List.set_cons_succ])
          refine wpAnyT_take (i := 4) (oi := ⟨some 72, _, _, _, _, _⟩) (v := undef) rfl (by kernel_rfl) (by kernel_rfl) (by kernel_rfl) (by kernel_rfl) (fun _ _ _ h => h) (Or.inr ⟨by rfl, rfl⟩) (by assumption) ?_
          (try simp only [Act.put, List.setIfInBounds_toArray, List.set_cons_zero, List.set_cons_succ])
          refine wpAnyT_take (i := 5) (oi := ⟨some 73, _, _, _, _, _⟩) (v := undef) rfl (by kernel_rfl) (by kernel_rfl) (by kernel_rfl) (by kernel_rfl) (fun _ _ _ h => h) (Or.inr ⟨by rfl, rfl⟩) (by assumption) ?_
          (try simp only [Act.put, List.setIfInBounds_toArray, List.set_cons_zero, List.set_cons_succ])
          refine wpAnyT_take (i := 6) (oi := ⟨some 74, _, _, _, _, _⟩) (v := undef) rfl (by kernel_rfl) (by kernel_rfl) (by kernel_rfl) (by kernel_rfl) (fun _ _ _ h => h) (Or.inr ⟨by rfl, rfl⟩) (by assumption) ?_
          (try simp only [Act.put, List.setIfInBounds_toArray, List.set_cons_zero, List.set_cons_succ])
          refine wpAnyT_take (i := 7) (oi := ⟨some 75, _, _, _, _, _⟩) (v := ?vg2_7) rfl (by kernel_rfl) (by kernel_rfl) (by kernel_rfl) (by kernel_rfl) (fun _ _ _ h => h) (Or.inl ⟨by rfl, ?hg2_7⟩) (by assumption) ?rg2_7
          case hg2_7 => (intro w hSw; (try dsimp only at hSw); first | (go_simp; done) | (go_simp; with_reducible rfl))
          (try simp only [Act.put, List.setIfInBounds_toArray, List.set_cons_zero, List.set_cons_succ])
          refine wpAnyT_done (by kernel_rfl) ?_ _
          refine NoPanic.normal ?_
          go_upto_region 24 with fail
          have hb := drawn_below V.drew
          have HN8 := Lib.hid ((hb.block _ (Array.getElem?_eq_some_iff.1 HN7.out).1).trans HN7.out)
          have HM8 := Lib.hid ((hb.block _ (Array.getElem?_eq_some_iff.1 HM7.out).1).trans HM7.out)
          have HT8 := Lib.hid ((hb.block _ (Array.getElem?_eq_some_iff.1 HT7.out).1).trans HT7.out)
          have HY8 := Lib.hid ((hb.block _ (Array.getElem?_eq_some_iff.1 HY7.out).1).trans HY7.out)
          have HK8 := Lib.hid ((hb.block _ (Array.getElem?_eq_some_iff.1 HK7.out).1).trans HK7.out)
          have HW8 := Lib.hid (HW7.out.trans (hb.mono HW7.out.size))
          clear hb
          refine wp_region_noPanic ?_
          refine wp_region_T (S := fun W => W.cell? ⟨wr.heap.size, 0, none⟩ = some (.int .i64 (C : Int)) ∧ W.heap[X + 1]? = some (.cells d 31 (0, 0))) [4] (by kernel_rfl) (by first | exact ⟨cell_in HN8.out rfl, HY8.out⟩ | exact ⟨cell_in HN9.out rfl, HY9.out⟩) (fun hHeld => ?_)
          refine wpAnyT_take (i := 0) (oi := ⟨some 76, _, _, _, _, _⟩) (v := ?vg3_0) rfl (by kernel_rfl) (by kernel_rfl) (by kernel_rfl) (by kernel_rfl) (fun _ _ _ h => h) (Or.inl ⟨by rfl, ?hg3_0⟩) (by assumption) ?rg3_0
          case hg3_0 => (intro w hSw; (try dsimp only at hSw); first | (go_simp; done) | (go_simp; with_reducible rfl))
          (try simp only [Act.put, List.setIfInBounds_toArray, List.set_cons_zero, List.set_cons_succ])
          refine wpAnyT_take (i := 1) (oi := ⟨some 77, _, _, _, _, _⟩) (v := _) rfl (by kernel_rfl) (by kernel_rfl) (by kernel_rfl) (by kernel_rfl) (fun _ _ _ h => h) (yieldsIf_load_row (by rfl) 31 _ rfl (X + 1) rfl d 31 (0, 0) _ (fun w hw => hw.2) Tryd.underlying31 rfl (by rw [HD.out.size]; exact row_info)) (by assumption) ?_
          (try simp only [Act.put, List.setIfInBounds_toArray, List.set_cons_zero, List.set_cons_succ])
          refine wpAnyT_one (i := 2) (o := ⟨some 78, _, _, _, _, _⟩) (by kernel_rfl) rfl (fun K hK => ?_)
          go_simp
          go_at_call 16
          refine (HLN.out _).mono ?_
          rintro e w9 ⟨rfl, hb⟩
          have HN9 := Lib.hid ((hb.block _ (Array.getElem?_eq_some_iff.1 HN8.out).1).trans HN8.out)
          have HM9 := Lib.hid ((hb.block _ (Array.getElem?_eq_some_iff.1 HM8.out).1).trans HM8.out)
          have HT9 := Lib.hid ((hb.block _ (Array.getElem?_eq_some_iff.1 HT8.out).1).trans HT8.out)
          have HY9 := Lib.hid ((hb.block _ (Array.getElem?_eq_some_iff.1 HY8.out).1).trans HY8.out)
          have HK9 := Lib.hid ((hb.block _ (Array.getElem?_eq_some_iff.1 HK8.out).1).trans HK8.out)
          have HW9 := Lib.hid (HW8.out.trans (hb.mono HW8.out.size))
          clear hb
          (try go_wp2_with fail)
          refine hK.out _ _ (by first | exact ⟨cell_in HN8.out rfl, HY8.out⟩ | exact ⟨cell_in HN9.out rfl, HY9.out⟩) (fun hHeld => ?_)
          clear hK K
          (try simp only [Act.put, List.setIfInBounds_toArray, List.set_cons_zero, List.set_cons_succ])
          refine wpAnyT_take (i := 3) (oi := ⟨some 79, _, _, _, _, _⟩) (v := ?vg3_3) rfl (by kernel_rfl) (by kernel_rfl) (by kernel_rfl) (by kernel_rfl) (fun _ _ _ h => h) (Or.inl ⟨by rfl, ?hg3_3⟩) (by assumption) ?rg3_3
          case hg3_3 => (intro w hSw; (try dsimp only at hSw); first | (go_simp; done) | (go_simp; with_reducible rfl))
          (try simp only [Act.put, List.setIfInBounds_toArray, List.set_cons_zero, List.set_cons_succ])
          refine wpAnyT_last (i := 4) (o := ⟨none, _, _, _, _, _⟩) (by kernel_rfl) (by decide) rfl (fun K hK => ?_)
          have cT := cell_in HT9.out (j := 0) (v := .bool false) rfl
          have fT := (show Boxed w9 (w.heap.size + 1) 4 (.bool false) from HT9.out).frozen
          go_simp
          refine hK.out _ _ ?_
          clear hK K
          (try simp only [Act.put, List.setIfInBounds_toArray, List.set_cons_zero, List.set_cons_succ])
          refine wpAnyT_done (by kernel_rfl) ?_ _
          refine NoPanic.normal ?_
          go_wp2_with fail
          have hT9 : Boxed w9 (w.heap.size + 1) 4 (.bool false) := HT9.out
          have hT' := hT9.set (.bool true)
          have hK' : (w9.setCell ⟨w.heap.size + 1, 0, none⟩ (.bool true)).heap[D]? = some (.deferred (some [])) := (KeepsOthers.setCell w9 ⟨w.heap.size + 1, 0, none⟩ (.bool true)).same D _ HK9.out rfl
          have q4 := (bx_kept hT' (grownBy_putObj' _ D (.deferred none)) (fun r e => by cases e; exact ⟨_, hK', rfl⟩)).cell
          refine ⟨by simp [Act.put], .inl ⟨_, _, rfl, run_takeDeferred hK', .bool true, ?_, rfl, (HW9.out.setCell (p := ⟨w.heap.size + 1, 0, none⟩) (by simp) _).trans (belowK_b (w := w) (Nat.le_refl _) _ D _ _ (by omega) hK' rfl rfl)⟩⟩
          simp [results, Tryd.f5, go_sem, q4]
        · by_cases h2 : (C : Int) < most
          · skip
            have hb := drawn_below V
            have HN7 := Lib.hid ((hb.block _ (Array.getElem?_eq_some_iff.1 HN6.out).1).trans HN6.out)
            have HM7 := Lib.hid ((hb.block _ (Array.getElem?_eq_some_iff.1 HM6.out).1).trans HM6.out)
            have HT7 := Lib.hid ((hb.block _ (Array.getElem?_eq_some_iff.1 HT6.out).1).trans HT6.out)
            have HY7 := Lib.hid ((hb.block _ (Array.getElem?_eq_some_iff.1 HY6.out).1).trans HY6.out)
            have HK7 := Lib.hid ((hb.block _ (Array.getElem?_eq_some_iff.1 HK6.out).1).trans HK6.out)
            have HW7 := Lib.hid (HW6.out.trans (hb.mono HW6.out.size))
            clear hb
            go_upto_region 23 with fail
            refine wp_region_noPanic ?_
            refine wp_region_T (S := fun W => W.cell? ⟨w.heap.size, 0, none⟩ = some (.int .i64 most) ∧ W.heap[X + 1]? = some (.cells d 31 (0, 0))) [] (by kernel_rfl) (by first | exact ⟨cell_in HM7.out rfl, HY7.out⟩ | exact ⟨cell_in HM8.out rfl, HY8.out⟩) (fun hHeld => ?_)
            refine wpAnyT_take (i := 0) (oi := ⟨some 68, _, _, _, _, _⟩) (v := ?vg4_0) rfl (by kernel_rfl) (by kernel_rfl) (by kernel_rfl) (by kernel_rfl) (fun _ _ _ h => h) (Or.inl ⟨by rfl, ?hg4_0⟩) (by assumption) ?rg4_0
            case hg4_0 => (intro w hSw; (try dsimp only at hSw); first | (go_simp; done) | (go_simp; with_reducible rfl))
            (try simp only [Act.put, List.setIfInBounds_toArray, List.set_cons_zero, List.set_cons_succ])
            refine wpAnyT_take (i := 1) (oi := ⟨some 69, _, _, _, _, _⟩) (v := ?vg4_1) rfl (by kernel_rfl) (by kernel_rfl) (by kernel_rfl) (by kernel_rfl) (fun _ _ _ h => h) (Or.inl ⟨by rfl, ?hg4_1⟩) (by assumption) ?rg4_1
            case hg4_1 => (intro w hSw; (try dsimp only at hSw); first | (go_simp; done) | (go_simp; with_reducible rfl))
            (try simp only [Act.put, List.setIfInBounds_toArray, List.set_cons_zero, List.set_cons_succ])
            refine wpAnyT_take (i := 2) (oi := ⟨some 70, _, _, _, _, _⟩) (v := ?vg4_2) rfl (by kernel_rfl) (by kernel_rfl) (by kernel_rfl) (by kernel_rfl) (fun _ _ _ h => h) (Or.inl ⟨by rfl, ?hg4_2⟩) (by assumption) ?rg4_2
            case hg4_2 => (intro w hSw; (try dsimp only at hSw); first | (go_simp; done) | (go_simp; with_reducible rfl))
            (try simp only [Act.put, List.setIfInBounds_toArray, List.set_cons_zero, List.set_cons_succ])
            refine wpAnyT_take (i := 3) (oi := ⟨some 71, _, _, _, _, _⟩) (v := ?vg4_3) rfl (by kernel_rfl) (by kernel_rfl) (by kernel_rfl) (by kernel_rfl) (fun _ _ _ h => h) (Or.inl ⟨by rfl, ?hg4_3⟩) (by assumption) ?rg4_3
            case hg4_3 => (intro w hSw; (try dsimp only at hSw); first | (go_simp; done) | (go_simp; with_reducible rfl))
            (try simp only [Act.put, List.setIfInBounds_toArray, List.set_cons_zero, List.set_cons_succ])
            refine wpAnyT_take (i := 4) (oi := ⟨some 72, _, _, _, _, _⟩) (v := _) rfl (by kernel_rfl) (by kernel_rfl) (by kernel_rfl) (by kernel_rfl) (fun _ _ _ h => h) (yieldsIf_load_row (by rfl) 31 _ rfl (X + 1) rfl d 31 (0, 0) _ (fun w hw => hw.2) Tryd.underlying31 rfl (by rw [HD.out.size]; exact row_info)) (by assumption) ?_
            (try simp only [Act.put, List.setIfInBounds_toArray, List.set_cons_zero, List.set_cons_succ])
            refine wpAnyT_one (i := 5) (o := ⟨some 73, _, _, _, _, _⟩) (by kernel_rfl) rfl (fun K hK => ?_)
            go_simp
            go_at_call 16
            refine (HLN.out _).mono ?_
            rintro e w8 ⟨rfl, hb⟩
            have HN8 := Lib.hid ((hb.block _ (Array.getElem?_eq_some_iff.1 HN7.out).1).trans HN7.out)
            have HM8 := Lib.hid ((hb.block _ (Array.getElem?_eq_some_iff.1 HM7.out).1).trans HM7.out)
            have HT8 := Lib.hid ((hb.block _ (Array.getElem?_eq_some_iff.1 HT7.out).1).trans HT7.out)
            have HY8 := Lib.hid ((hb.block _ (Array.getElem?_eq_some_iff.1 HY7.out).1).trans HY7.out)
            have HK8 := Lib.hid ((hb.block _ (Array.getElem?_eq_some_iff.1 HK7.out).1).trans HK7.out)
            have HW8 := Lib.hid (HW7.out.trans (hb.mono HW7.out.size))
            clear hb
            (try go_wp2_with fail)
            refine hK.out _ _ (by first | exact ⟨cell_in HM7.out rfl, HY7.out⟩ | exact ⟨cell_in HM8.out rfl, HY8.out⟩) (fun hHeld => ?_)
            clear hK K
            (try simp only [Act.put, List.setIfInBounds_toArray, List.set_cons_zero, List.set_cons_succ])
            refine wpAnyT_take (i := 6) (oi := ⟨some 74, _, _, _, _, _⟩) (v := ?vg4_6) rfl (by kernel_rfl) (by kernel_rfl) (by kernel_rfl) (by kernel_rfl) (fun _ _ _ h => h) (Or.inl ⟨by rfl, ?hg4_6⟩) (by assumption) ?rg4_6
            case hg4_6 => (intro w hSw; (try dsimp only at hSw); first | (go_simp; done) | (go_simp; with_reducible rfl))
            (try simp only [Act.put, List.setIfInBounds_toArray, List.set_cons_zero, List.set_cons_succ])
            refine wpAnyT_take (i := 7) (oi := ⟨some 75, _, _, _, _, _⟩) (v := ?vg4_7) rfl (by kernel_rfl) (by kernel_rfl) (by kernel_rfl) (by kernel_rfl) (fun _ _ _ h => h) (Or.inl ⟨by rfl, ?hg4_7⟩) (by assumption) ?rg4_7
            case hg4_7 => (intro w hSw; (try dsimp only at hSw); first | (go_simp; done) | (go_simp; with_reducible rfl))
            (try simp only [Act.put, List.setIfInBounds_toArray, List.set_cons_zero, List.set_cons_succ])
            refine wpAnyT_done (by kernel_rfl) ?_ _
            refine NoPanic.normal ?_
            go_upto_region 24 with fail
            have hb := drawn_below w8
            have HN9 := Lib.hid ((hb.block _ (Array.getElem?_eq_some_iff.1 HN8.out).1).trans HN8.out)
            have HM9 := Lib.hid ((hb.block _ (Array.getElem?_eq_some_iff.1 HM8.out).1).trans HM8.out)
            have HT9 := Lib.hid ((hb.block _ (Array.getElem?_eq_some_iff.1 HT8.out).1).trans HT8.out)
            have HY9 := Lib.hid ((hb.block _ (Array.getElem?_eq_some_iff.1 HY8.out).1).trans HY8.out)
            have HK9 := Lib.hid ((hb.block _ (Array.getElem?_eq_some_iff.1 HK8.out).1).trans HK8.out)
            have HW9 := Lib.hid (HW8.out.trans (hb.mono HW8.out.size))
            clear hb
            refine wp_region_noPanic ?_
            refine wp_region_T (S := fun W => W.cell? ⟨wr.heap.size, 0, none⟩ = some (.int .i64 (C : Int)) ∧ W.heap[X + 1]? = some (.cells d 31 (0, 0))) [4] (by kernel_rfl) (by first | exact ⟨cell_in HN9.out rfl, HY9.out⟩ | exact ⟨cell_in HN10.out rfl, HY10.out⟩) (fun hHeld => ?_)
            refine wpAnyT_take (i := 0) (oi := ⟨some 76, _, _, _, _, _⟩) (v := ?vg5_0) rfl (by kernel_rfl) (by kernel_rfl) (by kernel_rfl) (by kernel_rfl) (fun _ _ _ h => h) (Or.inl ⟨by rfl, ?hg5_0⟩) (by assumption) ?rg5_0
            case hg5_0 => (intro w hSw; (try dsimp only at hSw); first | (go_simp; done) | (go_simp; with_reducible rfl))
            (try simp only [Act.put, List.setIfInBounds_toArray, List.set_cons_zero, List.set_cons_succ])
            refine wpAnyT_take (i := 1) (oi := ⟨some 77, _, _, _, _, _⟩) (v := _) rfl (by kernel_rfl) (by kernel_rfl) (by kernel_rfl) (by kernel_rfl) (fun _ _ _ h => h) (yieldsIf_load_row (by rfl) 31 _ rfl (X + 1) rfl d 31 (0, 0) _ (fun w hw => hw.2) Tryd.underlying31 rfl (by rw [HD.out.size]; exact row_info)) (by assumption) ?_
            (try simp only [Act.put, List.setIfInBounds_toArray, List.set_cons_zero, List.set_cons_succ])
            refine wpAnyT_one (i := 2) (o := ⟨some 78, _, _, _, _, _⟩) (by kernel_rfl) rfl (fun K hK => ?_)
            go_simp
            go_at_call 16
            refine (HLN.out _).mono ?_
            rintro e w10 ⟨rfl, hb⟩
            have HN10 := Lib.hid ((hb.block _ (Array.getElem?_eq_some_iff.1 HN9.out).1).trans HN9.out)
            have HM10 := Lib.hid ((hb.block _ (Array.getElem?_eq_some_iff.1 HM9.out).1).trans HM9.out)
            have HT10 := Lib.hid ((hb.block _ (Array.getElem?_eq_some_iff.1 HT9.out).1).trans HT9.out)
            have HY10 := Lib.hid ((hb.block _ (Array.getElem?_eq_some_iff.1 HY9.out).1).trans HY9.out)
            have HK10 := Lib.hid ((hb.block _ (Array.getElem?_eq_some_iff.1 HK9.out).1).trans HK9.out)
            have HW10 := Lib.hid (HW9.out.trans (hb.mono HW9.out.size))
            clear hb
            (try go_wp2_with fail)
            refine hK.out _ _ (by first | exact ⟨cell_in HN9.out rfl, HY9.out⟩ | exact ⟨cell_in HN10.out rfl, HY10.out⟩) (fun hHeld => ?_)
            clear hK K
            (try simp only [Act.put, List.setIfInBounds_toArray, List.set_cons_zero, List.set_cons_succ])
            refine wpAnyT_take (i := 3) (oi := ⟨some 79, _, _, _, _, _⟩) (v := ?vg5_3) rfl (by kernel_rfl) (by kernel_rfl) (by kernel_rfl) (by kernel_rfl) (fun _ _ _ h => h) (Or.inl ⟨by rfl, ?hg5_3⟩) (by assumption) ?rg5_3
            case hg5_3 => (intro w hSw; (try dsimp only at hSw); first | (go_simp; done) | (go_simp; with_reducible rfl))
            (try simp only [Act.put, List.setIfInBounds_toArray, List.set_cons_zero, List.set_cons_succ])
            refine wpAnyT_last (i := 4) (o := ⟨none, _, _, _, _, _⟩) (by kernel_rfl) (by decide) rfl (fun K hK => ?_)
            have cT := cell_in HT10.out (j := 0) (v := .bool false) rfl
            have fT := (show Boxed w10 (w.heap.size + 1) 4 (.bool false) from HT10.out).frozen
            go_simp
            refine hK.out _ _ ?_
            clear hK K
            (try simp only [Act.put, List.setIfInBounds_toArray, List.set_cons_zero, List.set_cons_succ])
            refine wpAnyT_done (by kernel_rfl) ?_ _
            refine NoPanic.normal ?_
            go_wp2_with fail
            have hT10 : Boxed w10 (w.heap.size + 1) 4 (.bool false) := HT10.out
            have hT' := hT10.set (.bool true)
            have hK' : (w10.setCell ⟨w.heap.size + 1, 0, none⟩ (.bool true)).heap[D]? = some (.deferred (some [])) := (KeepsOthers.setCell w10 ⟨w.heap.size + 1, 0, none⟩ (.bool true)).same D _ HK10.out rfl
            have q4 := (bx_kept hT' (grownBy_putObj' _ D (.deferred none)) (fun r e => by cases e; exact ⟨_, hK', rfl⟩)).cell
            refine ⟨by simp [Act.put], .inl ⟨_, _, rfl, run_takeDeferred hK', .bool true, ?_, rfl, (HW10.out.setCell (p := ⟨w.heap.size + 1, 0, none⟩) (by simp) _).trans (belowK_b (w := w) (Nat.le_refl _) _ D _ _ (by omega) hK' rfl rfl)⟩⟩
            simp [results, Tryd.f5, go_sem, q4]
          · exact absurd (show ((most.toNat : Nat) : Int) = most by omega) (HJ.out most.toNat (by omega) (by omega))
      case stop =>
        rintro D k pre V hD ⟨m, hm, rfl⟩ ⟨hx | ⟨rfl, hne, ⟨nn, hN, hP⟩, hM, hTb, hY⟩, hBV⟩ hK
        · exact absurd (List.take_prefix m _) hx.2
        · obtain ⟨hnn, hmo⟩ := hP (List.take_prefix m _)
          have hle := (List.take_prefix m (allR R)).length_le
          have hpos : 0 < ((allR R).take m).length := List.length_pos_iff.2 hne
          rw [all_len] at hle
          clear hP hne hm
          refine wpIn_wide.2 ?_
          obtain ⟨C, hC⟩ : ∃ C, C = cntR R 32 := ⟨_, rfl⟩
          have hC32 : C ≤ 32 := by rw [hC]; exact cnt_le R 32
          have HLN := Lib.hid (fun W => ref_Len6 R d HD.out W)
          rw [← hC] at HLN
          have HC := Lib.hid hC
          clear hC
          have HN6 : Hid (V.heap[wr.heap.size]? = some (.cells #[.int .i64 nn] 3 (0, 0))) := hN
          have HM6 : Hid (V.heap[w.heap.size]? = some (.cells #[.int .i64 most] 3 (0, 0))) := hM
          have HT6 : Hid (V.heap[w.heap.size + 1]? = some (.cells #[.bool false] 4 (0, 0))) := hTb
          have HY6 := Lib.hid hY
          have HK6 := Lib.hid hK
          have HW6 := Lib.hid hBV
          clear hN hM hTb hY hK hBV
          rw [← HC.out] at hle
          have h1 : ¬ most < 1 := by omega
          have h2 : ¬ (C : Int) < most := by omega
          have HMO := Lib.hid hmo
          clear hnn hle hpos
          have hb := drawn_below V
          have HN7 := Lib.hid ((hb.block _ (Array.getElem?_eq_some_iff.1 HN6.out).1).trans HN6.out)
          have HM7 := Lib.hid ((hb.block _ (Array.getElem?_eq_some_iff.1 HM6.out).1).trans HM6.out)
          have HT7 := Lib.hid ((hb.block _ (Array.getElem?_eq_some_iff.1 HT6.out).1).trans HT6.out)
          have HY7 := Lib.hid ((hb.block _ (Array.getElem?_eq_some_iff.1 HY6.out).1).trans HY6.out)
          have HK7 := Lib.hid ((hb.block _ (Array.getElem?_eq_some_iff.1 HK6.out).1).trans HK6.out)
          have HW7 := Lib.hid (HW6.out.trans (hb.mono HW6.out.size))
          clear hb
          go_upto_region 23 with fail
          refine wp_region_noPanic ?_
          refine wp_region_T (S := fun W => W.cell? ⟨w.heap.size, 0, none⟩ = some (.int .i64 most) ∧ W.heap[X + 1]? = some (.cells d 31 (0, 0))) [] (by kernel_rfl) (by first | exact ⟨cell_in HM7.out rfl, HY7.out⟩ | exact ⟨cell_in HM8.out rfl, HY8.out⟩) (fun hHeld => ?_)
          refine wpAnyT_take (i := 0) (oi := ⟨some 68, _, _, _, _, _⟩) (v := ?vg6_0) rfl (by kernel_rfl) (by kernel_rfl) (by kernel_rfl) (by kernel_rfl) (fun _ _ _ h => h) (Or.inl ⟨by rfl, ?hg6_0⟩) (by assumption) ?rg6_0
          case hg6_0 => (intro w hSw; (try dsimp only at hSw); first | (go_simp; done) | (go_simp; with_reducible rfl))
          (try simp only [Act.put, List.setIfInBounds_toArray, List.set_cons_zero, List.set_cons_succ])
          refine wpAnyT_take (i := 1) (oi := ⟨some 69, _, _, _, _, _⟩) (v := ?vg6_1) rfl (by kernel_rfl) (by kernel_rfl) (by kernel_rfl) (by kernel_rfl) (fun _ _ _ h => h) (Or.inl ⟨by rfl, ?hg6_1⟩) (by assumption) ?rg6_1
          case hg6_1 => (intro w hSw; (try dsimp only at hSw); first | (go_simp; done) | (go_simp; with_reducible rfl))
          (try simp only [Act.put, List.setIfInBounds_toArray, List.set_cons_zero, List.set_cons_succ])
          refine wpAnyT_take (i := 2) (oi := ⟨some 70, _, _, _, _, _⟩) (v := ?vg6_2) rfl (by kernel_rfl) (by kernel_rfl) (by kernel_rfl) (by kernel_rfl) (fun _ _ _ h => h) (Or.inl ⟨by rfl, ?hg6_2⟩) (by assumption) ?rg6_2
          case hg6_2 => (intro w hSw; (try dsimp only at hSw); first | (go_simp; done) | (go_simp; with_reducible rfl))
          (try simp only [Act.put, List.setIfInBounds_toArray, List.set_cons_zero, List.set_cons_succ])
          refine wpAnyT_take (i := 3) (oi := ⟨some 71, _, _, _, _, _⟩) (v := ?vg6_3) rfl (by kernel_rfl) (by kernel_rfl) (by kernel_rfl) (by kernel_rfl) (fun _ _ _ h => h) (Or.inl ⟨by rfl, ?hg6_3⟩) (by assumption) ?rg6_3
          case hg6_3 => (intro w hSw; (try dsimp only at hSw); first | (go_simp; done) | (go_simp; with_reducible rfl))
          (try simp only [Act.put, List.setIfInBounds_toArray, List.set_cons_zero, List.set_cons_succ])
          refine wpAnyT_take (i := 4) (oi := ⟨some 72, _, _, _, _, _⟩) (v := _) rfl (by kernel_rfl) (by kernel_rfl) (by kernel_rfl) (by kernel_rfl) (fun _ _ _ h => h) (yieldsIf_load_row (by rfl) 31 _ rfl (X + 1) rfl d 31 (0, 0) _ (fun w hw => hw.2) Tryd.underlying31 rfl (by rw [HD.out.size]; exact row_info)) (by assumption) ?_
          (try simp only [Act.put, List.setIfInBounds_toArray, List.set_cons_zero, List.set_cons_succ])
          refine wpAnyT_one (i := 5) (o := ⟨some 73, _, _, _, _, _⟩) (by kernel_rfl) rfl (fun K hK => ?_)
          go_simp
          go_at_call 16
          refine (HLN.out _).mono ?_
          rintro e w8 ⟨rfl, hb⟩
          have HN8 := Lib.hid ((hb.block _ (Array.getElem?_eq_some_iff.1 HN7.out).1).trans HN7.out)
          have HM8 := Lib.hid ((hb.block _ (Array.getElem?_eq_some_iff.1 HM7.out).1).trans HM7.out)
          have HT8 := Lib.hid ((hb.block _ (Array.getElem?_eq_some_iff.1 HT7.out).1).trans HT7.out)
          have HY8 := Lib.hid ((hb.block _ (Array.getElem?_eq_some_iff.1 HY7.out).1).trans HY7.out)
          have HK8 := Lib.hid ((hb.block _ (Array.getElem?_eq_some_iff.1 HK7.out).1).trans HK7.out)
          have HW8 := Lib.hid (HW7.out.trans (hb.mono HW7.out.size))
          clear hb
          (try go_wp2_with fail)
          refine hK.out _ _ (by first | exact ⟨cell_in HM7.out rfl, HY7.out⟩ | exact ⟨cell_in HM8.out rfl, HY8.out⟩) (fun hHeld => ?_)
          clear hK K
          (try simp only [Act.put, List.setIfInBounds_toArray, List.set_cons_zero, List.set_cons_succ])
          refine wpAnyT_take (i := 6) (oi := ⟨some 74, _, _, _, _, _⟩) (v := ?vg6_6) rfl (by kernel_rfl) (by kernel_rfl) (by kernel_rfl) (by kernel_rfl) (fun _ _ _ h => h) (Or.inl ⟨by rfl, ?hg6_6⟩) (by assumption) ?rg6_6
          case hg6_6 => (intro w hSw; (try dsimp only at hSw); first | (go_simp; done) | (go_simp; with_reducible rfl))
          (try simp only [Act.put, List.setIfInBounds_toArray, List.set_cons_zero, List.set_cons_succ])
          refine wpAnyT_take (i := 7) (oi := ⟨some 75, _, _, _, _, _⟩) (v := ?vg6_7) rfl (by kernel_rfl) (by kernel_rfl) (by kernel_rfl) (by kernel_rfl) (fun _ _ _ h => h) (Or.inl ⟨by rfl, ?hg6_7⟩) (by assumption) ?rg6_7
          case hg6_7 => (intro w hSw; (try dsimp only at hSw); first | (go_simp; done) | (go_simp; with_reducible rfl))
          (try simp only [Act.put, List.setIfInBounds_toArray, List.set_cons_zero, List.set_cons_succ])
          refine wpAnyT_done (by kernel_rfl) ?_ _
          refine NoPanic.normal ?_
          have cN := cell_in HN8.out (j := 0) (v := .int .i64 nn) rfl
          have cM := cell_in HM8.out (j := 0) (v := .int .i64 most) rfl
          have cT := cell_in HT8.out (j := 0) (v := .bool false) rfl
          have fT := (show Boxed w8 (w.heap.size + 1) 4 (.bool false) from HT8.out).frozen
          obtain rfl := HMO.out
          go_wp2_with fail
          have hT8 : Boxed w8 (w.heap.size + 1) 4 (.bool false) := HT8.out
          have hT' := hT8.set (.bool true)
          have hK' : (w8.setCell ⟨w.heap.size + 1, 0, none⟩ (.bool true)).heap[D]? = some (.deferred (some [])) := (KeepsOthers.setCell w8 ⟨w.heap.size + 1, 0, none⟩ (.bool true)).same D _ HK8.out rfl
          have q4 := (bx_kept hT' (grownBy_putObj' _ D (.deferred none)) (fun r e => by cases e; exact ⟨_, hK', rfl⟩)).cell
          refine ⟨by simp [Act.put], .inl ⟨_, _, rfl, run_takeDeferred hK', .bool true, ?_, rfl, (HW8.out.setCell (p := ⟨w.heap.size + 1, 0, none⟩) (by simp) _).trans (belowK_b (w := w) (Nat.le_refl _) _ D _ _ (by omega) hK' rfl rfl)⟩⟩
          simp [results, Tryd.f5, go_sem, q4]
end Go.Proofs.YtmdfpkklnaekmaaDoor
