/- Layer 8's law RopeWalks, over package rope as it landed. (written by tools/gen08/walks8.py) -/
import Derived.Test.YtldemoflgahdgaaLaw08Live
import Derived.Test.YtldemoflgahdgaaRp14
import Derived.Test.YtldemoflgahdgaaSeqNil
import Derived.Deep.CutRange
namespace Go.Proofs.Ytldemoflgahdgaa
open Go.RowKit Go.Shelf
set_option maxRecDepth 1000000
set_option linter.unusedSimpArgs false
attribute [local go_sem] Oper.semAt_some

/-- One place more. -/
theorem place_snoc8 {N : Nat} {pre : List (Nat × Int)} {x : Nat × Int} (h : pre ++ [x] <+: placesL (runL 5 N)) : pre <+: placesL (runL 5 N) ∧ x.1 = pre.length ∧ x.2 = wrap64 (5 + (x.1 : Int)) ∧ pre.length < N := by
  have h1 := (List.prefix_append pre [x]).trans h
  have hl := h.length_le
  rw [placesL_len, runL_len, List.length_append, List.length_singleton] at hl
  have h2 : (pre ++ [x])[pre.length]? = some x := by simp
  have h3 := h.getElem (i := pre.length) (by simp)
  have h4 : x = (placesL (runL 5 N))[pre.length]'(by rw [placesL_len, runL_len]; omega) := by rw [← h3]; simp
  have h5 : x = (pre.length, (runL 5 N).getD pre.length 0) := by rw [h4]; simp [placesL]
  rw [runL_at _ (by omega)] at h5
  exact ⟨h1, by rw [h5], by rw [h5], by omega⟩
theorem bx_cell {W : World} {B : Nat} {t : TypeId} {v : Value} (h : W.heap[B]? = some (.cells #[v] t (0, 0))) : W.cell? ⟨B, 0, none⟩ = some v := Boxed.cell h
theorem bx_frozen {W : World} {B : Nat} {t : TypeId} {v : Value} (h : W.heap[B]? = some (.cells #[v] t (0, 0))) : W.frozen? ⟨B, 0, none⟩ = false := Boxed.frozen h
theorem root_kept {S : Nat → Prop} {A B : World} {c : Array Value} {l : List Int} {row : Option Nat} (h : RootR S A c l) (hg : A.grownBy B row) (hr : ∀ r, row = some r → ∃ o : Obj, A.heap[r]? = some o ∧ o.isCells = false) : RootR S B c l :=
  h.keptT hg (fun X e => by
    obtain ⟨o, h1, h2⟩ := hr X e
    exact ⟨o, h1, fun cs fr => ⟨fun e => (by rw [e] at h2; cases h2), fun e => (by rw [e] at h2; cases h2)⟩⟩)
theorem list_l (W : World) (c : Array Value) (l : List Int) (h : RL W c l) (hN : l.length ≤ 100000) : Calls Try.prog 19 #[.agg c] W fun e W' => ∃ v, e = .returned v ∧ Owns W.heap.size v l W' ∧ Below W.heap.size W W' := rp_List W c l h hN
theorem of_l (W : World) {S : Nat → Prop} (v : Value) (l : List Int) (hv : Lst S W v l) (hN : l.length ≤ 100000) : Calls Try.prog 16 #[v] W fun e W' => ∃ c, e = .returned (.agg c) ∧ RL W' c l ∧ Below W.heap.size W W' :=
  (rp_Of W v l hv.cutI hN).mono fun _ _ ⟨c, e, hr, hb⟩ => ⟨c, e, hr.rl, hb⟩
set_option maxHeartbeats 4000000 in
theorem ropeWalks_of (n most : Int) (w : World) : Calls Try.prog 5 #[.int .i64 n, .int .i64 most] w fun e w' => e = .returned (.bool true) ∧ Below w.heap.size w w' := by
  by_cases h1 : n < 0
  · as_aux_lemma =>
    go_enter Try.func5, Try.ntmps5
    go_upto_region 1 with fail
    obtain ⟨w0, hw0⟩ : ∃ w0, (w.alloc (.cells #[.int .i64 most] 3)).alloc (.cells #[.bool false] 4) = w0 := ⟨_, rfl⟩
    rw [hw0]
    obtain ⟨hb, hx, hy, _⟩ := two_new hw0
    have HM := Lib.hid hx
    have HT := Lib.hid hy
    have HB := Lib.hid hb
    clear hx hy hb hw0
    go_wp2_with (first
      | (go_at_call 8; with_reducible refine (live8 _).mono ?_; rintro e w1 ⟨rfl, hb⟩; replace HT := Lib.hid ((hb.block _ (Array.getElem?_eq_some_iff.1 HT.out).1).trans HT.out); replace HM := Lib.hid ((hb.block _ (Array.getElem?_eq_some_iff.1 HM.out).1).trans HM.out); replace HB := Lib.hid (HB.out.trans (hb.mono HB.out.size)); clear hb)
      | (refine st_cell rfl 4 _ _ rfl (w.heap.size + 1) 0 (.bool true) rfl rfl rfl 4 #[.bool false] HT.out bool_size (by decide) ?_; intro w3 h3 k3))
    have c3 : w3.cell? ⟨w.heap.size + 1, 0, none⟩ = some (.bool true) := cell_in h3 rfl
    refine bodyPost_ret (v := .bool true) (by simp [results, Try.f5, go_sem, Act.put, c3]) rfl ⟨rfl, HB.out.trans (k3.below (by omega))⟩
  by_cases h2 : 2500 < n
  · as_aux_lemma =>
    go_enter Try.func5, Try.ntmps5
    go_upto_region 1 with fail
    obtain ⟨w0, hw0⟩ : ∃ w0, (w.alloc (.cells #[.int .i64 most] 3)).alloc (.cells #[.bool false] 4) = w0 := ⟨_, rfl⟩
    rw [hw0]
    obtain ⟨hb, hx, hy, _⟩ := two_new hw0
    have HM := Lib.hid hx
    have HT := Lib.hid hy
    have HB := Lib.hid hb
    clear hx hy hb hw0
    go_wp2_with (first
      | (go_at_call 8; with_reducible refine (live8 _).mono ?_; rintro e w1 ⟨rfl, hb⟩; replace HT := Lib.hid ((hb.block _ (Array.getElem?_eq_some_iff.1 HT.out).1).trans HT.out); replace HM := Lib.hid ((hb.block _ (Array.getElem?_eq_some_iff.1 HM.out).1).trans HM.out); replace HB := Lib.hid (HB.out.trans (hb.mono HB.out.size)); clear hb)
      | (refine st_cell rfl 4 _ _ rfl (w.heap.size + 1) 0 (.bool true) rfl rfl rfl 4 #[.bool false] HT.out bool_size (by decide) ?_; intro w3 h3 k3))
    have c3 : w3.cell? ⟨w.heap.size + 1, 0, none⟩ = some (.bool true) := cell_in h3 rfl
    refine bodyPost_ret (v := .bool true) (by simp [results, Try.f5, go_sem, Act.put, c3]) rfl ⟨rfl, HB.out.trans (k3.below (by omega))⟩
  obtain ⟨N, rfl⟩ : ∃ N : Nat, n = (N : Int) := ⟨n.toNat, by omega⟩
  have HRUN := Lib.hid (fun w => ref_Run 5 (N : Int) (by omega) w)
  rw [Int.toNat_natCast] at HRUN
  have hN : N ≤ 2500 := by omega
  have HN := Lib.hid hN
  refine (callsIn_wide (n := 5)).1 ?_
  refine callsIn_of_wp_marks Try.func5 rfl trivial ?_ rfl
  refine wpIn_wide.2 ?_
  simp only [Try.ntmps5, List.size_toArray, List.length_cons, List.length_nil, Nat.reduceAdd, Nat.reduceSub, Array.replicate_succ, Array.replicate_zero, List.push_toArray, List.append_toArray, List.nil_append, List.cons_append]
  go_upto_region 1 with fail
  obtain ⟨w0, hw0⟩ : ∃ w0, (w.alloc (.cells #[.int .i64 most] 3)).alloc (.cells #[.bool false] 4) = w0 := ⟨_, rfl⟩
  rw [hw0]
  obtain ⟨hb, hx, hy, _⟩ := two_new hw0
  have HM := Lib.hid hx
  have HT := Lib.hid hy
  have HB := Lib.hid hb
  clear hx hy hb hw0
  go_upto_region 4 with (first
    | (go_at_call 8; with_reducible refine (live8 _).mono ?_; rintro e w1 ⟨rfl, hb⟩; replace HT := Lib.hid ((hb.block _ (Array.getElem?_eq_some_iff.1 HT.out).1).trans HT.out); replace HM := Lib.hid ((hb.block _ (Array.getElem?_eq_some_iff.1 HM.out).1).trans HM.out); replace HB := Lib.hid (HB.out.trans (hb.mono HB.out.size)); clear hb)
    | (go_at_call 17; with_reducible refine (HRUN.out _).mono ?_; rintro e w2 ⟨v2, rfl, hi2, hb⟩; replace HT := Lib.hid ((hb.block _ (Array.getElem?_eq_some_iff.1 HT.out).1).trans HT.out); replace HM := Lib.hid ((hb.block _ (Array.getElem?_eq_some_iff.1 HM.out).1).trans HM.out); have HOF := Lib.hid (of_l w2 _ _ hi2.lst (by rw [runL_len]; have := HN.out; omega)); replace HB := Lib.hid (HB.out.trans (hb.mono HB.out.size)); clear hi2 hb)
    | (go_at_call 16; with_reducible refine HOF.out.mono ?_; rintro e w3 ⟨c, rfl, hv3, hb⟩; replace HT := Lib.hid ((hb.block _ (Array.getElem?_eq_some_iff.1 HT.out).1).trans HT.out); replace HM := Lib.hid ((hb.block _ (Array.getElem?_eq_some_iff.1 HM.out).1).trans HM.out); have HXW := Lib.hid (Array.getElem?_eq_some_iff.1 HT.out).1; have HC3 := Lib.hid hv3; replace HB := Lib.hid (HB.out.trans (hb.mono HB.out.size)); clear hv3 hb)
    | (refine st_agg rfl 35 _ _ rfl w3.heap.size c rfl rfl 35 #[.int .i64 0, .int .i64 0, .slice none 0 0, .slice none 0 0] (heap_alloc_last w3 _) (by rw [RL.size HC3.out]; exact rope_size) (by rw [RL.size HC3.out]; rfl) (RL.one HC3.out) ?_; intro w4 h4 k4; have HX := Lib.hid h4; have HC := Lib.hid (RL.but (RL.later HC3.out (Below.newly' w3 _)) k4 (heap_alloc_last w3 _) (by decide) (by decide)); have hb := (Below.newly' w3 (.cells #[.int .i64 0, .int .i64 0, .slice none 0 0, .slice none 0 0] 35)).trans (k4.below (Nat.le_refl _)); replace HT := Lib.hid ((hb.block _ (Array.getElem?_eq_some_iff.1 HT.out).1).trans HT.out); replace HM := Lib.hid ((hb.block _ (Array.getElem?_eq_some_iff.1 HM.out).1).trans HM.out); replace HB := Lib.hid (HB.out.trans (hb.mono HB.out.size)); clear h4 k4 hb))
  obtain ⟨X, hX⟩ : ∃ X, X = w3.heap.size := ⟨_, rfl⟩
  rw [← hX] at HX HXW
  rw [← hX]
  have HSZ := Lib.hid (RL.size HC.out)
  have HALL := Lib.hid (fun b w => callsIn_wide.1 (rp_All_in 5 b w))
  have hnil := fun (lb : Array Value) (W : World) => seq_nil 32 lb W
  clear hX HC3 HOF HRUN
  go_wp2_with (first
    | (refine ld_if rfl 35 _ rfl X rfl 35 _ _ _ HX.out Try.underlying35 rfl (by rw [HSZ.out]; exact rope_size) ?_)
    | (go_at_call 18; with_reducible refine (HALL.out _ _).mono ?_; rintro e w' ⟨rfl, rfl⟩))
  obtain ⟨L, hL⟩ : ∃ L, L = w4.heap.size := ⟨_, rfl⟩
  obtain ⟨W0, hW0⟩ : ∃ W0, (w4.alloc (.cells c 35)).alloc (.cells #[.int .i64 0] 3) = W0 := ⟨_, rfl⟩
  rw [hW0, ← hL]
  obtain ⟨hb0, hA0, hK0, hs0⟩ := two_new hW0
  have hv4 : RootR (fun _ => True) w4 c (runL 5 N) := HC.out
  have hv0 : RootR (fun g => g < L) W0 c (runL 5 N) := by rw [hL]; exact (hv4.old.weak (fun g hg => hg.2)).low hb0
  have hM0 : Boxed W0 w.heap.size 3 (.int .i64 most) := (hb0.block _ (Array.getElem?_eq_some_iff.1 HM.out).1).trans HM.out
  have hT0 : Boxed W0 (w.heap.size + 1) 4 (.bool false) := (hb0.block _ (Array.getElem?_eq_some_iff.1 HT.out).1).trans HT.out
  have hX0 : W0.heap[X]? = some (.cells c 35 (0, 0)) := (hb0.block _ (Array.getElem?_eq_some_iff.1 HX.out).1).trans HX.out
  have hB0 : Below w.heap.size w W0 := HB.out.trans (hb0.mono HB.out.size)
  have HXL : Hid (X < L) := by show _ < _; rw [hL]; exact (Array.getElem?_eq_some_iff.1 HX.out).1
  rw [← hL] at hA0 hK0 hs0
  have hXL := HXL.out
  have hXW := HXW.out
  clear hW0 hb0 hL hv4 HC HM HT HX HB HALL hnil
  refine (wpIn_wide (n := 5)).1 ?_
  obtain ⟨D, hD⟩ : ∃ D, D = W0.heap.size := ⟨_, rfl⟩
  have hDL : L + 2 = D := by rw [hD, hs0]
  have hDw : w.heap.size ≤ D := by have := hB0.size; omega
  refine wpIn_range_state (n₀ := L) (by omega) (gf := 32) (lb := #[.pointer (some ⟨L, 0, none⟩)]) rfl (enters_of Try.func32 (by kernel_rfl) rfl)
    (rp_all1 L L c (runL 5 N) W0 (by omega) hA0 hv0 (by rw [runL_len]; omega)) (fun _ => rfl)
    (fun pre V => ((∃ kk : Int, Boxed V (L + 1) 3 (.int .i64 kk) ∧ (pre <+: placesL (runL 5 N) → kk = (pre.length : Int) ∧ ∀ j : Nat, 1 ≤ j → j ≤ pre.length → (j : Int) ≠ most)) ∧ Boxed V w.heap.size 3 (.int .i64 most) ∧ Boxed V (w.heap.size + 1) 4 (.bool false) ∧ V.heap[X]? = some (.cells c 35 (0, 0)) ∧ RootR (fun g => g < L) V c (runL 5 N)) ∧ Below w.heap.size w V)
    (fun k pre V => ((k = .ret ∧ ¬ pre <+: placesL (runL 5 N)) ∨ (k = .exit 0 ∧ pre ≠ [] ∧ (∃ kk : Int, Boxed V (L + 1) 3 (.int .i64 kk) ∧ (pre <+: placesL (runL 5 N) → kk = (pre.length : Int) ∧ kk = most)) ∧ Boxed V w.heap.size 3 (.int .i64 most) ∧ Boxed V (w.heap.size + 1) 4 (.bool false) ∧ V.heap[X]? = some (.cells c 35 (0, 0)) ∧ RootR (fun g => g < L) V c (runL 5 N))) ∧ Below w.heap.size w V)
    (OwnFrom.and (Own.from (fun s A B row hs hg hr => by
      obtain ⟨⟨kk, h1, h2⟩, h3, h4, h5, h6⟩ := hs
      exact ⟨⟨kk, bx_kept h1 hg hr, h2⟩, bx_kept h3 hg hr, bx_kept h4 hg hr, row_kept h5 hg hr, root_kept h6 hg hr⟩) _) (ownFrom_below (Nat.le_refl _) (by omega)))
    (fun k => OwnFrom.and (Own.from (fun s A B row hs hg hr => by
      rcases hs with hs | ⟨e, hne, ⟨kk, h1, h2⟩, h3, h4, h5, h6⟩
      · exact .inl hs
      · exact .inr ⟨e, hne, ⟨kk, bx_kept h1 hg hr, h2⟩, bx_kept h3 hg hr, bx_kept h4 hg hr, row_kept h5 hg hr, root_kept h6 hg hr⟩) _) (ownFrom_below (Nat.le_refl _) (by omega)))
    (fun s A v ⟨⟨⟨kk, h1, h2⟩, h3, h4, h5, h6⟩, h7⟩ _ => ⟨⟨⟨kk, h1.other (by omega) _, h2⟩, h3.other (by omega) _, h4.other (by omega) _, row_set h5 (by omega) _, h6.kept (grownBy_setCell' A (W0.heap.size + 3) v) (fun Y e => by cases e; omega)⟩, h7.setCell (p := ⟨W0.heap.size + 3, 0, none⟩) (by show w.heap.size ≤ W0.heap.size + 3; omega) _⟩)
    ⟨⟨⟨0, hK0, fun _ => ⟨rfl, fun j h1 h2 => by simp at h2; omega⟩⟩, hM0, hT0, hX0, hv0⟩, hB0⟩
    (fun x => { tmps := #[.int .i64 (N : Int), .int .i64 most, undef, .pointer (some ⟨w.heap.size, 0, none⟩), .pointer (some ⟨w.heap.size + 1, 0, none⟩), .pointer (some ⟨X, 0, none⟩), (.func (.func 32) #[] #[.pointer (some ⟨L, 0, none⟩)]), .pointer (some ⟨L + 1, 0, none⟩), .int .i64 (x.1 : Int), .int .i64 x.2, undef, undef, .bool true, .bool false, .bool false, .int .i64 (N : Int), .bool (decide ((N : Int) < 0)), .bool (decide ((N : Int) < 0)), .bool (decide ((N : Int) < 0)), .int .i64 (N : Int), .bool (decide ((2500 : Int) < (N : Int))), .bool (decide ((N : Int) < 0) || decide ((2500 : Int) < (N : Int))), undef, .int .i64 (N : Int), v2, .agg c, .agg c, (.func (.func 32) #[] #[.pointer (some ⟨L, 0, none⟩)]), (.func (.func 32) #[] #[.pointer (some ⟨L, 0, none⟩)]), .bool false, (.func (.func 32) #[] #[.pointer (some ⟨L, 0, none⟩)]), .int .i64 (x.1 : Int), .int .i64 x.2, undef, undef, undef, undef, undef, undef, undef, undef, undef, undef, undef, undef, undef, undef, undef, undef, undef, undef, undef, undef, undef, undef, undef, undef, undef, undef, undef, undef, undef, undef, undef, undef, undef, undef, undef, undef, undef, undef, undef, undef, undef, undef, undef, undef, undef, undef, undef], defers := [] }) ?assign ?body ?done ?stop
  case assign =>
    intro l x W K hK
    gi_wp2
    exact hK
  case body =>
    clear hA0 hK0 hs0 hv0 hM0 hT0 hX0 hB0
    rintro lp pre x V hVs ⟨⟨⟨kk, hN, hP⟩, hM, hTb, hX, hV⟩, hBV⟩ _
    have cN := hN.cell
    have fN := hN.frozen
    have cM := hM.cell
    have cT := hTb.cell
    have fT := hTb.frozen
    have HNb := Lib.hid hN
    have HM := Lib.hid hM
    have HTb := Lib.hid hTb
    have HX := Lib.hid hX
    have HV := Lib.hid hV
    have HBV := Lib.hid hBV
    have HP := Lib.hid hP
    clear hN hM hTb hX hV hBV hP
    obtain ⟨z, hz⟩ : ∃ z, wrap64 (5 + (x.1 : Int)) = z := ⟨_, rfl⟩
    have HZ := Lib.hid hz
    by_cases hxk : (x.1 : Int) = kk
    case neg =>
      as_aux_lemma =>
      have t1 : ((x.1 : Int) != kk) = true := by simp [hxk]
      have HNO : Hid (¬ (pre ++ [x] <+: placesL (runL 5 N))) := fun h => by have h2 := place_snoc8 h; exact hxk (by rw [(HP.out h2.1).1, h2.2.1])
      clear hxk
      gi_wp2
      exact ⟨(KeepsOthers.setCell V _ _).from _, .inl ⟨rfl, HNO.out⟩, HBV.out.setCell (p := ⟨w.heap.size + 1, 0, none⟩) (by simp) _⟩
    have t1 : ((x.1 : Int) != kk) = false := by simp [hxk]
    clear hxk
    by_cases hxz : x.2 = z
    case neg =>
      as_aux_lemma =>
      have t2 : (x.2 != z) = true := by simp [hxz]
      have HNO : Hid (¬ (pre ++ [x] <+: placesL (runL 5 N))) := fun h => by have h2 := place_snoc8 h; exact hxz (by rw [h2.2.2.1, HZ.out])
      clear hxz
      gi_wp2
      exact ⟨(KeepsOthers.setCell V _ _).from _, .inl ⟨rfl, HNO.out⟩, HBV.out.setCell (p := ⟨w.heap.size + 1, 0, none⟩) (by simp) _⟩
    have t2 : (x.2 != z) = false := by simp [hxz]
    clear hxz
    obtain ⟨n2, hn2⟩ : ∃ n2, n2 = wrap64 (kk + 1) := ⟨_, rfl⟩
    have e2 : wrap64 (kk + 1) = n2 := hn2.symm
    have HLEN : Hid (pre ++ [x] <+: placesL (runL 5 N) → n2 = ((pre ++ [x]).length : Int)) := fun hpre => by
      have h1 := place_snoc8 hpre
      have h2 := (HP.out h1.1).1
      have h3 := h1.2.2.2
      rw [hn2, h2]
      simp
      unfold wrap64
      omega
    clear hn2
    have hN3 := HNb.out.set (.int .i64 n2)
    have hM3 := HM.out.other (B' := L + 1) (by omega) (.int .i64 n2)
    have hT3 := HTb.out.other (B' := L + 1) (by omega) (.int .i64 n2)
    have hX3 := row_set HX.out (B := L + 1) (by omega) (.int .i64 n2)
    have hV3 := HV.out.kept (grownBy_setCell' V (L + 1) (.int .i64 n2)) (fun Y e => by cases e; omega)
    have hk3 := KeepsOthers.setCell V ⟨L + 1, 0, none⟩ (.int .i64 n2)
    have hgs := grownBy_setCell' V (L + 1) (.int .i64 n2)
    have hTK : TK 33 V (V.setCell ⟨L + 1, 0, none⟩ (.int .i64 n2)) := TK.grown hgs fun X e cs fr h' => by
      obtain rfl := Option.some.inj e
      rw [show V.heap[L + 1]? = _ from HNb.out] at h'
      simp only [Option.some.injEq, Obj.cells.injEq] at h'
      exact absurd h'.2.1 (by decide)
    have hKB : KS 33 L (W0.heap.size + 2) V (V.setCell ⟨L + 1, 0, none⟩ (.int .i64 n2)) := ⟨(Below.refl L V).setCell (p := ⟨L + 1, 0, none⟩) (by simp) _, heap_setCell_other _ _ _ _ (by show ¬ (W0.heap.size + 2 = L + 1); omega), heap_setCell_other _ _ _ _ (by show ¬ (W0.heap.size + 2 + 1 = L + 1); omega), hTK⟩
    have hw3 := HBV.out.setCell (p := ⟨L + 1, 0, none⟩) (by simp; omega) (.int .i64 n2)
    have HALL3 := Lib.hid (And.intro hN3 (And.intro hM3 (And.intro hT3 (And.intro hX3 (And.intro hV3 (And.intro hk3 (And.intro hKB hw3)))))))
    clear hN3 hM3 hT3 hX3 hV3 hk3 hKB hw3 hTK hgs hVs
    by_cases hm : n2 = most
    · as_aux_lemma =>
      have hm2 : (n2 == most) = true := by simp [hm]
      have HMM := Lib.hid hm
      clear hm
      gi_wp2
      obtain ⟨hN3, hM3, hT3, hX3, hV3, hk3, _, hw3⟩ := HALL3.out
      exact ⟨hk3.from _, .inr ⟨rfl, by simp, ⟨n2, hN3, fun hpre => ⟨HLEN.out hpre, HMM.out⟩⟩, hM3, hT3, hX3, hV3⟩, hw3⟩
    · as_aux_lemma =>
      have hm2 : (n2 == most) = false := by simp [hm]
      have HMM := Lib.hid hm
      clear hm
      gi_wp2
      obtain ⟨hN3, hM3, hT3, hX3, hV3, hk3, hKB, hw3⟩ := HALL3.out
      refine ⟨hk3.from _, hKB, ⟨⟨n2, hN3, fun hpre => ⟨HLEN.out hpre, fun j h1 h2 => ?_⟩⟩, hM3, hT3, hX3, hV3⟩, hw3⟩
      by_cases hj : j ≤ pre.length
      · exact (HP.out (place_snoc8 hpre).1).2 j h1 hj
      · have h3 := HLEN.out hpre
        have h4 : j = (pre ++ [x]).length := by simp at h2 ⊢; omega
        rw [h4, ← h3]
        exact HMM.out
  case done =>
    as_aux_lemma =>
    rintro ys V rfl ⟨⟨⟨kk, hN, hP⟩, hM, hTb, hX, hV⟩, hBV⟩ hK
    obtain ⟨hkk, hj⟩ := hP (List.prefix_refl _)
    rw [placesL_len, runL_len] at hkk hj
    clear hP
    subst hkk
    have HJ := Lib.hid hj
    have HN2 := HN
    rw [← hD] at hK ⊢
    replace hD := hDw
    clear hDL hDw
    clear hj HN
    have HN : Hid (V.heap[L + 1]? = some (.cells #[.int .i64 (N : Int)] 3 (0, 0))) := hN
    have HM : Hid (V.heap[w.heap.size]? = some (.cells #[.int .i64 most] 3 (0, 0))) := hM
    have HT : Hid (V.heap[w.heap.size + 1]? = some (.cells #[.bool false] 4 (0, 0))) := hTb
    have HX := Lib.hid hX
    have HK := Lib.hid hK
    have HB := Lib.hid hBV
    have hV' : RL V c (runL 5 N) := hV.weak (fun _ _ => trivial)
    have HC := Lib.hid hV'
    obtain ⟨B, hB⟩ : ∃ B, B = V.heap.size := ⟨_, rfl⟩
    have HW : Hid (RootR (fun g => g < B) V c (runL 5 N)) := by show RootR _ _ _ _; rw [hB]; exact hV.old.weak (fun g hg => hg.2)
    have HLT := Lib.hid (show L + 1 < B ∧ w.heap.size + 1 < B ∧ X < B ∧ D < B from ⟨by rw [hB]; exact hN.lt, by rw [hB]; exact hTb.lt, by rw [hB]; exact (Array.getElem?_eq_some_iff.1 hX).1, by rw [hB]; exact (Array.getElem?_eq_some_iff.1 hK).1⟩)
    have HDW := Lib.hid hD
    clear hN hM hTb hX hK hBV hV hV' hA0 hK0 hs0 hv0 hM0 hT0 hX0 hB0 hXL hXW hD
    have HRUN := Lib.hid (fun w => ref_Run 5 (N : Int) (by have := HN2.out; omega) w)
    rw [Int.toNat_natCast] at HRUN
    go_upto_region 16 with (first
      | (refine ld_if (by rfl) 35 _ rfl X rfl 35 _ _ _ HX.out Try.underlying35 rfl (by rw [HSZ.out]; exact rope_size) ?_)
      | (go_at_call 19; with_reducible refine (list_l _ _ _ HC.out (by first | (have := HLR.out; omega) | (rw [runL_len]; have := HN2.out; omega))).mono ?_; rintro e w5 ⟨v5, rfl, hi5, hb⟩; replace HN := Lib.hid ((hb.block _ (Array.getElem?_eq_some_iff.1 HN.out).1).trans HN.out); replace HM := Lib.hid ((hb.block _ (Array.getElem?_eq_some_iff.1 HM.out).1).trans HM.out); replace HT := Lib.hid ((hb.block _ (Array.getElem?_eq_some_iff.1 HT.out).1).trans HT.out); replace HX := Lib.hid ((hb.block _ (Array.getElem?_eq_some_iff.1 HX.out).1).trans HX.out); replace HK := Lib.hid ((hb.block _ (Array.getElem?_eq_some_iff.1 HK.out).1).trans HK.out); replace HB := Lib.hid (HB.out.trans (hb.mono HB.out.size)); replace HW := Lib.hid (HW.out.later hb); have HO5 := Lib.hid hi5; clear hb hi5))
    obtain ⟨al, cl, rfl, _⟩ := HO5.out.lst.shape
    rw [← hB] at HO5
    obtain ⟨Lr, hLr⟩ : ∃ Lr, Lr = runL 5 N := ⟨_, rfl⟩
    rw [← hLr] at HO5
    rw [← hLr]
    have HLR : Hid (Lr.length ≤ 2500) := by show _ ≤ _; rw [hLr, runL_len]; exact HN2.out
    have HLE := Lib.hid hLr
    clear hB HC hLr
    go_wp2_with fail
    go_loopw [51] (fun iv wl => ∃ (k : Nat) (ls : List Int), iv = .int .i64 (k : Int) ∧ ls.length = Lr.length ∧ Owns B (.slice al Lr.length cl) ls wl ∧ wl.heap[L + 1]? = some (.cells #[.int .i64 (N : Int)] 3 (0, 0)) ∧ wl.heap[w.heap.size]? = some (.cells #[.int .i64 most] 3 (0, 0)) ∧ wl.heap[w.heap.size + 1]? = some (.cells #[.bool false] 4 (0, 0)) ∧ wl.heap[X]? = some (.cells c 35 (0, 0)) ∧ wl.heap[D]? = some (.deferred (some [])) ∧ RootR (fun g => g < B) wl c (runL 5 N) ∧ Below w.heap.size w wl) (fun iv _ => Lr.length - (intOf iv).toNat)
    case atStart => exact ⟨0, Lr, rfl, rfl, HO5.out, HN.out, HM.out, HT.out, HX.out, HK.out, HW.out, HB.out⟩
    case round =>
      clear HN HM HT HX HK HW HB HO5
      obtain ⟨k, ls, rfl, hls, ho, hn, hm, ht, hx, hk, hw, hb⟩ := hrel
      have HN := Lib.hid hn
      have HM := Lib.hid hm
      have HT := Lib.hid ht
      have HX := Lib.hid hx
      have HK := Lib.hid hk
      have HW := Lib.hid hw
      have HB := Lib.hid hb
      have HO5 := Lib.hid ho
      have HLS := Lib.hid hls
      clear hn hm ht hx hk hw hb
      by_cases hlt : (k : Int) < (Lr.length : Int)
      · obtain ⟨g, c5, cs5, ev, hcap, hlow, hg, hsz, hcs⟩ := ho.pos (by omega)
        rw [hls] at ev
        simp only [Value.slice.injEq, true_and] at ev
        obtain ⟨rfl, rfl⟩ := ev
        have hcell : wr.cell? ⟨g, k, none⟩ = some (.int .i64 (ls.getD k 0)) := cell_in hg (hcs k (by omega))
        obtain ⟨z, hz⟩ : ∃ z, z = ls.getD k 0 := ⟨_, rfl⟩
        rw [← hz] at hcell
        have HG := Lib.hid hg
        have HSZ5 := Lib.hid (show k < cs5.size by omega)
        have HGG := Lib.hid hlow
        have hk0 : 0 ≤ (k : Int) := by omega
        have hr15 : (Lr.length : Int) ≤ 2500 := by have := HLR.out; omega
        clear hg hcs hsz hcap hz ho hls hlow
        go_wp2_with (refine st_cell rfl 3 _ _ rfl g k _ rfl rfl rfl 3 cs5 HG.out int_size HSZ5.out ?_; intro w6 h6 k6)
        go_roundw
        case rel =>
          have hgg := HGG.out
          have hlt' := HLT.out
          refine ⟨k + 1, ls.set k (wrap64 (z + 1)), by simp, by rw [List.length_set]; exact HLS.out, HO5.out.put (c := cl) (by rw [HLS.out]) HG.out h6 k6, k6.other HN.out (by omega), k6.other HM.out (by omega), k6.other HT.out (by omega), k6.other HX.out (by omega), k6.other HK.out (by omega), HW.out.kept k6.by_ (fun X e => by cases e; omega), HB.out.trans (k6.below (by have := HXW.out; omega))⟩
        case measure => simp [intOf]; omega
      · clear ho hls
        have hvr : RL wr c Lr := by rw [HLE.out]; exact HW.out.weak (fun _ _ => trivial)
        have HC := Lib.hid hvr
        rw [← HLE.out] at HRUN
        clear hvr HW HO5 HLS
        by_cases h1 : most < 1
        · skip
          go_wp2_with (first
            | (refine ld_if (by rfl) 35 _ rfl X rfl 35 _ _ _ HX.out Try.underlying35 rfl (by rw [HSZ.out]; exact rope_size) ?_)
            | (go_at_call 19; with_reducible refine (list_l _ _ _ HC.out (by first | (have := HLR.out; omega) | (rw [runL_len]; have := HN2.out; omega))).mono ?_; rintro e w7 ⟨v7, rfl, hi7, hb⟩; replace HN := Lib.hid ((hb.block _ (Array.getElem?_eq_some_iff.1 HN.out).1).trans HN.out); replace HM := Lib.hid ((hb.block _ (Array.getElem?_eq_some_iff.1 HM.out).1).trans HM.out); replace HT := Lib.hid ((hb.block _ (Array.getElem?_eq_some_iff.1 HT.out).1).trans HT.out); replace HX := Lib.hid ((hb.block _ (Array.getElem?_eq_some_iff.1 HX.out).1).trans HX.out); replace HK := Lib.hid ((hb.block _ (Array.getElem?_eq_some_iff.1 HK.out).1).trans HK.out); replace HB := Lib.hid (HB.out.trans (hb.mono HB.out.size)); have HO7 := Lib.hid hi7.lst; clear hb hi7)
            | (go_at_call 17; with_reducible refine (HRUN.out _).mono ?_; rintro e w8 ⟨v8, rfl, hi8, hb⟩; replace HN := Lib.hid ((hb.block _ (Array.getElem?_eq_some_iff.1 HN.out).1).trans HN.out); replace HM := Lib.hid ((hb.block _ (Array.getElem?_eq_some_iff.1 HM.out).1).trans HM.out); replace HT := Lib.hid ((hb.block _ (Array.getElem?_eq_some_iff.1 HT.out).1).trans HT.out); replace HX := Lib.hid ((hb.block _ (Array.getElem?_eq_some_iff.1 HX.out).1).trans HX.out); replace HK := Lib.hid ((hb.block _ (Array.getElem?_eq_some_iff.1 HK.out).1).trans HK.out); replace HB := Lib.hid (HB.out.trans (hb.mono HB.out.size)); replace HO7 := Lib.hid (HO7.out.later hb); have HO8 := Lib.hid hi8.lst; clear hb hi8)
            | (go_at_call 20; with_reducible refine (ref_Same v7 v8 Lr _ HO7.out HO8.out (by have := HLR.out; omega)).mono ?_; rintro e w9 ⟨rfl, hb⟩; replace HN := Lib.hid ((hb.block _ (Array.getElem?_eq_some_iff.1 HN.out).1).trans HN.out); replace HM := Lib.hid ((hb.block _ (Array.getElem?_eq_some_iff.1 HM.out).1).trans HM.out); replace HT := Lib.hid ((hb.block _ (Array.getElem?_eq_some_iff.1 HT.out).1).trans HT.out); replace HX := Lib.hid ((hb.block _ (Array.getElem?_eq_some_iff.1 HX.out).1).trans HX.out); replace HK := Lib.hid ((hb.block _ (Array.getElem?_eq_some_iff.1 HK.out).1).trans HK.out); replace HB := Lib.hid (HB.out.trans (hb.mono HB.out.size)); clear hb; have cN := bx_cell HN.out; have cM := bx_cell HM.out; have cT := bx_cell HT.out; have fT := bx_frozen HT.out))
          have hT9 : Boxed w9 (w.heap.size + 1) 4 (.bool false) := HT.out
          have hT' := hT9.set (.bool true)
          have hK' : (w9.setCell ⟨w.heap.size + 1, 0, none⟩ (.bool true)).heap[D]? = some (.deferred (some [])) := (KeepsOthers.setCell w9 ⟨w.heap.size + 1, 0, none⟩ (.bool true)).same D _ HK.out rfl
          have q4 := (bx_kept hT' (grownBy_putObj' _ D (.deferred none)) (fun r e => by cases e; exact ⟨_, hK', rfl⟩)).cell
          have hD := HDW.out
          refine ⟨by simp [Act.put], .inl ⟨_, _, rfl, run_takeDeferred hK', .bool true, ?_, rfl, (HB.out.setCell (p := ⟨w.heap.size + 1, 0, none⟩) (by simp) _).trans (belowK_b (w := w) (Nat.le_refl _) _ D _ _ (by omega) hK' rfl rfl)⟩⟩
          simp [results, Try.f5, go_sem, q4]
        · have h2 : (N : Int) < most := by
            rcases (show (N : Int) < most ∨ most ≤ (N : Int) by omega) with h | h
            · exact h
            · exact absurd (by omega : ((most.toNat : Nat) : Int) = most) (HJ.out most.toNat (by omega) (by omega))
          clear HJ
          go_wp2_with (first
            | (refine ld_if (by rfl) 35 _ rfl X rfl 35 _ _ _ HX.out Try.underlying35 rfl (by rw [HSZ.out]; exact rope_size) ?_)
            | (go_at_call 19; with_reducible refine (list_l _ _ _ HC.out (by first | (have := HLR.out; omega) | (rw [runL_len]; have := HN2.out; omega))).mono ?_; rintro e w7 ⟨v7, rfl, hi7, hb⟩; replace HN := Lib.hid ((hb.block _ (Array.getElem?_eq_some_iff.1 HN.out).1).trans HN.out); replace HM := Lib.hid ((hb.block _ (Array.getElem?_eq_some_iff.1 HM.out).1).trans HM.out); replace HT := Lib.hid ((hb.block _ (Array.getElem?_eq_some_iff.1 HT.out).1).trans HT.out); replace HX := Lib.hid ((hb.block _ (Array.getElem?_eq_some_iff.1 HX.out).1).trans HX.out); replace HK := Lib.hid ((hb.block _ (Array.getElem?_eq_some_iff.1 HK.out).1).trans HK.out); replace HB := Lib.hid (HB.out.trans (hb.mono HB.out.size)); have HO7 := Lib.hid hi7.lst; clear hb hi7)
            | (go_at_call 17; with_reducible refine (HRUN.out _).mono ?_; rintro e w8 ⟨v8, rfl, hi8, hb⟩; replace HN := Lib.hid ((hb.block _ (Array.getElem?_eq_some_iff.1 HN.out).1).trans HN.out); replace HM := Lib.hid ((hb.block _ (Array.getElem?_eq_some_iff.1 HM.out).1).trans HM.out); replace HT := Lib.hid ((hb.block _ (Array.getElem?_eq_some_iff.1 HT.out).1).trans HT.out); replace HX := Lib.hid ((hb.block _ (Array.getElem?_eq_some_iff.1 HX.out).1).trans HX.out); replace HK := Lib.hid ((hb.block _ (Array.getElem?_eq_some_iff.1 HK.out).1).trans HK.out); replace HB := Lib.hid (HB.out.trans (hb.mono HB.out.size)); replace HO7 := Lib.hid (HO7.out.later hb); have HO8 := Lib.hid hi8.lst; clear hb hi8)
            | (go_at_call 20; with_reducible refine (ref_Same v7 v8 Lr _ HO7.out HO8.out (by have := HLR.out; omega)).mono ?_; rintro e w9 ⟨rfl, hb⟩; replace HN := Lib.hid ((hb.block _ (Array.getElem?_eq_some_iff.1 HN.out).1).trans HN.out); replace HM := Lib.hid ((hb.block _ (Array.getElem?_eq_some_iff.1 HM.out).1).trans HM.out); replace HT := Lib.hid ((hb.block _ (Array.getElem?_eq_some_iff.1 HT.out).1).trans HT.out); replace HX := Lib.hid ((hb.block _ (Array.getElem?_eq_some_iff.1 HX.out).1).trans HX.out); replace HK := Lib.hid ((hb.block _ (Array.getElem?_eq_some_iff.1 HK.out).1).trans HK.out); replace HB := Lib.hid (HB.out.trans (hb.mono HB.out.size)); clear hb; have cN := bx_cell HN.out; have cM := bx_cell HM.out; have cT := bx_cell HT.out; have fT := bx_frozen HT.out))
          have hT9 : Boxed w9 (w.heap.size + 1) 4 (.bool false) := HT.out
          have hT' := hT9.set (.bool true)
          have hK' : (w9.setCell ⟨w.heap.size + 1, 0, none⟩ (.bool true)).heap[D]? = some (.deferred (some [])) := (KeepsOthers.setCell w9 ⟨w.heap.size + 1, 0, none⟩ (.bool true)).same D _ HK.out rfl
          have q4 := (bx_kept hT' (grownBy_putObj' _ D (.deferred none)) (fun r e => by cases e; exact ⟨_, hK', rfl⟩)).cell
          have hD := HDW.out
          refine ⟨by simp [Act.put], .inl ⟨_, _, rfl, run_takeDeferred hK', .bool true, ?_, rfl, (HB.out.setCell (p := ⟨w.heap.size + 1, 0, none⟩) (by simp) _).trans (belowK_b (w := w) (Nat.le_refl _) _ D _ _ (by omega) hK' rfl rfl)⟩⟩
          simp [results, Try.f5, go_sem, q4]
  case stop =>
    as_aux_lemma =>
    rintro k pre V hpre ⟨hx | ⟨rfl, hne, ⟨kk, hN, hP⟩, hM, hTb, hX, hV⟩, hBV⟩ hK
    · exact absurd hpre hx.2
    · obtain ⟨hnn, hmo⟩ := hP hpre
      have hle := hpre.length_le
      have hpos : 0 < pre.length := List.length_pos_iff.2 hne
      rw [placesL_len, runL_len] at hle
      have h1 : ¬ most < 1 := by omega
      have h2 : ¬ (N : Int) < most := by omega
      have HN2 := HN
      rw [← hD] at hK ⊢
      replace hD := hDw
      clear hDL hDw
      clear hP hne hpre hnn hle hpos HN
      subst hmo
      refine wpIn_wide.2 ?_
      have HN : Hid (V.heap[L + 1]? = some (.cells #[.int .i64 kk] 3 (0, 0))) := hN
      have HM : Hid (V.heap[w.heap.size]? = some (.cells #[.int .i64 kk] 3 (0, 0))) := hM
      have HT : Hid (V.heap[w.heap.size + 1]? = some (.cells #[.bool false] 4 (0, 0))) := hTb
      have HX := Lib.hid hX
      have HK := Lib.hid hK
      have HB := Lib.hid hBV
      have hV' : RL V c (runL 5 N) := hV.weak (fun _ _ => trivial)
      have HC := Lib.hid hV'
      obtain ⟨B, hB⟩ : ∃ B, B = V.heap.size := ⟨_, rfl⟩
      have HW : Hid (RootR (fun g => g < B) V c (runL 5 N)) := by show RootR _ _ _ _; rw [hB]; exact hV.old.weak (fun g hg => hg.2)
      have HLT := Lib.hid (show L + 1 < B ∧ w.heap.size + 1 < B ∧ X < B ∧ D < B from ⟨by rw [hB]; exact hN.lt, by rw [hB]; exact hTb.lt, by rw [hB]; exact (Array.getElem?_eq_some_iff.1 hX).1, by rw [hB]; exact (Array.getElem?_eq_some_iff.1 hK).1⟩)
      have HDW := Lib.hid hD
      clear hN hM hTb hX hK hBV hV hV' hA0 hK0 hs0 hv0 hM0 hT0 hX0 hB0 hXL hXW hD
      have HRUN := Lib.hid (fun w => ref_Run 5 (N : Int) (by have := HN2.out; omega) w)
      rw [Int.toNat_natCast] at HRUN
      go_upto_region 16 with (first
        | (refine ld_if (by rfl) 35 _ rfl X rfl 35 _ _ _ HX.out Try.underlying35 rfl (by rw [HSZ.out]; exact rope_size) ?_)
        | (go_at_call 19; with_reducible refine (list_l _ _ _ HC.out (by first | (have := HLR.out; omega) | (rw [runL_len]; have := HN2.out; omega))).mono ?_; rintro e w5 ⟨v5, rfl, hi5, hb⟩; replace HN := Lib.hid ((hb.block _ (Array.getElem?_eq_some_iff.1 HN.out).1).trans HN.out); replace HM := Lib.hid ((hb.block _ (Array.getElem?_eq_some_iff.1 HM.out).1).trans HM.out); replace HT := Lib.hid ((hb.block _ (Array.getElem?_eq_some_iff.1 HT.out).1).trans HT.out); replace HX := Lib.hid ((hb.block _ (Array.getElem?_eq_some_iff.1 HX.out).1).trans HX.out); replace HK := Lib.hid ((hb.block _ (Array.getElem?_eq_some_iff.1 HK.out).1).trans HK.out); replace HB := Lib.hid (HB.out.trans (hb.mono HB.out.size)); replace HW := Lib.hid (HW.out.later hb); have HO5 := Lib.hid hi5; clear hb hi5))
      obtain ⟨al, cl, rfl, _⟩ := HO5.out.lst.shape
      rw [← hB] at HO5
      obtain ⟨Lr, hLr⟩ : ∃ Lr, Lr = runL 5 N := ⟨_, rfl⟩
      rw [← hLr] at HO5
      rw [← hLr]
      have HLR : Hid (Lr.length ≤ 2500) := by show _ ≤ _; rw [hLr, runL_len]; exact HN2.out
      have HLE := Lib.hid hLr
      clear hB HC hLr
      go_wp2_with fail
      go_loopw [51] (fun iv wl => ∃ (k : Nat) (ls : List Int), iv = .int .i64 (k : Int) ∧ ls.length = Lr.length ∧ Owns B (.slice al Lr.length cl) ls wl ∧ wl.heap[L + 1]? = some (.cells #[.int .i64 kk] 3 (0, 0)) ∧ wl.heap[w.heap.size]? = some (.cells #[.int .i64 kk] 3 (0, 0)) ∧ wl.heap[w.heap.size + 1]? = some (.cells #[.bool false] 4 (0, 0)) ∧ wl.heap[X]? = some (.cells c 35 (0, 0)) ∧ wl.heap[D]? = some (.deferred (some [])) ∧ RootR (fun g => g < B) wl c (runL 5 N) ∧ Below w.heap.size w wl) (fun iv _ => Lr.length - (intOf iv).toNat)
      case atStart => exact ⟨0, Lr, rfl, rfl, HO5.out, HN.out, HM.out, HT.out, HX.out, HK.out, HW.out, HB.out⟩
      case round =>
        clear HN HM HT HX HK HW HB HO5
        obtain ⟨k, ls, rfl, hls, ho, hn, hm, ht, hx, hk, hw, hb⟩ := hrel
        have HN := Lib.hid hn
        have HM := Lib.hid hm
        have HT := Lib.hid ht
        have HX := Lib.hid hx
        have HK := Lib.hid hk
        have HW := Lib.hid hw
        have HB := Lib.hid hb
        have HO5 := Lib.hid ho
        have HLS := Lib.hid hls
        clear hn hm ht hx hk hw hb
        by_cases hlt : (k : Int) < (Lr.length : Int)
        · obtain ⟨g, c5, cs5, ev, hcap, hlow, hg, hsz, hcs⟩ := ho.pos (by omega)
          rw [hls] at ev
          simp only [Value.slice.injEq, true_and] at ev
          obtain ⟨rfl, rfl⟩ := ev
          have hcell : wr.cell? ⟨g, k, none⟩ = some (.int .i64 (ls.getD k 0)) := cell_in hg (hcs k (by omega))
          obtain ⟨z, hz⟩ : ∃ z, z = ls.getD k 0 := ⟨_, rfl⟩
          rw [← hz] at hcell
          have HG := Lib.hid hg
          have HSZ5 := Lib.hid (show k < cs5.size by omega)
          have HGG := Lib.hid hlow
          have hk0 : 0 ≤ (k : Int) := by omega
          have hr15 : (Lr.length : Int) ≤ 2500 := by have := HLR.out; omega
          clear hg hcs hsz hcap hz ho hls hlow
          go_wp2_with (refine st_cell rfl 3 _ _ rfl g k _ rfl rfl rfl 3 cs5 HG.out int_size HSZ5.out ?_; intro w6 h6 k6)
          go_roundw
          case rel =>
            have hgg := HGG.out
            have hlt' := HLT.out
            refine ⟨k + 1, ls.set k (wrap64 (z + 1)), by simp, by rw [List.length_set]; exact HLS.out, HO5.out.put (c := cl) (by rw [HLS.out]) HG.out h6 k6, k6.other HN.out (by omega), k6.other HM.out (by omega), k6.other HT.out (by omega), k6.other HX.out (by omega), k6.other HK.out (by omega), HW.out.kept k6.by_ (fun X e => by cases e; omega), HB.out.trans (k6.below (by have := HXW.out; omega))⟩
          case measure => simp [intOf]; omega
        · clear ho hls
          have hvr : RL wr c Lr := by rw [HLE.out]; exact HW.out.weak (fun _ _ => trivial)
          have HC := Lib.hid hvr
          rw [← HLE.out] at HRUN
          clear hvr HW HO5 HLS
          go_wp2_with (first
            | (refine ld_if (by rfl) 35 _ rfl X rfl 35 _ _ _ HX.out Try.underlying35 rfl (by rw [HSZ.out]; exact rope_size) ?_)
            | (go_at_call 19; with_reducible refine (list_l _ _ _ HC.out (by first | (have := HLR.out; omega) | (rw [runL_len]; have := HN2.out; omega))).mono ?_; rintro e w7 ⟨v7, rfl, hi7, hb⟩; replace HN := Lib.hid ((hb.block _ (Array.getElem?_eq_some_iff.1 HN.out).1).trans HN.out); replace HM := Lib.hid ((hb.block _ (Array.getElem?_eq_some_iff.1 HM.out).1).trans HM.out); replace HT := Lib.hid ((hb.block _ (Array.getElem?_eq_some_iff.1 HT.out).1).trans HT.out); replace HX := Lib.hid ((hb.block _ (Array.getElem?_eq_some_iff.1 HX.out).1).trans HX.out); replace HK := Lib.hid ((hb.block _ (Array.getElem?_eq_some_iff.1 HK.out).1).trans HK.out); replace HB := Lib.hid (HB.out.trans (hb.mono HB.out.size)); have HO7 := Lib.hid hi7.lst; clear hb hi7)
            | (go_at_call 17; with_reducible refine (HRUN.out _).mono ?_; rintro e w8 ⟨v8, rfl, hi8, hb⟩; replace HN := Lib.hid ((hb.block _ (Array.getElem?_eq_some_iff.1 HN.out).1).trans HN.out); replace HM := Lib.hid ((hb.block _ (Array.getElem?_eq_some_iff.1 HM.out).1).trans HM.out); replace HT := Lib.hid ((hb.block _ (Array.getElem?_eq_some_iff.1 HT.out).1).trans HT.out); replace HX := Lib.hid ((hb.block _ (Array.getElem?_eq_some_iff.1 HX.out).1).trans HX.out); replace HK := Lib.hid ((hb.block _ (Array.getElem?_eq_some_iff.1 HK.out).1).trans HK.out); replace HB := Lib.hid (HB.out.trans (hb.mono HB.out.size)); replace HO7 := Lib.hid (HO7.out.later hb); have HO8 := Lib.hid hi8.lst; clear hb hi8)
            | (go_at_call 20; with_reducible refine (ref_Same v7 v8 Lr _ HO7.out HO8.out (by have := HLR.out; omega)).mono ?_; rintro e w9 ⟨rfl, hb⟩; replace HN := Lib.hid ((hb.block _ (Array.getElem?_eq_some_iff.1 HN.out).1).trans HN.out); replace HM := Lib.hid ((hb.block _ (Array.getElem?_eq_some_iff.1 HM.out).1).trans HM.out); replace HT := Lib.hid ((hb.block _ (Array.getElem?_eq_some_iff.1 HT.out).1).trans HT.out); replace HX := Lib.hid ((hb.block _ (Array.getElem?_eq_some_iff.1 HX.out).1).trans HX.out); replace HK := Lib.hid ((hb.block _ (Array.getElem?_eq_some_iff.1 HK.out).1).trans HK.out); replace HB := Lib.hid (HB.out.trans (hb.mono HB.out.size)); clear hb; have cN := bx_cell HN.out; have cM := bx_cell HM.out; have cT := bx_cell HT.out; have fT := bx_frozen HT.out))
          have hT9 : Boxed w9 (w.heap.size + 1) 4 (.bool false) := HT.out
          have hT' := hT9.set (.bool true)
          have hK' : (w9.setCell ⟨w.heap.size + 1, 0, none⟩ (.bool true)).heap[D]? = some (.deferred (some [])) := (KeepsOthers.setCell w9 ⟨w.heap.size + 1, 0, none⟩ (.bool true)).same D _ HK.out rfl
          have q4 := (bx_kept hT' (grownBy_putObj' _ D (.deferred none)) (fun r e => by cases e; exact ⟨_, hK', rfl⟩)).cell
          have hD := HDW.out
          refine ⟨by simp [Act.put], .inl ⟨_, _, rfl, run_takeDeferred hK', .bool true, ?_, rfl, (HB.out.setCell (p := ⟨w.heap.size + 1, 0, none⟩) (by simp) _).trans (belowK_b (w := w) (Nat.le_refl _) _ D _ _ (by omega) hK' rfl rfl)⟩⟩
          simp [results, Try.f5, go_sem, q4]
theorem ropeWalks_walk (n most : Int) (_ : (Lit.int .i64 n).wf = true) (_ : (Lit.int .i64 most).wf = true) (w : World) : Calls Try.prog 5 #[.int .i64 n, .int .i64 most] w fun e w' => e = .returned (.bool true) ∧ Below w.heap.size w w' := ropeWalks_of n most w
end Go.Proofs.Ytldemoflgahdgaa
