/- Package dict: Union. (written by tools/gen10/dc6.py) -/
import Derived.Test.YtnnlfgfgfegjkaaDoorDc3
import Derived.Test.YtnnlfgfgfegjkaaDoorRangeP
namespace Go.Proofs.YtnnlfgfgfegjkaaDoor
open Go.RowKit Go.Shelf
set_option maxRecDepth 1000000
set_option linter.unusedSimpArgs false
attribute [local go_sem] Oper.semAt_some

theorem Kp.plain {S : Nat → Prop} {w w' : World} {row : Option Nat} (hg : w.grownBy w' row) (hr : ∀ r, row = some r → ∃ o : Obj, w.heap[r]? = some o ∧ o.isCells = false) : Kp S w w' := fun g o _ ho h =>
  (hg.block g (Array.getElem?_eq_some_iff.1 h).1 (fun e => by
    obtain ⟨o', h1, h2⟩ := hr g e.symm
    obtain ⟨cs, T, fr, rfl, _⟩ := ho
    rw [h] at h1
    cases h1
    cases h2)).trans h
theorem Kp.setCell {S : Nat → Prop} {w : World} {Z : Nat} (v : Value) (hZ : ¬ S Z) : Kp S w (w.setCell ⟨Z, 0, none⟩ v) := fun g _ hg _ h =>
  (heap_setCell_other _ _ _ _ (fun e : g = Z => hZ (e ▸ hg))).trans h
theorem row_keptP {w w' : World} {row : Option Nat} {X : Nat} {cs : Array Value} {T : TypeId} {fr : Nat × Nat} (h : w.heap[X]? = some (.cells cs T fr)) (hg : w.grownBy w' row) (hr : ∀ r, row = some r → ∃ o : Obj, w.heap[r]? = some o ∧ o.isCells = false) : w'.heap[X]? = some (.cells cs T fr) :=
  (hg.block X (Array.getElem?_eq_some_iff.1 h).1 (fun e => by
    obtain ⟨o', h1, h2⟩ := hr X e.symm
    rw [h] at h1
    cases h1
    cases h2)).trans h
theorem rise_take {L pre : List Ent} {x : Ent} (h : Rise L) (hp : pre ++ [x] <+: L) : Rise pre := h.sub ((List.prefix_append pre [x]).trans hp).sublist
set_option maxHeartbeats 8000000 in
theorem dc_Union (w : World) (s : Nat) (hss : s < 18446744073709551616) (n : Int) (A : List Ent) (ca : Array Value) (s2 : Nat) (n2 : Int) (B : List Ent) (cb : Array Value)
    (ha : ML w s n A ca) (hb : ML w s2 n2 B cb) (hA : Rise A) (hB : Rise B) (hn : A.length + B.length ≤ 40000) (hS : ∀ e ∈ B, e.1.size ≤ 9223372036854775800) (hT : Tab6 w) :
    Calls Tryd.prog 25 #[.agg ca, .agg cb] w fun r w' => ∃ c', r = .returned (.agg c') ∧ ML w' s n (uniE A B) c' ∧ Below w.heap.size w w' := by
  rw [← add_uni hA hB]
  obtain ⟨w0, hw0⟩ : ∃ w0, ((w.alloc (.cells ca 36)).alloc (.cells cb 36)).alloc (.cells mapZ 36) = w0 := ⟨_, rfl⟩
  obtain ⟨hb0, hx, hy, hz, hs0⟩ := three_newG hw0
  have HX := Lib.hid hx
  have HY := Lib.hid hy
  have HR : Hid (w0.heap[w.heap.size + 1 + 1]? = some (.cells mapZ 36 (0, 0))) := hz
  have HB := Lib.hid hb0
  have HZA := Lib.hid ha.size
  have HZB := Lib.hid hb.size
  have HOA := Lib.hid ha.one
  have HMA : Hid (MapAt (fun g => g < w.heap.size) w s n A ca) := (MapAt.old ha).weak (fun g hg => hg.2)
  have HMB : Hid (MapAt (fun g => g < w.heap.size) w s2 n2 B cb) := (MapAt.old hb).weak (fun g hg => hg.2)
  have HRI := Lib.hid (And.intro hA hB)
  have HLN := Lib.hid hn
  have HSS := Lib.hid hS
  have HTB := Lib.hid (fun W (h : Below w.heap.size w W) => hT.below h)
  have HALL := Lib.hid (fun w => callsIn_wide.1 (hm_All_in 5 cb w))
  obtain ⟨X, hX⟩ : ∃ X, X = w0.heap.size := ⟨_, rfl⟩
  have HD : Hid (X = w.heap.size + 3) := by show _ = _; omega
  clear ha hb hA hB hn hS hT hb0 hx hy hz hs0
  refine (callsIn_wide (n := 5)).1 ?_
  refine callsIn_of_wp_marks Tryd.func25 rfl trivial ?_ rfl
  refine wpIn_wide.2 ?_
  simp only [Tryd.ntmps25, List.size_toArray, List.length_cons, List.length_nil, Nat.reduceAdd, Nat.reduceSub, Array.replicate_succ, Array.replicate_zero, List.push_toArray, List.append_toArray, List.nil_append, List.cons_append]
  go_upto_region 1 with fail
  clear hw0
  go_upto_region 2 with (first
    | (refine ld_if (by rfl) 36 _ rfl w.heap.size rfl 36 ca _ _ HX.out Tryd.underlying36 rfl (by rw [HZA.out]; exact map_size) ?_)
    | (refine st_agg rfl 36 _ _ rfl w0.heap.size ca rfl rfl 36 mapZ (heap_alloc_last w0 _) (by rw [HZA.out]; exact map_size) (by rw [HZA.out]; rfl) HOA.out ?_
       intro w1 h1 k1
       have hb1 : Below w0.heap.size w0 w1 := (Below.newly' w0 _).trans (k1.below (Nat.le_refl _))
       have HS1 : Hid (w1.heap.size = X + 1) := by show _ = _; rw [k1.size, hX]; simp
       replace HX := Lib.hid ((hb1.block _ (Array.getElem?_eq_some_iff.1 HX.out).1).trans HX.out)
       replace HY := Lib.hid ((hb1.block _ (Array.getElem?_eq_some_iff.1 HY.out).1).trans HY.out)
       replace HR := Lib.hid ((hb1.block _ (Array.getElem?_eq_some_iff.1 HR.out).1).trans HR.out)
       replace HB := Lib.hid (HB.out.trans (hb1.mono HB.out.size))
       have HU : Hid (w1.heap[X]? = some (.cells ca 36 (0, 0))) := by show _ = _; rw [hX]; exact h1
       clear h1 k1 hb1))
  rw [← hX]
  clear hX
  go_wp2_with (first
    | (refine ld_if (by rfl) 36 _ rfl (w.heap.size + 1) rfl 36 cb _ _ HY.out Tryd.underlying36 rfl (by rw [HZB.out]; exact map_size) ?_)
    | (go_at_call 56; refine (HALL.out _).mono ?_; rintro e w' ⟨rfl, rfl⟩))
  obtain ⟨W0, hW0⟩ : ∃ W0, W0 = w1.alloc (.cells cb 36) := ⟨_, rfl⟩
  obtain ⟨Q, hQ⟩ : ∃ Q, Q = w1.heap.size := ⟨_, rfl⟩
  have hbW : Below w1.heap.size w1 W0 := by rw [hW0]; exact Below.newly' _ _
  have hA0 : W0.heap[Q]? = some (.cells cb 36 (0, 0)) := by rw [hW0, hQ]; exact heap_alloc_last _ _
  have hsz : W0.heap.size = Q + 1 := by rw [hW0, hQ]; simp
  have hQX : Q = X + 1 := by rw [hQ]; exact HS1.out
  replace HX := Lib.hid ((hbW.block _ (Array.getElem?_eq_some_iff.1 HX.out).1).trans HX.out)
  replace HR := Lib.hid ((hbW.block _ (Array.getElem?_eq_some_iff.1 HR.out).1).trans HR.out)
  replace HU := Lib.hid ((hbW.block _ (Array.getElem?_eq_some_iff.1 HU.out).1).trans HU.out)
  replace HB := Lib.hid (HB.out.trans (hbW.mono HB.out.size))
  rw [← hW0, ← hQ]
  clear hW0 hQ hbW HY HS1
  have hxw := HD.out
  have HQX := Lib.hid (And.intro hQX hsz)
  have hv0 : MapAt (fun g => g < w.heap.size) W0 s2 n2 B cb := HMB.out.kp (Kp.low HB.out (fun g h => h))
  have hu0 : MapAt (fun g => g ≠ W0.heap.size + 3) W0 s n (addE A []) ca := (HMA.out.kp (Kp.low HB.out (fun g h => h))).weak (fun g hg => by have hg : g < w.heap.size := hg; omega)
  have hT0 := HTB.out _ HB.out
  refine (wpIn_wide (n := 5)).1 ?_
  refine wpIn_range_stateP (n₀ := w.heap.size) (by omega) (gf := 74) (lb := #[.pointer (some ⟨Q, 0, none⟩)]) rfl (enters_of Tryd.func74 (by kernel_rfl) rfl)
    (hm_all1P Q w.heap.size s2 n2 B cb W0 (by omega) hA0 hv0 HRI.out.2 (by have := HLN.out; omega) hT0) (fun _ => rfl)
    (fun (pre : List Ent) V => ((∃ cu, V.heap[X]? = some (.cells cu 36 (0, 0)) ∧ MapAt (fun g => g ≠ W0.heap.size + 3) V s n (addE A pre) cu) ∧ V.heap[w.heap.size]? = some (.cells ca 36 (0, 0)) ∧ V.heap[w.heap.size + 1 + 1]? = some (.cells mapZ 36 (0, 0))) ∧ Below w.heap.size w V)
    (fun _ _ _ => False)
    (OwnFrom.and (Own.from (fun pre V V' row hs hg hr => by
      obtain ⟨⟨cu, h1, h2⟩, h3, h4⟩ := hs
      exact ⟨⟨cu, row_keptP h1 hg hr, h2.kp (Kp.plain hg hr)⟩, row_keptP h3 hg hr, row_keptP h4 hg hr⟩) _) (ownFrom_below (Nat.le_refl _) (by omega)))
    (fun _ _ _ _ _ hs _ _ => hs)
    (fun pre V v ⟨⟨⟨cu, h1, h2⟩, h3, h4⟩, h6⟩ _ => ⟨⟨⟨cu, (heap_setCell_other _ _ _ _ (by show ¬ X = W0.heap.size + 3; omega)).trans h1, h2.kp (Kp.setCell v (fun h => h rfl))⟩, (heap_setCell_other _ _ _ _ (by show ¬ w.heap.size = W0.heap.size + 3; omega)).trans h3, (heap_setCell_other _ _ _ _ (by show ¬ w.heap.size + 1 + 1 = W0.heap.size + 3; omega)).trans h4⟩, h6.setCell (p := ⟨W0.heap.size + 3, 0, none⟩) (by show w.heap.size ≤ W0.heap.size + 3; omega) _⟩)
    ⟨⟨⟨ca, HU.out, hu0⟩, HX.out, HR.out⟩, HB.out⟩
    (fun x => { tmps := #[.agg ca, .agg cb, .pointer (some ⟨w.heap.size, 0, none⟩), .pointer (some ⟨w.heap.size + 1, 0, none⟩), .pointer (some ⟨w.heap.size + 1 + 1, 0, none⟩), .pointer (some ⟨X, 0, none⟩), .string x.1, .int .i64 x.2, .agg ca, .agg cb, (.func (.func 74) #[] #[.pointer (some ⟨Q, 0, none⟩)]), .string x.1, .int .i64 x.2, undef, undef, undef, undef, undef, undef, undef, undef, undef], defers := [] }) ?assign ?body ?done ?stop
  case assign =>
    clear hxw hQX hsz
    intro l x W K hK
    gi_wp2
    exact hK
  case body =>
    rintro l pre x V hVs ⟨⟨⟨cu, hU, hM⟩, hX, hR⟩, hBV⟩ hpl
    obtain ⟨k, xv⟩ := x
    have hsk := HSS.out (k, xv) (hpl.subset (by simp))
    have hlen : pre.length + 1 ≤ B.length := by have := hpl.length_le; simpa using this
    have hal := add_len HRI.out.1 pre
    have hln := HLN.out
    have HRA := Lib.hid (add_rise HRI.out.1 pre)
    have HAL : Hid ((addE A pre).length ≤ 40000) := by show _ ≤ _; omega
    have HSK : Hid (k.size ≤ 9223372036854775800) := hsk
    have HHAS := Lib.hid (dc_has V s hss n A ca k hsk ((HMA.out.kp (Kp.low hBV (fun g h => h))).ml) HRI.out.1 (by omega))
    have hea := add_snoc A pre (k, xv)
    have HXV := Lib.hid hX
    have HUV := Lib.hid hU
    have HMV := Lib.hid hM
    have HRV := Lib.hid hR
    have HBV := Lib.hid hBV
    have HVS := Lib.hid hVs
    clear hU hM hX hR hBV hVs hlen hal hln hsk hpl hA0 hv0 hu0 hT0 hxw hQX hsz
    cases hg : (getE A k).isSome with
    | true =>
      rw [hg] at HHAS
      rw [if_pos hg] at hea
      have HEA := Lib.hid hea
      clear hea hg
      gi_wp2_with (first
        | (refine ld_in rfl 36 _ rfl w.heap.size rfl 36 ca _ _ HXV.out Tryd.underlying36 rfl (by rw [HZA.out]; exact map_size) ?_)
        | (refine list_in rfl (fun c' hc => by cases hc) fun K hK => ?_; go_simp; go_at_call 57; (with_reducible refine HHAS.out.mono ?_); rintro r V2 ⟨rfl, hb⟩; have HB2 := Lib.hid hb; dsimp only; refine hK _ _ ?_; clear hb hK K))
      have hb := HB2.out
      have hvs := HVS.out
      have hqx := HQX.out
      have hd := HD.out
      have hbv := HBV.out
      refine ⟨⟨hb.size, fun k o _ ho _ => (hb.block k (Array.getElem?_eq_some_iff.1 ho).1).trans ho⟩, ⟨hb.mono hbv.size, hb.block _ (by omega), hb.block _ (by omega), TK.below hb⟩, ⟨⟨cu, (hb.block _ (Array.getElem?_eq_some_iff.1 HUV.out).1).trans HUV.out, ?_⟩, (hb.block _ (Array.getElem?_eq_some_iff.1 HXV.out).1).trans HXV.out, (hb.block _ (Array.getElem?_eq_some_iff.1 HRV.out).1).trans HRV.out⟩, hbv.trans (hb.mono hbv.size)⟩
      rw [HEA.out]
      exact HMV.out.kp (Kp.later hb)
    | false =>
      rw [hg] at HHAS
      rw [if_neg (by rw [hg]; decide)] at hea
      have HEA := Lib.hid hea
      have HZU := Lib.hid HMV.out.size
      clear hea hg
      gi_wp2_with (first
        | (refine ld_in rfl 36 _ rfl w.heap.size rfl 36 ca _ _ HXV.out Tryd.underlying36 rfl (by rw [HZA.out]; exact map_size) ?_)
        | (refine ld_in rfl 36 _ rfl X rfl 36 cu _ _ HU2.out Tryd.underlying36 rfl (by rw [HZU.out]; exact map_size) ?_)
        | (refine list_in rfl (fun c' hc => by cases hc) fun K hK => ?_; go_simp; go_at_call 57; (with_reducible refine HHAS.out.mono ?_); rintro r V2 ⟨rfl, hb⟩; have HB2 := Lib.hid hb; have HU2 := Lib.hid ((hb.block _ (Array.getElem?_eq_some_iff.1 HUV.out).1).trans HUV.out); have HST := Lib.hid (hm_Set V2 s hss n (addE A pre) cu k xv HSK.out (HMV.out.kp (Kp.later hb)) HRA.out (by have := HAL.out; omega) (HTB.out _ (HBV.out.trans (hb.mono HBV.out.size)))); dsimp only; refine hK _ _ ?_; clear hb hK K)
        | (refine list_in rfl (fun c' hc => by cases hc) fun K hK => ?_; go_simp; go_at_call 49; (with_reducible refine HST.out.mono ?_); rintro r V3 ⟨c3, rfl, hm3, hb⟩; have HB3 := Lib.hid (HB2.out.trans (hb.mono HB2.out.size)); have HU3 := Lib.hid ((hb.block _ (Array.getElem?_eq_some_iff.1 HU2.out).1).trans HU2.out); have HM3 := Lib.hid hm3; have HZ3 := Lib.hid hm3.size; dsimp only; refine hK _ _ ?_; clear hb hm3 hK K)
        | (refine list_in rfl (fun c' hc => by cases hc) fun K hK => ?_; refine st_agg_wp 36 _ _ rfl X c3 rfl rfl 36 _ HU3.out (by rw [HZ3.out]; exact map_size) (by rw [HZU.out, HZ3.out]) HM3.out.one ?_; intro V4 h4 k4; refine hK _ _ ?_))
      have hb := HB3.out
      have hvs := HVS.out
      have hqx := HQX.out
      have hd := HD.out
      have hbv := HBV.out
      have hb4 : Below w.heap.size V V4 := (hb.mono hbv.size).trans (k4.below (by omega))
      have hne : ∀ Y, Y < V.heap.size → Y ≠ X → V4.heap[Y]? = V.heap[Y]? := fun Y hY hn => (k4.by_.block Y (Nat.lt_of_lt_of_le hY hb.size) (by simpa using hn)).trans (hb.block Y hY)
      have hb2 := HB2.out.size
      refine ⟨⟨hb4.size, fun Y o _ ho hc => (hne Y (Array.getElem?_eq_some_iff.1 ho).1 (fun e => ?_)).trans ho⟩, ⟨hb4, hne _ (by omega) (by omega), hne _ (by omega) (by omega), (TK.below hb).trans (TK.grown k4.by_ (fun X' e cs fr h' => ?_))⟩, ⟨⟨c3, h4, ?_⟩, (hne _ (Array.getElem?_eq_some_iff.1 HXV.out).1 (by omega)).trans HXV.out, (hne _ (Array.getElem?_eq_some_iff.1 HRV.out).1 (by omega)).trans HRV.out⟩, hbv.trans hb4⟩
      · subst e
        rw [HUV.out] at ho
        cases ho
        cases hc
      · cases e
        rw [HU3.out] at h'
        simp only [Option.some.injEq, Obj.cells.injEq] at h'
        exact absurd h'.2.1 (by decide)
      · rw [HEA.out]
        exact (HM3.out.weak (fun g hg => by rcases hg with hg | hg <;> omega)).kp (Kp.onlyT k4 HU3.out (by decide))
  case done =>
    rintro ys V rfl ⟨⟨⟨cu, hU, hM⟩, hX, hR⟩, hBV⟩ hK
    have HUV := Lib.hid hU
    have HMV := Lib.hid hM
    have HZU := Lib.hid hM.size
    have HRV := Lib.hid hR
    have HBV := Lib.hid hBV
    have HK := Lib.hid hK
    clear hU hM hX hR hBV hK hA0 hv0 hu0 hT0 hxw hQX hsz
    go_wp2_with (first
      | (refine ld_if (by rfl) 36 _ rfl X rfl 36 cu _ _ HUV.out Tryd.underlying36 rfl (by rw [HZU.out]; exact map_size) ?_)
      | (refine st_agg rfl 36 _ _ rfl (w.heap.size + 1 + 1) cu rfl rfl 36 mapZ HRV.out (by rw [HZU.out]; exact map_size) (by rw [HZU.out]; rfl) HMV.out.one ?_; intro V4 h4 k4))
    have hqx := HQX.out
    have hd := HD.out
    have hdf := (k4.other HK.out (by omega))
    have hgp := grownBy_putObj' V4 W0.heap.size (.deferred none)
    have h5 := row_keptP h4 hgp (fun r e => by cases e; exact ⟨_, hdf, rfl⟩)
    have hm5 : ML (V4.putObj W0.heap.size (.deferred none)) s n (addE A ys) cu := ((HMV.out.kp (Kp.onlyT k4 HRV.out (by decide))).kp (Kp.plain hgp (fun r e => by cases e; exact ⟨_, hdf, rfl⟩))).ml
    exact ⟨by simp [Act.put], .inl ⟨_, _, rfl, run_takeDeferred hdf, .agg cu, results_cell_row rfl _ _ (w.heap.size + 1 + 1) 36 _ (0, 0) _ rfl h5 Tryd.underlying36 rfl (by rw [HZU.out]; exact map_size), cu, rfl, hm5, (HBV.out.trans (k4.below (by omega))).trans (belowK_b (w := w) (Nat.le_refl _) _ W0.heap.size _ _ (by omega) hdf rfl rfl)⟩⟩
  case stop =>
    rintro c pre V _ h _
    exact h.elim
end Go.Proofs.YtnnlfgfgfegjkaaDoor
