/- Layer 9's law HamtWalks, over package hamt as it landed. (written by tools/gen09/walks9.py) -/
import Derived.Test.YtlngjabjeodkpaaDoorLaw09B
namespace Go.Proofs.YtlngjabjeodkpaaDoor
open Go.RowKit Go.Shelf
set_option maxRecDepth 1000000
set_option linter.unusedSimpArgs false
attribute [local go_sem] Oper.semAt_some

theorem bool_size9 : (Tryd.prog.info? 4).map (·.size) = some 1 := by kernel_rfl
theorem str_size9 : (Tryd.prog.info? 9).map (·.size) = some 1 := by kernel_rfl
theorem bx_cell {W : World} {B : Nat} {t : TypeId} {v : Value} (h : W.heap[B]? = some (.cells #[v] t (0, 0))) : W.cell? ⟨B, 0, none⟩ = some v := Boxed.cell h
theorem bx_frozen {W : World} {B : Nat} {t : TypeId} {v : Value} (h : W.heap[B]? = some (.cells #[v] t (0, 0))) : W.frozen? ⟨B, 0, none⟩ = false := Boxed.frozen h
theorem row_later9 {V V' : World} {x : Nat} {c : Array Value} {T : TypeId} {fr : Nat × Nat} (h : V.heap[x]? = some (.cells c T fr)) (hb : Below V.heap.size V V') : V'.heap[x]? = some (.cells c T fr) := (hb.block _ (Array.getElem?_eq_some_iff.1 h).1).trans h
theorem seq_nil9 (g : Nat) (lb : Array Value) (w : World) : (binOp .eql 49 (.func (.func g) #[] lb) .nilFunc).run Tryd.prog w = .ok (.bool false) w := by
  have hu := run_underlying (w := w) Tryd.underlying49
  have hm : Op.maxDepth = (Op.maxDepth - 1) + 1 := by decide
  unfold binOp
  simp only []
  unfold Op.equal
  rw [hm]
  unfold Op.equalIn
  simp [Sem.run_bind, hu, Result.andThen]
/-- One key more. -/
theorem pre_snoc {L pre : List Ent} {x : Ent} (h : pre ++ [x] <+: L) : pre <+: L ∧ L[pre.length]? = some x := by
  refine ⟨(List.prefix_append pre [x]).trans h, ?_⟩
  have h2 : (pre ++ [x])[pre.length]? = some x := by simp
  obtain ⟨r, rfl⟩ := h
  rw [List.getElem?_append_left (by simp)]
  exact h2
theorem Strs.pos {B : Nat} {v : Value} {ks : List ByteArray} {w : World} (h : Strs B v ks w) (h0 : 0 < ks.length) : ∃ (g c : Nat) (cs : Array Value), v = .slice (some ⟨g, 0, none⟩) ks.length c ∧ ks.length ≤ c ∧ B ≤ g ∧ w.heap[g]? = some (.cells cs 9 (0, 0)) ∧ ks.length ≤ cs.size := by
  obtain ⟨⟨_, h2⟩, _⟩ := h
  rcases h2 with ⟨rfl, h3⟩ | ⟨g, cap, cur, rfl, hB, hg, h5, h6, h7, h8⟩
  · omega
  · exact ⟨g, cap, cur, rfl, h5, hB, hg, by omega⟩
/-- One of its texts is written. -/
theorem Strs.put {B : Nat} {v : Value} {ks : List ByteArray} {w w' : World} (h : Strs B v ks w) {g c j : Nat} {cs : Array Value} {x : ByteArray} (hv : v = .slice (some ⟨g, 0, none⟩) ks.length c) (hg : w.heap[g]? = some (.cells cs 9 (0, 0)))
    (h' : w'.heap[g]? = some (.cells (cs.setIfInBounds j (.string x)) 9 (0, 0))) (k : Only g w w') : Strs B v (ks.set j x) w' := by
  obtain ⟨⟨h1, h2⟩, h3⟩ := h
  subst hv
  rcases h2 with ⟨e, _⟩ | ⟨g', cap, cur, e, hB, hg', h5, h6, h7, h8⟩
  · cases e
  · simp only [Value.slice.injEq, Option.some.injEq, Addr.mk.injEq, and_true, true_and] at e
    obtain ⟨rfl, rfl⟩ := e
    rw [hg] at hg'
    simp only [Option.some.injEq, Obj.cells.injEq, and_true] at hg'
    subst hg'
    rw [en_len enS_len] at h1
    refine ⟨⟨by rw [en_len enS_len], .inr ⟨g, c, _, by rw [List.length_set], hB, h', by rw [List.length_set]; exact h5, h6, by simpa using h7, ?_⟩⟩, Nat.le_trans h3 k.by_.size⟩
    rw [enS_map] at h8 ⊢
    rw [List.length_set, Array.toList_setIfInBounds, Nat.mul_one] at *
    rw [List.take_set, h8, List.map_set]
set_option maxHeartbeats 8000000 in
theorem hamtWalks_of (s : Nat) (n : Int) (va : Value) (l : List Op9) (most : Int) (w : World) (hss : s < 18446744073709551616) (hl : Ops9 w va l) (hT : Tabs w) :
    Calls Tryd.prog 4 #[.agg #[.int .u64 (s : Int), .int .i64 n], va, .int .i64 most] w fun e w' => e = .returned (.bool true) ∧ Below w.heap.size w w' := by
  have HTB := Lib.hid hT
  have HFEWl := Lib.hid (fun W (h : Below w.heap.size w W) => few9 va l W (hl.later h))
  obtain ⟨adl, capl, bbl, ool, rfl, hl1, hl2, hl3⟩ := hl
  have HLl := Lib.hid (And.intro hl1 hl2)
  clear hT hl1 hl2 hl3
  by_cases hf1 : few9B l = true
  case neg =>
    rw [show few9B l = false by simpa using hf1] at HFEWl
    as_aux_lemma =>
    clear hf1
    go_enter Tryd.func4, Tryd.ntmps4
    go_upto_region 1 with fail
    obtain ⟨w0, hw0⟩ : ∃ w0, ((w.alloc (.cells #[.int .u64 (s : Int), .int .i64 n] 24)).alloc (.cells #[.int .i64 most] 3)).alloc (.cells #[.bool false] 4) = w0 := ⟨_, rfl⟩
    obtain ⟨hb, hx, hy, hz, _⟩ := three_newG hw0
    have HC := Lib.hid hx
    have HMO := Lib.hid hy
    have HT := Lib.hid hz
    have HB := Lib.hid hb
    rw [hw0]
    clear hx hy hz hb hw0
    go_wp2_with (first
      | (go_at_call 7; (with_reducible refine (live9 _ (HTB.out.later HB.out)).mono ?_); rintro e w1 ⟨rfl, hb⟩; replace HC := Lib.hid ((hb.block _ (Array.getElem?_eq_some_iff.1 HC.out).1).trans HC.out); replace HMO := Lib.hid ((hb.block _ (Array.getElem?_eq_some_iff.1 HMO.out).1).trans HMO.out); replace HT := Lib.hid ((hb.block _ (Array.getElem?_eq_some_iff.1 HT.out).1).trans HT.out); replace HB := Lib.hid (HB.out.trans (hb.mono HB.out.size)); clear hb)
      | (go_at_call 8; (with_reducible refine (HFEWl.out _ HB.out).mono ?_); rintro e w1 ⟨rfl, hb⟩; replace HC := Lib.hid ((hb.block _ (Array.getElem?_eq_some_iff.1 HC.out).1).trans HC.out); replace HMO := Lib.hid ((hb.block _ (Array.getElem?_eq_some_iff.1 HMO.out).1).trans HMO.out); replace HT := Lib.hid ((hb.block _ (Array.getElem?_eq_some_iff.1 HT.out).1).trans HT.out); replace HB := Lib.hid (HB.out.trans (hb.mono HB.out.size)); clear hb)
      | (refine st_cell rfl 4 _ _ rfl (w.heap.size + 1 + 1) 0 (.bool true) rfl rfl rfl 4 #[.bool false] HT.out bool_size9 (by decide) ?_; intro w3 h3 k3))
    have c3 : w3.cell? ⟨w.heap.size + 1 + 1, 0, none⟩ = some (.bool true) := cell_in h3 rfl
    refine bodyPost_ret (v := .bool true) (by simp [results, Tryd.f4, go_sem, Act.put, c3]) rfl ⟨rfl, HB.out.trans (k3.below (by omega))⟩
  have HFl := Lib.hid (few9_ops hf1)
  rw [hf1] at HFEWl
  clear hf1
  have hl120 : (l.length : Int) ≤ 120 := by have := HFl.out.2; omega
  refine (callsIn_wide (n := 5)).1 ?_
  refine callsIn_of_wp_marks Tryd.func4 rfl trivial ?_ rfl
  refine wpIn_wide.2 ?_
  simp only [Tryd.ntmps4, List.size_toArray, List.length_cons, List.length_nil, Nat.reduceAdd, Nat.reduceSub, Array.replicate_succ, Array.replicate_zero, List.push_toArray, List.append_toArray, List.nil_append, List.cons_append]
  go_upto_region 1 with fail
  obtain ⟨w0, hw0⟩ : ∃ w0, ((w.alloc (.cells #[.int .u64 (s : Int), .int .i64 n] 24)).alloc (.cells #[.int .i64 most] 3)).alloc (.cells #[.bool false] 4) = w0 := ⟨_, rfl⟩
  obtain ⟨hb, hx, hy, hz, _⟩ := three_newG hw0
  have HC := Lib.hid hx
  have HMO := Lib.hid hy
  have HT := Lib.hid hz
  have HB := Lib.hid hb
  rw [hw0]
  clear hx hy hz hb hw0
  go_upto_region 4 with (first
    | (go_at_call 7; (with_reducible refine (live9 _ (HTB.out.later HB.out)).mono ?_); rintro e w1 ⟨rfl, hb⟩; replace HC := Lib.hid ((hb.block _ (Array.getElem?_eq_some_iff.1 HC.out).1).trans HC.out); replace HMO := Lib.hid ((hb.block _ (Array.getElem?_eq_some_iff.1 HMO.out).1).trans HMO.out); replace HT := Lib.hid ((hb.block _ (Array.getElem?_eq_some_iff.1 HT.out).1).trans HT.out); replace HB := Lib.hid (HB.out.trans (hb.mono HB.out.size)); clear hb)
    | (go_at_call 8; (with_reducible refine (HFEWl.out _ HB.out).mono ?_); rintro e w1 ⟨rfl, hb⟩; replace HC := Lib.hid ((hb.block _ (Array.getElem?_eq_some_iff.1 HC.out).1).trans HC.out); replace HMO := Lib.hid ((hb.block _ (Array.getElem?_eq_some_iff.1 HMO.out).1).trans HMO.out); replace HT := Lib.hid ((hb.block _ (Array.getElem?_eq_some_iff.1 HT.out).1).trans HT.out); replace HB := Lib.hid (HB.out.trans (hb.mono HB.out.size)); clear hb)
    | (refine ld_if (by rfl) 24 _ rfl w.heap.size rfl 24 _ _ _ HC.out Tryd.underlying24 rfl api_size ?_)
    | (go_at_call 9; (with_reducible refine (hm_New _ s n (fun _ => True)).mono ?_); rintro e w3 ⟨c0, rfl, hm, hb⟩; have HM0 := Lib.hid hm.ml; have HZ0 := Lib.hid hm.size; replace HC := Lib.hid ((hb.block _ (Array.getElem?_eq_some_iff.1 HC.out).1).trans HC.out); replace HMO := Lib.hid ((hb.block _ (Array.getElem?_eq_some_iff.1 HMO.out).1).trans HMO.out); replace HT := Lib.hid ((hb.block _ (Array.getElem?_eq_some_iff.1 HT.out).1).trans HT.out); replace HB := Lib.hid (HB.out.trans (hb.mono HB.out.size)); clear hm hb)
    | (refine st_agg rfl 36 _ _ rfl w3.heap.size c0 rfl rfl 36 #[.int .u64 0, .int .i64 0, .int .i64 0, .int .u32 0, .slice none 0 0, .slice none 0 0] (heap_alloc_last w3 _) (by rw [HZ0.out]; exact map_size) (by rw [HZ0.out]; rfl) HM0.out.one ?_
       intro w4 h4 k4
       have hb4 : Below w3.heap.size w3 w4 := (Below.newly' w3 _).trans (k4.below (Nat.le_refl _))
       have HM : Hid (MB w4 s n [] w3.heap.size) := ⟨c0, h4, HM0.out.later hb4⟩
       have HX3 : Hid (w.heap.size + 1 + 1 < w3.heap.size) := (Array.getElem?_eq_some_iff.1 HT.out).1
       replace HC := Lib.hid ((hb4.block _ (Array.getElem?_eq_some_iff.1 HC.out).1).trans HC.out)
       replace HMO := Lib.hid ((hb4.block _ (Array.getElem?_eq_some_iff.1 HMO.out).1).trans HMO.out)
       replace HT := Lib.hid ((hb4.block _ (Array.getElem?_eq_some_iff.1 HT.out).1).trans HT.out)
       replace HB := Lib.hid (HB.out.trans (hb4.mono HB.out.size))
       clear h4 k4 hb4))
  obtain ⟨X, hX⟩ : ∃ X, X = w3.heap.size := ⟨_, rfl⟩
  rw [← hX] at HM HX3 ⊢
  clear hX HC
  go_wp2_with fail
  obtain ⟨Y, hY⟩ : ∃ Y, Y = w4.heap.size := ⟨_, rfl⟩
  have HXY : Hid (X < Y) := by show _ < _; rw [hY]; exact HM.out.lt
  have HR : Hid (RB (w4.alloc (.cells #[.slice none 0 0, .slice none 0 0] 41)) [] Y) := by show RB _ _ _; rw [hY]; exact RB.new w4
  have hb5 := Below.newly' w4 (.cells #[.slice none 0 0, .slice none 0 0] 41)
  replace HM := Lib.hid (HM.out.later hb5)
  replace HMO := Lib.hid ((hb5.block _ (Array.getElem?_eq_some_iff.1 HMO.out).1).trans HMO.out)
  replace HT := Lib.hid ((hb5.block _ (Array.getElem?_eq_some_iff.1 HT.out).1).trans HT.out)
  replace HB := Lib.hid (HB.out.trans (hb5.mono HB.out.size))
  obtain ⟨w5, hw5⟩ : ∃ w5, w4.alloc (.cells #[.slice none 0 0, .slice none 0 0] 41) = w5 := ⟨_, rfl⟩
  rw [hw5] at HM HMO HT HB HR
  rw [hw5, ← hY]
  clear hb5 hw5 hY HM0 HZ0
  go_loopw [29] (fun i wl => ∃ j : Nat, i = .int .i64 (j : Int) ∧ j ≤ l.length ∧ Hid (MB wl s n (runE [] (l.take j)) X) ∧ Hid (RB wl (runE [] (l.take j)) Y) ∧ Hid (wl.heap[w.heap.size + 1]? = some (.cells #[.int .i64 most] 3 (0, 0))) ∧ Hid (wl.heap[w.heap.size + 1 + 1]? = some (.cells #[.bool false] 4 (0, 0))) ∧ Hid (Below w.heap.size w wl)) (fun i _ => l.length - (intOf i).toNat)
  case atStart => exact ⟨0, rfl, Nat.zero_le _, HM, HR, HMO, HT, HB⟩
  case round =>
    clear HM HR HB HMO HT
    obtain ⟨j, rfl, hj, HM, HR, HMO, HT, HB⟩ := hrel
    by_cases hlt : j < l.length
    · as_aux_lemma =>
      have hlt' : (j : Int) < (l.length : Int) := by omega
      have had : adl = some ⟨bbl, ool, none⟩ := HLl.out.1 (by omega)
      subst had
      have HOP := Lib.hid ((HLl.out.2 j hlt).later HB.out)
      have HRI := Lib.hid (run_rise l j)
      have HLN : Hid ((runE [] (l.take j)).length ≤ 40000) := by show _ ≤ _; have := run_len l j; have := HFl.out.2; omega
      have HSH := Lib.hid (run_short l HFl.out.1 j)
      have HKL := Lib.hid (HFl.out.1 _ (List.getElem_mem hlt))
      have HEA := Lib.hid (run_take l hlt)
      have HRI2 := Lib.hid (run_rise l (j + 1))
      have HLN2 : Hid ((runE [] (l.take (j + 1))).length ≤ 40000) := by show _ ≤ _; have := run_len l (j + 1); have := HFl.out.2; omega
      have HSH2 := Lib.hid (run_short l HFl.out.1 (j + 1))
      rw [HEA.out] at HRI2 HLN2 HSH2
      obtain ⟨o, ho⟩ : ∃ o, o = l[j] := ⟨_, rfl⟩
      obtain ⟨D, hD⟩ : ∃ D, D = runE [] (l.take j) := ⟨_, rfl⟩
      rw [← ho] at HOP HKL HEA HRI2 HLN2 HSH2
      rw [← hD] at HM HR HRI HLN HSH HEA HRI2 HLN2 HSH2
      have HLT := Lib.hid hlt
      clear ho hD
      go_upto_region 8 with (refine ld_op9 (by rfl) _ rfl bbl (ool + j * 3) rfl o HOP.out ?_)
      obtain ⟨OB, hOB⟩ : ∃ OB, OB = wr.heap.size := ⟨_, rfl⟩
      have hb6 := Below.newly' wr (.cells (op9C o) 43)
      have HO : Hid ((wr.alloc (.cells (op9C o) 43)).heap[OB]? = some (.cells (op9C o) 43 (0, 0))) := by show _ = _; rw [hOB]; exact heap_alloc_last _ _
      have HD : Hid (w.heap.size + 1 + 1 < X ∧ X < Y ∧ Y < OB) := by
        show _ ∧ _ ∧ _
        rw [hOB]
        exact ⟨HX3.out, HXY.out, HR.out.lt⟩
      replace HM := Lib.hid (HM.out.later hb6)
      replace HR := Lib.hid (HR.out.later hb6)
      replace HMO := Lib.hid ((hb6.block _ (Array.getElem?_eq_some_iff.1 HMO.out).1).trans HMO.out)
      replace HT := Lib.hid ((hb6.block _ (Array.getElem?_eq_some_iff.1 HT.out).1).trans HT.out)
      replace HB := Lib.hid (HB.out.trans (hb6.mono HB.out.size))
      obtain ⟨w6, hw6⟩ : ∃ w6, wr.alloc (.cells (op9C o) 43) = w6 := ⟨_, rfl⟩
      rw [hw6] at HM HR HMO HT HB HO
      rw [hw6, ← hOB]
      have hO := HO.out
      clear hb6 hw6 hOB HOP
      obtain ⟨cm1, hX1, hm1⟩ := HM.out
      have HZ1 := Lib.hid hm1.size
      obtain ⟨cm2, hX2, hm2⟩ := HR.out
      have HZ2 := Lib.hid hm2.size
      have HKS : Hid (∀ V, Below w6.heap.size w6 V → V.heap[X]? = some (.cells cm1 36 (0, 0)) ∧ V.heap[Y]? = some (.cells cm2 41 (0, 0)) ∧ V.heap[OB]? = some (.cells (op9C o) 43 (0, 0))) := fun V hV => ⟨(hV.block _ (Array.getElem?_eq_some_iff.1 hX1).1).trans hX1, (hV.block _ (Array.getElem?_eq_some_iff.1 hX2).1).trans hX2, (hV.block _ (Array.getElem?_eq_some_iff.1 hO).1).trans hO⟩
      have HDO1 := Lib.hid (fun W (hb : Below w6.heap.size w6 W) => does9 W s hss n D cm1 o (hm1.later hb) HRI.out HLN.out HKL.out (HTB.out.later (HB.out.trans (hb.mono HB.out.size))).1)
      have HDO2 := Lib.hid (fun W (hb : Below w6.heap.size w6 W) => should9 W D cm2 o (hm2.later hb) HRI.out HSH.out HLN.out HKL.out)
      clear hX1 hm1 hX2 hm2
      have HW : Hid (Below w6.heap.size w6 w6.drew) := drawn_below w6
      refine wp_region_noPanic ?_
      refine wp_region_T (S := (fun V => V.heap[X]? = some (.cells cm1 36 (0, 0)) ∧ V.heap[Y]? = some (.cells cm2 41 (0, 0)) ∧ V.heap[OB]? = some (.cells (op9C o) 43 (0, 0)))) [6, 7] (by kernel_rfl) (by exact HKS.out _ HW.out) (fun hHeld => ?_)
      refine wpAnyT_take (i := 0) (oi := ⟨some 33, _, _, _, _, _⟩) (v := _) rfl (by kernel_rfl) (by kernel_rfl) (by kernel_rfl) (by kernel_rfl) (fun _ _ _ h => h) (yieldsIf_load_row (by rfl) 36 _ rfl X rfl cm1 36 (0, 0) _ (fun w hw => hw.1) Tryd.underlying36 rfl (by rw [HZ1.out]; exact map_size)) (by assumption) ?_
      (try simp only [Act.put, List.setIfInBounds_toArray, List.set_cons_zero, List.set_cons_succ])
      refine wpAnyT_take (i := 1) (oi := ⟨some 34, _, _, _, _, _⟩) (v := _) rfl (by kernel_rfl) (by kernel_rfl) (by kernel_rfl) (by kernel_rfl) (fun _ _ _ h => h) (yieldsIf_load_row (by rfl) 43 _ rfl OB rfl (op9C o) 43 (0, 0) _ (fun w hw => hw.2.2) Tryd.underlying43 rfl (by exact op9_size)) (by assumption) ?_
      (try simp only [Act.put, List.setIfInBounds_toArray, List.set_cons_zero, List.set_cons_succ])
      refine wpAnyT_take (i := 3) (oi := ⟨some 36, _, _, _, _, _⟩) (v := _) rfl (by kernel_rfl) (by kernel_rfl) (by kernel_rfl) (by kernel_rfl) (fun _ _ _ h => h) (yieldsIf_load_row (by rfl) 41 _ rfl Y rfl cm2 41 (0, 0) _ (fun w hw => hw.2.1) Tryd.underlying41 rfl (by rw [HZ2.out]; exact refm_size)) (by assumption) ?_
      (try simp only [Act.put, List.setIfInBounds_toArray, List.set_cons_zero, List.set_cons_succ])
      refine wpAnyT_take (i := 4) (oi := ⟨some 37, _, _, _, _, _⟩) (v := _) rfl (by kernel_rfl) (by kernel_rfl) (by kernel_rfl) (by kernel_rfl) (fun _ _ _ h => h) (yieldsIf_load_row (by rfl) 43 _ rfl OB rfl (op9C o) 43 (0, 0) _ (fun w hw => hw.2.2) Tryd.underlying43 rfl (by exact op9_size)) (by assumption) ?_
      (try simp only [Act.put, List.setIfInBounds_toArray, List.set_cons_zero, List.set_cons_succ])
      refine wpAnyT_one (i := 2) (o := ⟨some 35, _, _, _, _, _⟩) (by kernel_rfl) rfl (fun K hK => ?_)
      go_simp
      go_at_call 10
      (with_reducible refine (HDO1.out _ (by exact HW.out)).mono ?_)
      rintro e wA1 ⟨cn1, rfl, hq, hb⟩
      have HQ1 := Lib.hid hq
      replace HW := Lib.hid (HW.out.trans (hb.mono HW.out.size))
      clear hq hb
      dsimp only
      refine hK.out _ _ (by exact HKS.out _ HW.out) (fun hHeld => ?_)
      clear hK K
      (try simp only [Act.put, List.setIfInBounds_toArray, List.set_cons_zero, List.set_cons_succ])
      refine wpAnyT_one (i := 5) (o := ⟨some 38, _, _, _, _, _⟩) (by kernel_rfl) rfl (fun K hK => ?_)
      go_simp
      go_at_call 11
      (with_reducible refine (HDO2.out _ (by exact HW.out)).mono ?_)
      rintro e wA2 ⟨cn2, rfl, hq, hb⟩
      have HQ2 := Lib.hid hq
      replace HQ1 := Lib.hid (HQ1.out.later hb)
      replace HW := Lib.hid (HW.out.trans (hb.mono HW.out.size))
      clear hq hb
      dsimp only
      refine hK.out _ _ (by exact HKS.out _ HW.out) (fun hHeld => ?_)
      clear hK K
      (try simp only [Act.put, List.setIfInBounds_toArray, List.set_cons_zero, List.set_cons_succ])
      refine wpAnyT_last (i := 6) (o := ⟨none, _, _, _, _, _⟩) (by kernel_rfl) (by decide) rfl (fun K hK => ?_)
      have hr1 := (HKS.out _ HW.out).1
      have hr2 := (HKS.out _ HW.out).2.1
      rw [if_pos (by rfl)]
      refine st_agg_wp 36 _ _ rfl X cn1 rfl rfl 36 _ hr1 (by rw [HQ1.out.size]; exact map_size) (by rw [HZ1.out, HQ1.out.size]) HQ1.out.one ?_
      intro wS1 hs1 ks1
      have hr2 := ks1.other hr2 (by have h := HD.out; omega)
      replace HQ2 := Lib.hid (HQ2.out.but ks1 hr1 (by decide) (by decide))
      refine hK.out _ _ ?_
      clear hK K
      (try simp only [Act.put, List.setIfInBounds_toArray, List.set_cons_zero, List.set_cons_succ])
      refine wpAnyT_last (i := 7) (o := ⟨none, _, _, _, _, _⟩) (by kernel_rfl) (by decide) rfl (fun K hK => ?_)
      rw [if_pos (by rfl)]
      refine st_agg_wp 41 _ _ rfl Y cn2 rfl rfl 41 _ hr2 (by rw [HQ2.out.size]; exact refm_size) (by rw [HZ2.out, HQ2.out.size]) HQ2.out.one ?_
      intro wS2 hs2 ks2
      refine hK.out _ _ ?_
      clear hK K
      (try simp only [Act.put, List.setIfInBounds_toArray, List.set_cons_zero, List.set_cons_succ])
      refine wpAnyT_done (by kernel_rfl) ?_ _
      refine NoPanic.normal ?_
      replace HMO := Lib.hid ((HW.out.block _ (Array.getElem?_eq_some_iff.1 HMO.out).1).trans HMO.out)
      replace HT := Lib.hid ((HW.out.block _ (Array.getElem?_eq_some_iff.1 HT.out).1).trans HT.out)
      replace HB := Lib.hid (HB.out.trans (HW.out.mono HB.out.size))
      replace HMO := Lib.hid (ks1.other HMO.out (by have h := HD.out; omega))
      replace HT := Lib.hid (ks1.other HT.out (by have h := HD.out; omega))
      replace HB := Lib.hid (HB.out.trans (ks1.below (by have h := HD.out; omega)))
      replace HMO := Lib.hid (ks2.other HMO.out (by have h := HD.out; omega))
      replace HT := Lib.hid (ks2.other HT.out (by have h := HD.out; omega))
      replace HB := Lib.hid (HB.out.trans (ks2.below (by have h := HD.out; omega)))
      replace HM := Lib.hid ((MB.wrote hs1 ks1 hr1 HQ1.out).only ks2 hr2 (by have h := HD.out; omega) (by decide))
      replace HR := Lib.hid (RB.wrote hs2 ks2 hr2 HQ2.out)
      clear HKS HDO1 HQ1 HZ1 hs1 ks1 hr1 HDO2 HQ2 HZ2 hs2 ks2 hr2 HW hHeld
      go_wp2_with fail
      go_roundw
      case rel => exact ⟨j + 1, by simp, by have := HLT.out; omega, by rw [HEA.out]; exact HM, by rw [HEA.out]; exact HR, HMO, HT, HB⟩
      case measure => have := HLT.out; simp [intOf]; omega
    · obtain rfl : j = l.length := by omega
      as_aux_lemma =>
      have hRI := run_rise l l.length
      have hLN : (runE [] (l.take l.length)).length ≤ 120 := by have := run_len l l.length; have := HFl.out.2; omega
      have hSH := run_short l HFl.out.1 l.length
      obtain ⟨L, hL⟩ : ∃ L, L = runE [] (l.take l.length) := ⟨_, rfl⟩
      rw [← hL] at hRI hLN hSH HM HR
      have HRL := Lib.hid (And.intro hRI (And.intro hLN hSH))
      clear hL hRI hLN hSH
      obtain ⟨cm, hXm, hmm⟩ := HM.out
      obtain ⟨cr, hXr, hrr⟩ := HR.out
      obtain ⟨kv, xv, rfl, hkv, hxv⟩ := hrr
      obtain ⟨a1, c1, rfl, _⟩ := hkv.shape
      obtain ⟨a2, c2, rfl, _⟩ := hxv.shape
      rw [keysE_len] at hkv
      rw [valsE_len] at hxv
      rw [keysE_len, valsE_len] at hXr
      obtain ⟨N, hN⟩ : ∃ N, N = L.length := ⟨_, rfl⟩
      rw [← hN] at hkv hxv hXr
      have HX := Lib.hid hXm
      have HY := Lib.hid hXr
      have HMM := Lib.hid hmm
      have HMZ := Lib.hid hmm.size
      have HKV := Lib.hid hkv
      have HXV := Lib.hid hxv
      have HN := Lib.hid hN
      obtain ⟨w4, hw4⟩ : ∃ w4, w4 = wr := ⟨_, rfl⟩
      rw [← hw4] at HX HY HMM HKV HXV HMO HT HB ⊢
      have HXQ : Hid (X < w4.heap.size ∧ Y < w4.heap.size) := ⟨(Array.getElem?_eq_some_iff.1 HX.out).1, (Array.getElem?_eq_some_iff.1 HY.out).1⟩
      have HALL := Lib.hid (fun w => callsIn_wide.1 (hm_All_in 5 cm w))
      have hnil := fun (lb : Array Value) (W : World) => seq_nil9 23 lb W
      clear hXm hXr hmm hkv hxv HM HR hN hw4 hlt hj HFEWl HLl
      go_wp2_with (first
        | (refine ld_if (by rfl) 36 _ rfl X rfl 36 _ _ _ HX.out Tryd.underlying36 rfl (by rw [HMZ.out]; exact map_size) ?_)
        | (go_at_call 13; (with_reducible refine (HALL.out _).mono ?_); rintro e w' ⟨rfl, rfl⟩))
      obtain ⟨Q, hQ⟩ : ∃ Q, Q = w4.heap.size := ⟨_, rfl⟩
      obtain ⟨W0, hW0⟩ : ∃ W0, (w4.alloc (.cells cm 36)).alloc (.cells #[.int .i64 0] 3) = W0 := ⟨_, rfl⟩
      rw [hW0, ← hQ]
      obtain ⟨hb0, hA0, hK0, hs0⟩ := two_newG hW0
      rw [← hQ] at hb0 hA0 hK0 hs0 HXQ
      have hv0 : MapAt (fun g => g < Q) W0 s n L cm := ((MapAt.old HMM.out).weak (fun g hg => by rw [hQ]; exact hg.2)).kp (Kp.low hb0 (fun g h => h))
      have hbw : Below w4.heap.size w4 W0 := by rw [← hQ]; exact hb0
      have hT0 : Tab6 W0 := (HTB.out.later (HB.out.trans (hbw.mono HB.out.size))).six
      clear hbw
      have HXW := Lib.hid HX3.out
      have HB4 := Lib.hid hb0
      have HQ := Lib.hid hQ
      clear hW0 hnil HALL hQ
      refine (wpIn_wide (n := 5)).1 ?_
      refine wpIn_range_state (n₀ := Q) (by omega) (gf := 23) (lb := #[.pointer (some ⟨Q, 0, none⟩)]) rfl (enters_of Tryd.func23 (by kernel_rfl) rfl)
        (hm_all1 Q Q s n L cm W0 (by omega) hA0 hv0 HRL.out.1 (Nat.le_trans HRL.out.2.1 (by omega)) hT0) (fun _ => rfl)
        (fun (pre : List Ent) V => (Boxed V (Q + 1) 3 (.int .i64 (pre.length : Int)) ∧ ∀ j : Nat, 1 ≤ j → j ≤ pre.length → (j : Int) ≠ most) ∧ Below Q W0 V)
        (fun k pre V => (k = .ret ∧ ¬ pre <+: L) ∨ (k = .exit 2 ∧ pre ≠ [] ∧ Boxed V (Q + 1) 3 (.int .i64 (pre.length : Int)) ∧ (pre.length : Int) = most ∧ Below Q W0 V))
        (OwnFrom.and (Own.from (fun s A B row hs hg hr => ⟨bx_kept hs.1 hg hr, hs.2⟩) _) (ownFrom_below (by omega) (by omega)))
        (fun k s A B row hs hg hr => by
          rcases hs with hs | ⟨e, hne, h1, h2, h3⟩
          · exact .inl hs
          · exact .inr ⟨e, hne, bx_kept h1 hg (fun r e => (hr r e).2), h2, h3.grown hg (Nat.le_trans (by omega) h3.size) (fun k e => Nat.le_trans (by omega) (hr k e).1)⟩)
        (fun s A v ⟨⟨h1, h2⟩, h3⟩ _ => ⟨⟨h1.other (by omega) _, h2⟩, h3.setCell (p := ⟨W0.heap.size + 3, 0, none⟩) (by show Q ≤ W0.heap.size + 3; omega) _⟩)
        ⟨⟨hK0, fun j h1 h2 => by simp at h2; omega⟩, Below.refl _ _⟩
        (fun x => { tmps := #[.agg #[.int .u64 (s : Int), .int .i64 n], .slice adl l.length capl, .int .i64 most, .pointer (some ⟨w.heap.size, 0, none⟩), undef, .pointer (some ⟨w.heap.size + 1, 0, none⟩), .pointer (some ⟨w.heap.size + 1 + 1, 0, none⟩), .pointer (some ⟨X, 0, none⟩), .pointer (some ⟨Y, 0, none⟩), undef, u10, (.func (.func 23) #[] #[.pointer (some ⟨Q, 0, none⟩)]), .pointer (some ⟨Q + 1, 0, none⟩), .string x.1, .int .i64 x.2, undef, undef, .bool true, .bool false, .bool false, .slice adl l.length capl, .bool true, .bool false, .bool false, undef, .agg #[.int .u64 (s : Int), .int .i64 n], .agg c0, .slice adl l.length capl, .int .i64 (l.length : Int), .int .i64 (l.length : Int), .bool false, u31, u32, u33, u34, u35, u36, u37, u38, u39, .agg cm, (.func (.func 23) #[] #[.pointer (some ⟨Q, 0, none⟩)]), (.func (.func 23) #[] #[.pointer (some ⟨Q, 0, none⟩)]), .bool false, (.func (.func 23) #[] #[.pointer (some ⟨Q, 0, none⟩)]), .string x.1, .int .i64 x.2, undef, undef, undef, undef, undef, undef, undef, undef, undef, undef, undef, undef, undef, undef, undef, undef, undef, undef, undef, undef, undef, undef, undef, undef, undef, undef, undef, undef, undef, undef, undef, undef, undef, undef, undef, undef, undef, undef, undef, undef, undef, undef, undef, undef, undef, undef, undef, undef, undef, undef, undef, undef, undef, undef, undef, undef, undef, undef, undef, undef, undef, undef], defers := [] }) ?assign ?body ?done ?stop
      case assign =>
        intro l x W K hK
        gi_wp2
        exact hK
      case body =>
        as_aux_lemma =>
        clear hA0 hK0 hv0 hT0
        rintro lp pre x V hVs ⟨⟨hN, hJ⟩, hBV⟩ hpl
        have cN := hN.cell
        have fN := hN.frozen
        have HNb := Lib.hid hN
        have HJ := Lib.hid hJ
        have HBV := Lib.hid hBV
        have hb4V : Below w4.heap.size w4 V := by rw [← HQ.out]; exact HB4.out.trans hBV
        have hplN : pre.length < N := by rw [HN.out]; exact hpl
        have hplI : (pre.length : Int) < (N : Int) := by omega
        have i0 : (0 : Int) ≤ (pre.length : Int) := by omega
        obtain ⟨g1, d1, e1, hc1⟩ := (HKV.out.later hb4V).cell (j := pre.length) (by rw [keysE_len]; exact hpl)
        obtain ⟨g2, d2, e2, hc2⟩ := (HXV.out.later hb4V).cell (j := pre.length) (by rw [valsE_len]; exact hpl)
        simp only [Value.slice.injEq] at e1 e2
        obtain ⟨rfl, hdr, rfl⟩ := e1
        obtain ⟨rfl, hdr2, rfl⟩ := e2
        clear hdr hdr2
        have hkj : (keysE L)[pre.length]'(by rw [keysE_len]; exact hpl) = L[pre.length].1 := by unfold keysE; rw [List.getElem_map]
        have hxj : (valsE L)[pre.length]'(by rw [valsE_len]; exact hpl) = L[pre.length].2 := by unfold valsE; rw [List.getElem_map]
        rw [hkj] at hc1
        rw [hxj] at hc2
        have HSN : Hid (pre ++ [x] <+: L → x = L[pre.length]) := fun h => by
          have h2 := (pre_snoc h).2
          rw [List.getElem?_eq_getElem hpl] at h2
          exact (Option.some.inj h2).symm
        obtain ⟨⟨ky, xy⟩, hky⟩ : ∃ e, e = L[pre.length] := ⟨_, rfl⟩
        rw [← hky] at hc1 hc2 HSN
        have cY0 : V.cell? ⟨Y, 0, none⟩ = some (.slice (some ⟨g1, 0, none⟩) N c1) := cell_in (row_later9 HY.out hb4V) rfl
        have cY1 : V.cell? ⟨Y, 1, none⟩ = some (.slice (some ⟨g2, 0, none⟩) N c2) := cell_in (row_later9 HY.out hb4V) rfl
        have cM : V.cell? ⟨w.heap.size + 1, 0, none⟩ = some (.int .i64 most) := cell_in (row_later9 HMO.out hb4V) rfl
        have cT : V.cell? ⟨w.heap.size + 1 + 1, 0, none⟩ = some (.bool false) := cell_in (row_later9 HT.out hb4V) rfl
        have fT : V.frozen? ⟨w.heap.size + 1 + 1, 0, none⟩ = false := bx_frozen (row_later9 HT.out hb4V)
        have HPL := Lib.hid hpl
        have HVS := Lib.hid hVs
        obtain ⟨m, hm⟩ : ∃ m, m = pre.length := ⟨_, rfl⟩
        rw [← hm] at hplN hplI i0 cN hc1 hc2 HNb
        have HM := Lib.hid hm
        obtain ⟨x1, x2⟩ := x
        clear hN hJ hBV hb4V hkj hxj hky hm hpl hVs
        by_cases hk1 : x1 = ky
        case neg =>
          as_aux_lemma =>
          have t1 : (x1.toList == ky.toList) = false := beq_eq_false_iff_ne.2 fun h => hk1 (kb_inj (by rw [ByteArray.toList_eq, ByteArray.toList_eq] at h; exact h))
          have HNO : Hid (¬ (pre ++ [(x1, x2)] <+: L)) := fun h => hk1 (congrArg Prod.fst (HSN.out h))
          clear hk1
          gi_wp2
          exact ⟨(KeepsOthers.setCell V _ _).from _, .inl ⟨rfl, HNO.out⟩⟩
        have t1 : (x1.toList == ky.toList) = true := by rw [hk1]; simp
        by_cases hk2 : x2 = xy
        case neg =>
          as_aux_lemma =>
          have t2 : (x2 != xy) = true := by simp [hk2]
          have HNO : Hid (¬ (pre ++ [(x1, x2)] <+: L)) := fun h => hk2 (congrArg Prod.snd (HSN.out h))
          clear hk2 hk1
          gi_wp2
          exact ⟨(KeepsOthers.setCell V _ _).from _, .inl ⟨rfl, HNO.out⟩⟩
        have t2 : (x2 != xy) = false := by simp [hk2]
        clear hk1 hk2
        have e2 : wrap64 ((m : Int) + 1) = ((m + 1 : Nat) : Int) := by have h1 := HRL.out.2.1; have h2 := HN.out; unfold wrap64; omega
        have hxq := HXQ.out
        have hxw := HXW.out
        obtain ⟨m2, hm2⟩ : ∃ m2, m2 = m + 1 := ⟨_, rfl⟩
        rw [← hm2] at e2
        have HL2 : Hid (m2 = (pre ++ [(x1, x2)]).length) := by show _ = _; rw [hm2, HM.out]; simp
        have hN3 := HNb.out.set (.int .i64 (m2 : Int))
        have hb3 : Below Q W0 (V.setCell ⟨Q + 1, 0, none⟩ (.int .i64 (m2 : Int))) := HBV.out.setCell (p := ⟨Q + 1, 0, none⟩) (by show Q ≤ Q + 1; omega) _
        have hk3 := KeepsOthers.setCell V ⟨Q + 1, 0, none⟩ (.int .i64 (m2 : Int))
        have hgs := grownBy_setCell' V (Q + 1) (.int .i64 (m2 : Int))
        have hTK : TK 66 V (V.setCell ⟨Q + 1, 0, none⟩ (.int .i64 (m2 : Int))) := TK.grown hgs fun X e cs fr h' => by
          obtain rfl := Option.some.inj e
          rw [show V.heap[Q + 1]? = _ from HNb.out] at h'
          simp only [Option.some.injEq, Obj.cells.injEq] at h'
          exact absurd h'.2.1 (by decide)
        have hKB : KS 66 Q (W0.heap.size + 2) V (V.setCell ⟨Q + 1, 0, none⟩ (.int .i64 (m2 : Int))) := ⟨(Below.refl Q V).setCell (p := ⟨Q + 1, 0, none⟩) (by show Q ≤ Q + 1; omega) _, heap_setCell_other _ _ _ _ (by show ¬ (W0.heap.size + 2 = Q + 1); omega), heap_setCell_other _ _ _ _ (by show ¬ (W0.heap.size + 2 + 1 = Q + 1); omega), hTK⟩
        have HALL3 := Lib.hid (And.intro hN3 (And.intro hb3 (And.intro hk3 hKB)))
        clear hN3 hb3 hk3 hgs hTK hKB hm2 hs0
        by_cases hmo : (m2 : Int) = most
        · as_aux_lemma =>
          have hmo2 : ((m2 : Int) == most) = true := by simp [hmo]
          have HMM2 := Lib.hid hmo
          clear hmo
          gi_wp2
          obtain ⟨hN3, hb3, hk3, _⟩ := HALL3.out
          refine ⟨hk3.from _, .inr ⟨rfl, by simp, ?_, ?_, hb3⟩⟩
          · rw [← HL2.out]; exact hN3
          · rw [← HL2.out]; exact HMM2.out
        · as_aux_lemma =>
          have hmo2 : ((m2 : Int) == most) = false := by simp [hmo]
          have HMM2 := Lib.hid hmo
          clear hmo
          gi_wp2
          obtain ⟨hN3, hb3, hk3, hKB⟩ := HALL3.out
          refine ⟨hk3.from _, hKB, ⟨by rw [← HL2.out]; exact hN3, fun j h1 h2 => ?_⟩, hb3⟩
          rw [← HL2.out] at h2
          by_cases hj : j ≤ pre.length
          · exact HJ.out j h1 hj
          · have h4 : j = m2 := by have := HL2.out; rw [List.length_append, List.length_singleton] at this; omega
            rw [h4]
            exact HMM2.out
      case done =>
        as_aux_lemma =>
        rintro ys V hys ⟨⟨hN, hJ⟩, hBV⟩ hK
        rw [hys, ← HN.out] at hN hJ
        clear hys ys
        have HJ := Lib.hid hJ
        clear hJ
        have HNb : Hid (V.heap[Q + 1]? = some (.cells #[.int .i64 (N : Int)] 3 (0, 0))) := hN
        have HK := Lib.hid hK
        have hb4V : Below w4.heap.size w4 V := by rw [← HQ.out]; exact HB4.out.trans hBV
        have HXv := Lib.hid (row_later9 HX.out hb4V)
        have HYv := Lib.hid (row_later9 HY.out hb4V)
        have HMv := Lib.hid (row_later9 HMO.out hb4V)
        have HTv := Lib.hid (row_later9 HT.out hb4V)
        have HMMv := Lib.hid (HMM.out.later hb4V)
        have HKVv := Lib.hid (HKV.out.later hb4V)
        have HBv := Lib.hid (HB.out.trans (hb4V.mono HB.out.size))
        obtain ⟨D, hD⟩ : ∃ D, D = W0.heap.size := ⟨_, rfl⟩
        rw [← hD] at HK ⊢
        have HDW : Hid (w.heap.size ≤ D) := by show _ ≤ _; rw [hD, hs0]; have := HXQ.out.1; have := HXW.out; omega
        clear hN hK hBV hb4V hA0 hK0 hs0 hv0 hT0 hD HX HY HMO HT HMM HKV HXV HB HB4
        obtain ⟨B, hB⟩ : ∃ B, B = V.heap.size := ⟨_, rfl⟩
        have HBB := Lib.hid hB
        go_upto_region 22 with (first
          | (refine ld_if (by rfl) 36 _ rfl X rfl 36 _ _ _ HXv.out Tryd.underlying36 rfl (by rw [HMZ.out]; exact map_size) ?_)
          | (go_at_call 14; (with_reducible refine (ml_Keys V s n L cm HMMv.out HRL.out.1 (Nat.le_trans HRL.out.2.1 (by omega)) (HTB.out.later HBv.out).six).mono ?_); rintro e w5 ⟨v5, rfl, hk5, hb⟩; have HO5 := Lib.hid hk5; have HV5 := Lib.hid hb; clear hb hk5))
        obtain ⟨al, cl, rfl⟩ := HO5.out.len
        rw [keysE_len, ← HN.out] at HO5 ⊢
        rw [← hB] at HO5 HV5
        clear hB
        go_wp2_with fail
        go_loopw [79] (fun iv wl => ∃ (k : Nat) (ks : List ByteArray), iv = .int .i64 (k : Int) ∧ ks.length = N ∧ Hid (Strs B (.slice al N cl) ks wl) ∧ Hid (Below B V wl)) (fun iv _ => N - (intOf iv).toNat)
        case atStart => exact ⟨0, keysE L, rfl, by rw [keysE_len, HN.out], HO5, HV5⟩
        case round =>
          clear HO5 HV5
          obtain ⟨k, ks, rfl, hls, HO, HBV⟩ := hrel
          by_cases hlt : (k : Int) < (N : Int)
          · as_aux_lemma =>
            obtain ⟨g, c5, cs5, ev, hcap, hlow, hg, hsz⟩ := HO.out.pos (by omega)
            rw [hls] at ev
            simp only [Value.slice.injEq, true_and] at ev
            obtain ⟨rfl, rfl⟩ := ev
            have HG := Lib.hid hg
            have HSZ5 := Lib.hid (show k < cs5.size by omega)
            have HGG := Lib.hid hlow
            have HLS := Lib.hid hls
            have hk0 : 0 ≤ (k : Int) := by omega
            have hr15 : (N : Int) ≤ 120 := by have h1 := HRL.out.2.1; have h2 := HN.out; omega
            clear hg hsz hcap hlow hls
            go_wp2_with (refine st_cell rfl 9 _ _ rfl g k _ rfl rfl rfl 9 cs5 HG.out str_size9 HSZ5.out ?_; intro w6 h6 k6)
            go_roundw
            case rel => exact ⟨k + 1, ks.set k ⟨#[111, 116, 104, 101, 114]⟩, by simp, by rw [List.length_set]; exact HLS.out, HO.out.put (c := cl) (by rw [HLS.out]) HG.out h6 k6, HBV.out.trans (k6.below HGG.out)⟩
            case measure => simp [intOf]; omega
          · clear HO hls
            rw [HBB.out] at HBV
            have HXv2 := Lib.hid (row_later9 HXv.out HBV.out)
            have HYv2 := Lib.hid (row_later9 HYv.out HBV.out)
            have HBv2 := Lib.hid (HBv.out.trans (HBV.out.mono HBv.out.size))
            go_upto_region 27 with fail
            have HKY := Lib.hid (fun W (hW : Below wr.heap.size wr W) => ml_Keys W s n L cm ((HMMv.out.later HBV.out).later hW) HRL.out.1 (Nat.le_trans HRL.out.2.1 (by omega)) (HTB.out.later (HBv2.out.trans (hW.mono HBv2.out.size))).six)
            have HKW := Lib.hid (fun W (hW : Below wr.heap.size wr W) => ((HKVv.out.later HBV.out).later hW).cutS)
            have HKS : Hid (∀ V, Below wr.heap.size wr V → V.heap[X]? = some (.cells cm 36 (0, 0)) ∧ V.cell? ⟨Y, 0, none⟩ = some (.slice a1 N c1)) := fun V hV => ⟨row_later9 HXv2.out hV, cell_in (row_later9 HYv2.out hV) rfl⟩
            have HW : Hid (Below wr.heap.size wr wr.drew) := drawn_below wr
            refine wp_region_noPanic ?_
            refine wp_region_T (S := (fun V => V.heap[X]? = some (.cells cm 36 (0, 0)) ∧ V.cell? ⟨Y, 0, none⟩ = some (.slice a1 N c1))) [] (by kernel_rfl) (by exact HKS.out _ HW.out) (fun hHeld => ?_)
            refine wpAnyT_take (i := 0) (oi := ⟨some 86, _, _, _, _, _⟩) (v := _) rfl (by kernel_rfl) (by kernel_rfl) (by kernel_rfl) (by kernel_rfl) (fun _ _ _ h => h) (yieldsIf_load_row (by rfl) 36 _ rfl X rfl cm 36 (0, 0) _ (fun w hw => hw.1) Tryd.underlying36 rfl (by rw [HMZ.out]; exact map_size)) (by assumption) ?_
            (try simp only [Act.put, List.setIfInBounds_toArray, List.set_cons_zero, List.set_cons_succ])
            refine wpAnyT_take (i := 2) (oi := ⟨some 88, _, _, _, _, _⟩) (v := ?vg4_2) rfl (by kernel_rfl) (by kernel_rfl) (by kernel_rfl) (by kernel_rfl) (fun _ _ _ h => h) (Or.inl ⟨by rfl, ?hg4_2⟩) (by assumption) ?rg4_2
            case hg4_2 => (intro w hSw; (try dsimp only at hSw); first | (go_simp; done) | (go_simp; with_reducible rfl))
            (try simp only [Act.put, List.setIfInBounds_toArray, List.set_cons_zero, List.set_cons_succ])
            refine wpAnyT_take (i := 3) (oi := ⟨some 89, _, _, _, _, _⟩) (v := ?vg4_3) rfl (by kernel_rfl) (by kernel_rfl) (by kernel_rfl) (by kernel_rfl) (fun _ _ _ h => h) (Or.inl ⟨by rfl, ?hg4_3⟩) (by assumption) ?rg4_3
            case hg4_3 => (intro w hSw; (try dsimp only at hSw); first | (go_simp; done) | (go_simp; with_reducible rfl))
            (try simp only [Act.put, List.setIfInBounds_toArray, List.set_cons_zero, List.set_cons_succ])
            refine wpAnyT_one (i := 1) (o := ⟨some 87, _, _, _, _, _⟩) (by kernel_rfl) rfl (fun K hK => ?_)
            go_simp
            go_at_call 14
            (with_reducible refine (HKY.out _ HW.out).mono ?_)
            rintro e w7 ⟨v7, rfl, hk7, hb⟩
            replace HW := Lib.hid (HW.out.trans (hb.mono HW.out.size))
            have HO7 := Lib.hid hk7
            clear hb hk7
            dsimp only
            refine hK.out _ _ (by exact HKS.out _ HW.out) (fun hHeld => ?_)
            clear hK K
            (try simp only [Act.put, List.setIfInBounds_toArray, List.set_cons_zero, List.set_cons_succ])
            refine wpAnyT_one (i := 4) (o := ⟨some 90, _, _, _, _, _⟩) (by kernel_rfl) rfl (fun K hK => ?_)
            go_simp
            go_at_call 15
            (with_reducible refine (ref_Words9 _ _ _ w7 HO7.out.cutS (HKW.out _ HW.out) (by rw [keysE_len]; have := HRL.out.2.1; omega)).mono ?_)
            rintro e w8 ⟨rfl, hb⟩
            replace HW := Lib.hid (HW.out.trans (hb.mono HW.out.size))
            clear hb
            dsimp only
            refine hK.out _ _ (by exact HKS.out _ HW.out) (fun hHeld => ?_)
            clear hK K
            (try simp only [Act.put, List.setIfInBounds_toArray, List.set_cons_zero, List.set_cons_succ])
            refine wpAnyT_take (i := 5) (oi := ⟨some 91, _, _, _, _, _⟩) (v := ?vg4_5) rfl (by kernel_rfl) (by kernel_rfl) (by kernel_rfl) (by kernel_rfl) (fun _ _ _ h => h) (Or.inl ⟨by rfl, ?hg4_5⟩) (by assumption) ?rg4_5
            case hg4_5 => (intro w hSw; (try dsimp only at hSw); first | (go_simp; done) | (go_simp; with_reducible rfl))
            (try simp only [Act.put, List.setIfInBounds_toArray, List.set_cons_zero, List.set_cons_succ])
            refine wpAnyT_done (by kernel_rfl) ?_ _
            refine NoPanic.normal ?_
            clear hHeld
            have HVW := Lib.hid (HBV.out.trans (HW.out.mono HBV.out.size))
            have cN := bx_cell (row_later9 HNb.out HVW.out)
            have cM := bx_cell (row_later9 HMv.out HVW.out)
            have cT := bx_cell (row_later9 HTv.out HVW.out)
            have fT := bx_frozen (row_later9 HTv.out HVW.out)
            have cY0 : w8.cell? ⟨Y, 0, none⟩ = some (.slice a1 N c1) := cell_in (row_later9 HYv.out HVW.out) rfl
            by_cases h1 : most < 1
            · skip
              clear HJ
              go_wp2_with fail
              have hT9 : Boxed w8 (w.heap.size + 1 + 1) 4 (.bool false) := row_later9 HTv.out HVW.out
              have hT' := hT9.set (.bool true)
              have hK' : (w8.setCell ⟨w.heap.size + 1 + 1, 0, none⟩ (.bool true)).heap[D]? = some (.deferred (some [])) := (KeepsOthers.setCell w8 ⟨w.heap.size + 1 + 1, 0, none⟩ (.bool true)).same D _ ((HVW.out.block D (Array.getElem?_eq_some_iff.1 HK.out).1).trans HK.out) rfl
              have q4 := (bx_kept hT' (grownBy_putObj' _ D (.deferred none)) (fun r e => by cases e; exact ⟨_, hK', rfl⟩)).cell
              have hD := HDW.out
              have hbf : Below w.heap.size w w8 := HBv.out.trans (HVW.out.mono HBv.out.size)
              refine ⟨by simp [Act.put], .inl ⟨_, _, rfl, run_takeDeferred hK', .bool true, ?_, rfl, (hbf.setCell (p := ⟨w.heap.size + 1 + 1, 0, none⟩) (by simp; omega) _).trans (belowK_b (w := w) (Nat.le_refl _) _ D _ _ (by omega) hK' rfl rfl)⟩⟩
              simp [results, Tryd.f4, go_sem, q4]
            · have h2 : (N : Int) < most := by
                rcases (show (N : Int) < most ∨ most ≤ (N : Int) by omega) with h | h
                · exact h
                · exact absurd (by omega : ((most.toNat : Nat) : Int) = most) (HJ.out most.toNat (by omega) (by omega))
              clear HJ
              go_wp2_with fail
              have hT9 : Boxed w8 (w.heap.size + 1 + 1) 4 (.bool false) := row_later9 HTv.out HVW.out
              have hT' := hT9.set (.bool true)
              have hK' : (w8.setCell ⟨w.heap.size + 1 + 1, 0, none⟩ (.bool true)).heap[D]? = some (.deferred (some [])) := (KeepsOthers.setCell w8 ⟨w.heap.size + 1 + 1, 0, none⟩ (.bool true)).same D _ ((HVW.out.block D (Array.getElem?_eq_some_iff.1 HK.out).1).trans HK.out) rfl
              have q4 := (bx_kept hT' (grownBy_putObj' _ D (.deferred none)) (fun r e => by cases e; exact ⟨_, hK', rfl⟩)).cell
              have hD := HDW.out
              have hbf : Below w.heap.size w w8 := HBv.out.trans (HVW.out.mono HBv.out.size)
              refine ⟨by simp [Act.put], .inl ⟨_, _, rfl, run_takeDeferred hK', .bool true, ?_, rfl, (hbf.setCell (p := ⟨w.heap.size + 1 + 1, 0, none⟩) (by simp; omega) _).trans (belowK_b (w := w) (Nat.le_refl _) _ D _ _ (by omega) hK' rfl rfl)⟩⟩
              simp [results, Tryd.f4, go_sem, q4]
      case stop =>
        as_aux_lemma =>
        rintro k pre V hpre (hx | ⟨rfl, hne, hN, hmo, hBV⟩) hK
        · exact absurd hpre hx.2
        · have hle := hpre.length_le
          rw [← HN.out] at hle
          have hpos : 0 < pre.length := List.length_pos_iff.2 hne
          have h1 : ¬ most < 1 := by omega
          have h2 : ¬ (N : Int) < most := by omega
          rw [hmo] at hN
          clear hne hpre hle hpos hmo
          refine wpIn_wide.2 ?_
          have HNb : Hid (V.heap[Q + 1]? = some (.cells #[.int .i64 most] 3 (0, 0))) := hN
          have HK := Lib.hid hK
          have hb4V : Below w4.heap.size w4 V := by rw [← HQ.out]; exact HB4.out.trans hBV
          have HXv := Lib.hid (row_later9 HX.out hb4V)
          have HYv := Lib.hid (row_later9 HY.out hb4V)
          have HMv := Lib.hid (row_later9 HMO.out hb4V)
          have HTv := Lib.hid (row_later9 HT.out hb4V)
          have HMMv := Lib.hid (HMM.out.later hb4V)
          have HKVv := Lib.hid (HKV.out.later hb4V)
          have HBv := Lib.hid (HB.out.trans (hb4V.mono HB.out.size))
          obtain ⟨D, hD⟩ : ∃ D, D = W0.heap.size := ⟨_, rfl⟩
          rw [← hD] at HK ⊢
          have HDW : Hid (w.heap.size ≤ D) := by show _ ≤ _; rw [hD, hs0]; have := HXQ.out.1; have := HXW.out; omega
          clear hN hK hBV hb4V hA0 hK0 hs0 hv0 hT0 hD HX HY HMO HT HMM HKV HXV HB HB4
          obtain ⟨B, hB⟩ : ∃ B, B = V.heap.size := ⟨_, rfl⟩
          have HBB := Lib.hid hB
          go_upto_region 22 with (first
            | (refine ld_if (by rfl) 36 _ rfl X rfl 36 _ _ _ HXv.out Tryd.underlying36 rfl (by rw [HMZ.out]; exact map_size) ?_)
            | (go_at_call 14; (with_reducible refine (ml_Keys V s n L cm HMMv.out HRL.out.1 (Nat.le_trans HRL.out.2.1 (by omega)) (HTB.out.later HBv.out).six).mono ?_); rintro e w5 ⟨v5, rfl, hk5, hb⟩; have HO5 := Lib.hid hk5; have HV5 := Lib.hid hb; clear hb hk5))
          obtain ⟨al, cl, rfl⟩ := HO5.out.len
          rw [keysE_len, ← HN.out] at HO5 ⊢
          rw [← hB] at HO5 HV5
          clear hB
          go_wp2_with fail
          go_loopw [79] (fun iv wl => ∃ (k : Nat) (ks : List ByteArray), iv = .int .i64 (k : Int) ∧ ks.length = N ∧ Hid (Strs B (.slice al N cl) ks wl) ∧ Hid (Below B V wl)) (fun iv _ => N - (intOf iv).toNat)
          case atStart => exact ⟨0, keysE L, rfl, by rw [keysE_len, HN.out], HO5, HV5⟩
          case round =>
            clear HO5 HV5
            obtain ⟨k, ks, rfl, hls, HO, HBV⟩ := hrel
            by_cases hlt : (k : Int) < (N : Int)
            · as_aux_lemma =>
              obtain ⟨g, c5, cs5, ev, hcap, hlow, hg, hsz⟩ := HO.out.pos (by omega)
              rw [hls] at ev
              simp only [Value.slice.injEq, true_and] at ev
              obtain ⟨rfl, rfl⟩ := ev
              have HG := Lib.hid hg
              have HSZ5 := Lib.hid (show k < cs5.size by omega)
              have HGG := Lib.hid hlow
              have HLS := Lib.hid hls
              have hk0 : 0 ≤ (k : Int) := by omega
              have hr15 : (N : Int) ≤ 120 := by have h1 := HRL.out.2.1; have h2 := HN.out; omega
              clear hg hsz hcap hlow hls
              go_wp2_with (refine st_cell rfl 9 _ _ rfl g k _ rfl rfl rfl 9 cs5 HG.out str_size9 HSZ5.out ?_; intro w6 h6 k6)
              go_roundw
              case rel => exact ⟨k + 1, ks.set k ⟨#[111, 116, 104, 101, 114]⟩, by simp, by rw [List.length_set]; exact HLS.out, HO.out.put (c := cl) (by rw [HLS.out]) HG.out h6 k6, HBV.out.trans (k6.below HGG.out)⟩
              case measure => simp [intOf]; omega
            · clear HO hls
              rw [HBB.out] at HBV
              have HXv2 := Lib.hid (row_later9 HXv.out HBV.out)
              have HYv2 := Lib.hid (row_later9 HYv.out HBV.out)
              have HBv2 := Lib.hid (HBv.out.trans (HBV.out.mono HBv.out.size))
              go_upto_region 27 with fail
              have HKY := Lib.hid (fun W (hW : Below wr.heap.size wr W) => ml_Keys W s n L cm ((HMMv.out.later HBV.out).later hW) HRL.out.1 (Nat.le_trans HRL.out.2.1 (by omega)) (HTB.out.later (HBv2.out.trans (hW.mono HBv2.out.size))).six)
              have HKW := Lib.hid (fun W (hW : Below wr.heap.size wr W) => ((HKVv.out.later HBV.out).later hW).cutS)
              have HKS : Hid (∀ V, Below wr.heap.size wr V → V.heap[X]? = some (.cells cm 36 (0, 0)) ∧ V.cell? ⟨Y, 0, none⟩ = some (.slice a1 N c1)) := fun V hV => ⟨row_later9 HXv2.out hV, cell_in (row_later9 HYv2.out hV) rfl⟩
              have HW : Hid (Below wr.heap.size wr wr.drew) := drawn_below wr
              refine wp_region_noPanic ?_
              refine wp_region_T (S := (fun V => V.heap[X]? = some (.cells cm 36 (0, 0)) ∧ V.cell? ⟨Y, 0, none⟩ = some (.slice a1 N c1))) [] (by kernel_rfl) (by exact HKS.out _ HW.out) (fun hHeld => ?_)
              refine wpAnyT_take (i := 0) (oi := ⟨some 86, _, _, _, _, _⟩) (v := _) rfl (by kernel_rfl) (by kernel_rfl) (by kernel_rfl) (by kernel_rfl) (fun _ _ _ h => h) (yieldsIf_load_row (by rfl) 36 _ rfl X rfl cm 36 (0, 0) _ (fun w hw => hw.1) Tryd.underlying36 rfl (by rw [HMZ.out]; exact map_size)) (by assumption) ?_
              (try simp only [Act.put, List.setIfInBounds_toArray, List.set_cons_zero, List.set_cons_succ])
              refine wpAnyT_take (i := 2) (oi := ⟨some 88, _, _, _, _, _⟩) (v := ?vg5_2) rfl (by kernel_rfl) (by kernel_rfl) (by kernel_rfl) (by kernel_rfl) (fun _ _ _ h => h) (Or.inl ⟨by rfl, ?hg5_2⟩) (by assumption) ?rg5_2
              case hg5_2 => (intro w hSw; (try dsimp only at hSw); first | (go_simp; done) | (go_simp; with_reducible rfl))
              (try simp only [Act.put, List.setIfInBounds_toArray, List.set_cons_zero, List.set_cons_succ])
              refine wpAnyT_take (i := 3) (oi := ⟨some 89, _, _, _, _, _⟩) (v := ?vg5_3) rfl (by kernel_rfl) (by kernel_rfl) (by kernel_rfl) (by kernel_rfl) (fun _ _ _ h => h) (Or.inl ⟨by rfl, ?hg5_3⟩) (by assumption) ?rg5_3
              case hg5_3 => (intro w hSw; (try dsimp only at hSw); first | (go_simp; done) | (go_simp; with_reducible rfl))
              (try simp only [Act.put, List.setIfInBounds_toArray, List.set_cons_zero, List.set_cons_succ])
              refine wpAnyT_one (i := 1) (o := ⟨some 87, _, _, _, _, _⟩) (by kernel_rfl) rfl (fun K hK => ?_)
              go_simp
              go_at_call 14
              (with_reducible refine (HKY.out _ HW.out).mono ?_)
              rintro e w7 ⟨v7, rfl, hk7, hb⟩
              replace HW := Lib.hid (HW.out.trans (hb.mono HW.out.size))
              have HO7 := Lib.hid hk7
              clear hb hk7
              dsimp only
              refine hK.out _ _ (by exact HKS.out _ HW.out) (fun hHeld => ?_)
              clear hK K
              (try simp only [Act.put, List.setIfInBounds_toArray, List.set_cons_zero, List.set_cons_succ])
              refine wpAnyT_one (i := 4) (o := ⟨some 90, _, _, _, _, _⟩) (by kernel_rfl) rfl (fun K hK => ?_)
              go_simp
              go_at_call 15
              (with_reducible refine (ref_Words9 _ _ _ w7 HO7.out.cutS (HKW.out _ HW.out) (by rw [keysE_len]; have := HRL.out.2.1; omega)).mono ?_)
              rintro e w8 ⟨rfl, hb⟩
              replace HW := Lib.hid (HW.out.trans (hb.mono HW.out.size))
              clear hb
              dsimp only
              refine hK.out _ _ (by exact HKS.out _ HW.out) (fun hHeld => ?_)
              clear hK K
              (try simp only [Act.put, List.setIfInBounds_toArray, List.set_cons_zero, List.set_cons_succ])
              refine wpAnyT_take (i := 5) (oi := ⟨some 91, _, _, _, _, _⟩) (v := ?vg5_5) rfl (by kernel_rfl) (by kernel_rfl) (by kernel_rfl) (by kernel_rfl) (fun _ _ _ h => h) (Or.inl ⟨by rfl, ?hg5_5⟩) (by assumption) ?rg5_5
              case hg5_5 => (intro w hSw; (try dsimp only at hSw); first | (go_simp; done) | (go_simp; with_reducible rfl))
              (try simp only [Act.put, List.setIfInBounds_toArray, List.set_cons_zero, List.set_cons_succ])
              refine wpAnyT_done (by kernel_rfl) ?_ _
              refine NoPanic.normal ?_
              clear hHeld
              have HVW := Lib.hid (HBV.out.trans (HW.out.mono HBV.out.size))
              have cN := bx_cell (row_later9 HNb.out HVW.out)
              have cM := bx_cell (row_later9 HMv.out HVW.out)
              have cT := bx_cell (row_later9 HTv.out HVW.out)
              have fT := bx_frozen (row_later9 HTv.out HVW.out)
              have cY0 : w8.cell? ⟨Y, 0, none⟩ = some (.slice a1 N c1) := cell_in (row_later9 HYv.out HVW.out) rfl
              go_wp2_with fail
              have hT9 : Boxed w8 (w.heap.size + 1 + 1) 4 (.bool false) := row_later9 HTv.out HVW.out
              have hT' := hT9.set (.bool true)
              have hK' : (w8.setCell ⟨w.heap.size + 1 + 1, 0, none⟩ (.bool true)).heap[D]? = some (.deferred (some [])) := (KeepsOthers.setCell w8 ⟨w.heap.size + 1 + 1, 0, none⟩ (.bool true)).same D _ ((HVW.out.block D (Array.getElem?_eq_some_iff.1 HK.out).1).trans HK.out) rfl
              have q4 := (bx_kept hT' (grownBy_putObj' _ D (.deferred none)) (fun r e => by cases e; exact ⟨_, hK', rfl⟩)).cell
              have hD := HDW.out
              have hbf : Below w.heap.size w w8 := HBv.out.trans (HVW.out.mono HBv.out.size)
              refine ⟨by simp [Act.put], .inl ⟨_, _, rfl, run_takeDeferred hK', .bool true, ?_, rfl, (hbf.setCell (p := ⟨w.heap.size + 1 + 1, 0, none⟩) (by simp; omega) _).trans (belowK_b (w := w) (Nat.le_refl _) _ D _ _ (by omega) hK' rfl rfl)⟩⟩
              simp [results, Tryd.f4, go_sem, q4]
theorem hamtWalks_walk (s : Nat) (n : Int) (va : Value) (l : List Op9) (most : Int) (hss : s < 18446744073709551616) (_ : (Lit.int .i64 most).wf = true) (w : World) (hl : Ops9 w va l) (hT : Tabs w) : Calls Tryd.prog 4 #[.agg #[.int .u64 (s : Int), .int .i64 n], va, .int .i64 most] w fun e w' => e = .returned (.bool true) ∧ Below w.heap.size w w' := hamtWalks_of s n va l most w hss hl hT
end Go.Proofs.YtlngjabjeodkpaaDoor
