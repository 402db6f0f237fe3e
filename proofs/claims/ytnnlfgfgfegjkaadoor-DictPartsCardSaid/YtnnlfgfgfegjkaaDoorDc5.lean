/- Package dict: Changes. (written by tools/gen10/dc5.py) -/
import Derived.Test.YtnnlfgfgfegjkaaDoorDc4
import Derived.Test.YtnnlfgfgfegjkaaDoorDictPure3
import Derived.Test.YtnnlfgfgfegjkaaDoorPkB
import Derived.WalkMore
namespace Go.Proofs.YtnnlfgfgfegjkaaDoor
open Go.RowKit
set_option maxRecDepth 1000000
set_option linter.unusedSimpArgs false

/-- Texts in blocks of texts. -/
theorem lsS_cutT {w : World} {v : Value} {ks : List ByteArray} (h : LsS w v ks) : CutS (fun g => ∃ cs fr, w.heap[g]? = some (.cells cs 9 fr)) w v ks := by
  obtain ⟨a, c, rfl, h2, h3⟩ := h
  refine ⟨a, c, rfl, h2, by rw [enS_map, List.length_map, Nat.mul_one], h3.imp_right ?_⟩
  rintro ⟨g, cs', fr, rfl, h5, h6⟩
  refine ⟨g, 0, rfl, ⟨_, _, h5⟩, (Array.getElem?_eq_some_iff.1 h5).1, fun j u hu => ?_⟩
  rw [enS_map] at hu
  obtain ⟨hj, rfl⟩ := map_at j u hu
  rw [Nat.zero_add]
  exact cell_in h5 (h6 j hj)
theorem cutS_tk {w w' : World} {v : Value} {ks : List ByteArray} (h : CutS (fun g => ∃ cs fr, w.heap[g]? = some (.cells cs 9 fr)) w v ks) (k : TK 9 w w') : CutS (fun _ => True) w' v ks := by
  obtain ⟨a, c, rfl, h2, h3, h4⟩ := h
  refine ⟨a, c, rfl, h2, h3, h4.imp_right ?_⟩
  rintro ⟨b, o, rfl, ⟨cs, fr, hb⟩, _, h7⟩
  have hb' := k b cs fr hb
  refine ⟨b, o, rfl, trivial, (Array.getElem?_eq_some_iff.1 hb').1, fun j u hu => ?_⟩
  have h8 := h7 j u hu
  rw [cell_of_row w b _ cs _ fr hb] at h8
  rw [cell_of_row w' b _ cs _ fr hb']
  exact h8
theorem LsG.tk {α : Type} {T : TypeId} {enc : α → Value} {w w' : World} {v : Value} {xs : List α} (h : LsG T enc w v xs) (k : TK T w w') : LsG T enc w' v xs := by
  obtain ⟨a, c, h1, h2, h3⟩ := h
  refine ⟨a, c, h1, h2, h3.imp_right ?_⟩
  rintro ⟨g, cs, fr, h4, h5, h6⟩
  exact ⟨g, cs, fr, h4, k g cs fr h5, h6⟩
theorem rows_tk {B : Nat} {e T : TypeId} {s : Nat} {v : Value} {cs : List (Array Value)} {w w' : World} (h : RowsOwn B e s v cs w) (hg : w.grownBy w' v.ownBlock) (hT : e ≠ T) : TK T w w' := TK.grown hg (fun X e' cs' fr h' => by
  obtain ⟨cs2, fr2, h2⟩ := h.typed' X e'
  rw [h2] at h'
  simp only [Option.some.injEq, Obj.cells.injEq] at h'
  exact hT h'.2.1)
theorem RowsOwn.low {B B' : Nat} {e : TypeId} {s : Nat} {v : Value} {cs : List (Array Value)} {w : World} (h : RowsOwn B e s v cs w) (hB : B' ≤ B) : RowsOwn B' e s v cs w := by
  obtain ⟨⟨h1, h2⟩, h3, h4⟩ := h
  refine ⟨⟨h1, ?_⟩, by omega, h4⟩
  rcases h2 with h2 | ⟨g, cap, cur, fz, a1, a2, a3⟩
  · exact .inl h2
  · exact .inr ⟨g, cap, cur, fz, a1, by omega, a3⟩
theorem rows_nil {B : Nat} {e : TypeId} {w : World} (h : B ≤ w.heap.size) : RowsOwn B e 5 (.slice none 0 0) ((([] : List Chg)).map chgC) w := ⟨⟨rfl, .inl ⟨rfl, rfl⟩⟩, h, fun c hc => by cases hc⟩
theorem rows_lt {B : Nat} {e : TypeId} {s : Nat} {v : Value} {cs : List (Array Value)} {w : World} (h : RowsOwn B e s v cs w) : ∀ X, v.ownBlock = some X → X < w.heap.size := fun X e => by
  obtain ⟨_, _, h1⟩ := h.typed' X e
  exact (Array.getElem?_eq_some_iff.1 h1).1
/-- What 'change' hands back. -/
def GotC (_ : World) (v : Value) (x : Chg) : Prop := v = .agg (chgC x)
def lenS : Value → Nat
  | .slice _ n _ => n
  | _ => 0
set_option maxHeartbeats 8000000 in
theorem dc_Changes (w : World) (s : Nat) (hss : s < 18446744073709551616) (n : Int) (A : List Ent) (ca : Array Value) (s2 : Nat) (hss2 : s2 < 18446744073709551616) (n2 : Int) (B : List Ent) (cb : Array Value)
    (ha : ML w s n A ca) (hb : ML w s2 n2 B cb) (hA : Rise A) (hB : Rise B) (hn : A.length ≤ 40000) (hm : B.length ≤ 40000) (hSA : ∀ e ∈ A, e.1.size ≤ 9223372036854775800) (hSB : ∀ e ∈ B, e.1.size ≤ 9223372036854775800) (hT : Tab6 w)
    (al : Int → Int → Bool) (fnum : Nat) (lb : Array Value) (hent : ∀ args w, (callFunc fnum args).run Tryd.prog w = .ok (.enter fnum args) w)
    (hal : ∀ W, Below w.heap.size w W → ∀ x y : Int, Calls Tryd.prog fnum (#[.int .i64 x, .int .i64 y] ++ lb) W fun r W' => r = .returned (.bool (al x y)) ∧ Below W.heap.size W W') :
    Calls Tryd.prog 33 #[.agg ca, .agg cb, .func (.func fnum) #[] lb] w fun r w' => ∃ v, r = .returned v ∧ RowsOwn w.heap.size 73 5 v ((difE al A B).map chgC) w' ∧ Below w.heap.size w w' := by
  obtain ⟨w0, hw0⟩ : ∃ w0, (w.alloc (.cells ca 36)).alloc (.cells cb 36) = w0 := ⟨_, rfl⟩
  obtain ⟨hb0, hx, hy, hs0⟩ := two_newG hw0
  obtain ⟨N, hN⟩ : ∃ N, N = A.length := ⟨_, rfl⟩
  obtain ⟨M, hM⟩ : ∃ M, M = B.length := ⟨_, rfl⟩
  have HKSA := Lib.hid (fun W (h : Below w.heap.size w W) => ml_Keys W s n A ca (ha.later h) hA (Nat.le_trans hn (by omega)) (hT.below h))
  have HKSB := Lib.hid (fun W (h : Below w.heap.size w W) => ml_Keys W s2 n2 B cb (hb.later h) hB (Nat.le_trans hm (by omega)) (hT.below h))
  have HCH := Lib.hid (fun W (h : Below w.heap.size w W) k hk => dc_change W s hss n A ca s2 hss2 n2 B cb k hk (ha.later h) (hb.later h) hA hB hn hm)
  have HAL := Lib.hid hal
  have HRI := Lib.hid (And.intro hA hB)
  have HSS := Lib.hid (And.intro hSA hSB)
  have HNM : Hid (N = A.length ∧ M = B.length ∧ N ≤ 40000 ∧ M ≤ 40000) := ⟨hN, hM, by omega, by omega⟩
  have HZA := Lib.hid ha.size
  have HZB := Lib.hid hb.size
  have HXA := Lib.hid hx
  have HXB := Lib.hid hy
  have HB := Lib.hid hb0
  have hn4 : (N : Int) ≤ 40000 := by omega
  have hm4 : (M : Int) ≤ 40000 := by omega
  have HRO : Hid (RowsOwn (w.heap.size + 2) 73 5 (.slice none 0 0) ((([] : List Chg)).map chgC) w0) := rows_nil (by omega)
  have HTK : Hid (TK 9 w0 w0) := TK.refl _ _
  clear ha hb hA hB hn hm hSA hSB hT hal hb0 hx hy hs0 hN hM
  go_enter Tryd.func33, Tryd.ntmps33
  go_wp2_with fail
  try go_step3
  go_upto_region 2 with fail
  clear hw0
  go_upto_region 3 with (first
    | (refine ld_if (by rfl) 36 _ rfl (w.heap.size + 1) rfl 36 cb _ _ HXB.out Tryd.underlying36 rfl (by rw [HZB.out]; exact map_size) ?_)
    | (go_at_call 45; (with_reducible refine (HKSB.out _ HB.out).mono ?_); rintro r w2 ⟨vB, rfl, hk2, hb⟩; replace HXA := Lib.hid ((hb.block _ (Array.getElem?_eq_some_iff.1 HXA.out).1).trans HXA.out); replace HXB := Lib.hid ((hb.block _ (Array.getElem?_eq_some_iff.1 HXB.out).1).trans HXB.out); replace HRO := Lib.hid (HRO.out.later hb); replace HTK := Lib.hid (HTK.out.trans (TK.below hb)); replace HB := Lib.hid (HB.out.trans (hb.mono HB.out.size)); have HKB := Lib.hid hk2.lsS; obtain ⟨aB, cB, hvB, _⟩ := hk2.lsS.shape; rw [keysE_len, ← HNM.out.2.1] at hvB; subst hvB; clear hk2 hb))
  try go_step3
  go_wp2_with (first
    | (refine ld_if (by rfl) 36 _ rfl w.heap.size rfl 36 ca _ _ HXA.out Tryd.underlying36 rfl (by rw [HZA.out]; exact map_size) ?_)
    | (go_at_call 45; (with_reducible refine (HKSA.out _ HB.out).mono ?_); rintro r w9 ⟨vA, rfl, hk9, hb⟩; replace HXA := Lib.hid ((hb.block _ (Array.getElem?_eq_some_iff.1 HXA.out).1).trans HXA.out); replace HXB := Lib.hid ((hb.block _ (Array.getElem?_eq_some_iff.1 HXB.out).1).trans HXB.out); replace HRO := Lib.hid (HRO.out.later hb); replace HTK := Lib.hid (HTK.out.trans (TK.below hb)); replace HB := Lib.hid (HB.out.trans (hb.mono HB.out.size)); replace HKB := Lib.hid (HKB.out.later hb); have HKA := Lib.hid hk9.lsS; obtain ⟨aA, cA, hvA, _⟩ := hk9.lsS.shape; rw [keysE_len, ← HNM.out.1] at hvA; subst hvA; clear hk9 hb))
  try go_step3
  go_wp2_with fail
  have HCB := Lib.hid (lsS_cutT HKB.out)
  replace HTK : Hid (TK 9 w9 w9) := TK.refl _ _
  clear HKB
  go_loopw [7, 8, 19] (fun v7 v8 i wl => ∃ (j q : Nat) (out : List Chg), i = .int .i64 (j : Int) ∧ Hid (Mg al A B j q out) ∧ Hid (CutS (fun g => ∃ cs fr, w9.heap[g]? = some (.cells cs 9 fr)) w9 v8 ((keysE B).drop q)) ∧ Hid (wl.heap[w.heap.size]? = some (.cells ca 36 (0, 0))) ∧ Hid (wl.heap[w.heap.size + 1]? = some (.cells cb 36 (0, 0))) ∧ Hid (RowsOwn (w.heap.size + 2) 73 5 v7 (out.map chgC) wl) ∧ Hid (TK 9 w9 wl) ∧ Hid (Below w.heap.size w wl)) (fun _ _ i _ => N - (intOf i).toNat)
  case atStart => exact ⟨0, 0, [], rfl, Mg.start HRI.out.1 HRI.out.2, by rw [List.drop_zero]; exact HCB, HXA, HXB, HRO, HTK, HB⟩
  case round =>
    clear HCB HXA HXB HRO HTK HB
    obtain ⟨j, q, out, rfl, HMG, HCB, HXA, HXB, HRO, HTK, HB⟩ := hrel
    by_cases hlt : j < N
    · have hlt' : (j : Int) < N := by omega
      have hjA : j < A.length := by rw [← HNM.out.1]; exact hlt
      obtain ⟨gA, cA', e1, hcellA⟩ := (HKA.out.tk HTK.out).cell (j := j) (by rw [keysE_len]; exact hjA)
      simp only [Value.slice.injEq] at e1
      obtain ⟨rfl, hdr, rfl⟩ := e1
      clear hdr
      have hkj : (keysE A)[j]'(by rw [keysE_len]; exact hjA) = A[j].1 := by unfold keysE; rw [List.getElem_map]
      rw [hkj] at hcellA
      obtain ⟨k, hk⟩ : ∃ k, k = A[j].1 := ⟨_, rfl⟩
      rw [← hk] at hcellA
      have HLT := Lib.hid hlt
      have HJA := Lib.hid hjA
      have HKE : Hid (k = A[j].1) := hk
      have HSK : Hid (k.size ≤ 9223372036854775800) := by show _ ≤ _; rw [hk]; exact HSS.out.1 _ (List.getElem_mem hjA)
      clear hkj hk hlt hjA
      go_wp2_with fail
      clear hcellA
      go_loopw [7, 8] (fun v7 v8 wl => ∃ (q : Nat) (out : List Chg), Hid (Mg al A B j q out) ∧ Hid (CutS (fun g => ∃ cs fr, w9.heap[g]? = some (.cells cs 9 fr)) w9 v8 ((keysE B).drop q)) ∧ Hid (wl.heap[w.heap.size]? = some (.cells ca 36 (0, 0))) ∧ Hid (wl.heap[w.heap.size + 1]? = some (.cells cb 36 (0, 0))) ∧ Hid (RowsOwn (w.heap.size + 2) 73 5 v7 (out.map chgC) wl) ∧ Hid (TK 9 w9 wl) ∧ Hid (Below w.heap.size w wl)) (fun _ v8 _ => lenS v8)
      case atStart => exact ⟨q, out, HMG, HCB, HXA, HXB, HRO, HTK, HB⟩
      case round =>
        clear HMG HCB HXA HXB HRO HTK HB
        obtain ⟨q, out, HMG, HCB, HXA, HXB, HRO, HTK, HB⟩ := hrel
        have HOL : Hid ((out.map chgC).length ≤ 100000) := by show _ ≤ _; rw [List.length_map]; have h1 := HMG.out.len HRI.out.2; have h2 := HNM.out; omega
        have HOW := Lib.hid (rows_lt HRO.out)
        by_cases hq : q < M
        · have hqB : q < B.length := by rw [← HNM.out.2.1]; exact hq
          have hdl : ((keysE B).drop q).length = M - q := by rw [List.length_drop, keysE_len, ← HNM.out.2.1]
          obtain ⟨g, o, c8, e8, _, hc8⟩ := (cutS_tk HCB.out HTK.out).cell (j := 0) (by rw [hdl]; omega)
          obtain ⟨a9, c9, hcut, hrun⟩ := cutS_l HCB.out (k := 1) (by rw [hdl]; omega)
          rw [hdl] at e8 hcut hrun
          have hb0 : ((keysE B).drop q)[0]'(by rw [hdl]; omega) = B[q].1 := by rw [List.getElem_drop]; simp [keysE]
          rw [hb0, Nat.add_zero] at hc8
          rw [List.drop_drop] at hcut
          have HCB9 : Hid (CutS (fun g => ∃ cs fr, w9.heap[g]? = some (.cells cs 9 fr)) w9 (.slice a9 (M - q - 1) c9) ((keysE B).drop (q + 1))) := hcut
          subst e8
          have hrun9 : ∀ w, (Instr.slice 37 (.slice (some ⟨g, o, none⟩) (M - q) c8) (some (.int .i64 1)) none none).run Tryd.prog w = .ok (.slice a9 (M - q - 1) c9) w := hrun
          obtain ⟨P, hP⟩ : ∃ P, P = M - q := ⟨_, rfl⟩
          rw [← hP] at hrun9 HCB9 HCB ⊢
          have hp0 : (0 : Int) < (P : Int) := by omega
          have hp0' : 0 < P := by omega
          have HPP : Hid (0 < P) := hp0'
          obtain ⟨b0, hbe⟩ : ∃ b, b = B[q].1 := ⟨_, rfl⟩
          rw [← hbe] at hc8
          have HSB0 : Hid (b0.size ≤ 9223372036854775800) := by show _ ≤ _; rw [hbe]; exact HSS.out.2 _ (List.getElem_mem hqB)
          have HCL := Lib.hid hc8
          have HQB := Lib.hid hqB
          have HBE : Hid (b0 = B[q].1) := hbe
          obtain ⟨x, hx⟩ : ∃ x, x = chgE A B b0 := ⟨_, rfl⟩
          have HXE := Lib.hid hx
          have HO := Lib.hid (fun w => q_Order b0 k w)
          obtain ⟨od, hod⟩ : ∃ od, od = orderS b0.data.toList k.data.toList := ⟨_, rfl⟩
          rw [← hod] at HO
          have HOD := Lib.hid hod
          clear hrun hcut hdl hb0 hbe hx hq hqB hod hP
          rcases tri b0 k with hlo | heq | hhi
          · have hole : od ≤ 0 := by have := (order_lt b0 k).2 hlo; rw [HOD.out]; unfold kb at this; omega
            obtain ⟨hno, hmg⟩ := HMG.out.lo' HRI.out.1 HJA.out HQB.out HBE.out HKE.out hlo
            rw [← HXE.out] at hmg
            have HMG9 := Lib.hid hmg
            obtain ⟨x1, x2, x3, x4, x5⟩ := x
            obtain rfl : x2 = false := by have h := congrArg (fun c : Chg => c.2.1) HXE.out; simp only [chgE, hno, Option.isSome_none] at h; exact h
            clear hno hmg hlo
            go_upto_region 7 with (go_at_call 63; (with_reducible refine (HO.out _).mono ?_); rintro r w1 ⟨rfl, hw⟩; obtain rfl := hw)
            clear hc8
            have HKS : Hid (∀ V, Below wr.heap.size wr V → V.heap[w.heap.size]? = some (.cells ca 36 (0, 0)) ∧ V.heap[w.heap.size + 1]? = some (.cells cb 36 (0, 0)) ∧ V.cell? ⟨g, o, none⟩ = some (.string b0)) := fun V hV => ⟨(hV.block _ (Array.getElem?_eq_some_iff.1 HXA.out).1).trans HXA.out, (hV.block _ (Array.getElem?_eq_some_iff.1 HXB.out).1).trans HXB.out, (hV.cell (World.block_lt_of_cell? wr _ HCL.out)).trans HCL.out⟩
            have HW : Hid (Below wr.heap.size wr wr.drew) := drawn_below wr
            refine wp_region_T (S := (fun V => V.heap[w.heap.size]? = some (.cells ca 36 (0, 0)) ∧ V.heap[w.heap.size + 1]? = some (.cells cb 36 (0, 0)) ∧ V.cell? ⟨g, o, none⟩ = some (.string b0))) [7] (by kernel_rfl) (by exact HKS.out _ HW.out) (fun hHeld => ?_)
            refine wpAnyT_take (i := 0) (oi := ⟨some 34, _, _, _, _, _⟩) (v := _) rfl (by kernel_rfl) (by kernel_rfl) (by kernel_rfl) (by kernel_rfl) (fun _ _ _ h => h) (yieldsIf_load_row (by rfl) 36 _ rfl w.heap.size rfl ca 36 (0, 0) _ (fun w hw => hw.1) Tryd.underlying36 rfl (by rw [HZA.out]; exact map_size)) (by assumption) ?_
            (try simp only [Act.put, List.setIfInBounds_toArray, List.set_cons_zero, List.set_cons_succ])
            refine wpAnyT_take (i := 1) (oi := ⟨some 35, _, _, _, _, _⟩) (v := _) rfl (by kernel_rfl) (by kernel_rfl) (by kernel_rfl) (by kernel_rfl) (fun _ _ _ h => h) (yieldsIf_load_row (by rfl) 36 _ rfl (w.heap.size + 1) rfl cb 36 (0, 0) _ (fun w hw => hw.2.1) Tryd.underlying36 rfl (by rw [HZB.out]; exact map_size)) (by assumption) ?_
            (try simp only [Act.put, List.setIfInBounds_toArray, List.set_cons_zero, List.set_cons_succ])
            refine wpAnyT_take (i := 2) (oi := ⟨some 36, _, _, _, _, _⟩) (v := ?vg1_2) rfl (by kernel_rfl) (by kernel_rfl) (by kernel_rfl) (by kernel_rfl) (fun _ _ _ h => h) (Or.inl ⟨by rfl, ?hg1_2⟩) (by assumption) ?rg1_2
            case hg1_2 => (intro w hSw; (try dsimp only at hSw); first | (go_simp; done) | (go_simp; with_reducible rfl))
            (try simp only [Act.put, List.setIfInBounds_toArray, List.set_cons_zero, List.set_cons_succ])
            refine wpAnyT_take (i := 3) (oi := ⟨some 37, _, _, _, _, _⟩) (v := ?vg1_3) rfl (by kernel_rfl) (by kernel_rfl) (by kernel_rfl) (by kernel_rfl) (fun _ _ _ h => h) (Or.inl ⟨by rfl, ?hg1_3⟩) (by assumption) ?rg1_3
            case hg1_3 => (intro w hSw; (try dsimp only at hSw); first | (go_simp; done) | (go_simp; with_reducible rfl))
            (try simp only [Act.put, List.setIfInBounds_toArray, List.set_cons_zero, List.set_cons_succ])
            refine wpAnyT_take (i := 4) (oi := ⟨some 38, _, _, _, _, _⟩) (v := ?vg1_4) rfl (by kernel_rfl) (by kernel_rfl) (by kernel_rfl) (by kernel_rfl) (fun _ _ _ h => h) (Or.inl ⟨by rfl, ?hg1_4⟩) (by assumption) ?rg1_4
            case hg1_4 => (intro w hSw; (try dsimp only at hSw); first | (go_simp; done) | (go_simp; with_reducible rfl))
            (try simp only [Act.put, List.setIfInBounds_toArray, List.set_cons_zero, List.set_cons_succ])
            refine wpAnyT_groupA (n := 1) [5, 6] (fun a0 m b V => ∃ val : Nat → Value, b = ((a0.put (some 39) (val 5)).put (some 11) (val 6)) ∧ Gr GotC 73 chgZ [6] [(5, (x1, false, x3, x4, x5))] wr.drew V m val) rfl (by kernel_rfl) ⟨fun k => if k = 5 then _ else _, rfl, Gr.start _⟩ (by assumption) ?steplo ?donelo
            case steplo =>
              as_aux_lemma =>
              clear hHeld
              rintro m i b V hi - hw ⟨val, rfl, hG⟩ hS
              (try simp only [Act.put, List.setIfInBounds_toArray, List.set_cons_zero, List.set_cons_succ])
              have HG := Lib.hid hG
              clear hG hS hw
              rcases (by simp only [List.mem_cons, List.not_mem_nil, or_false] at hi; omega : i = 5 ∨ i = 6) with rfl | rfl
              · refine group_one (o := ⟨some 39, _, _, _, _, _⟩) rfl (fun K hK => ?_)
                go_simp
                go_at_call 64
                (with_reducible refine (HCH.out _ (HB.out.trans ((HW.out.trans (HG.out.bel.mono HW.out.size)).mono HB.out.size)) b0 HSB0.out).mono ?_)
                rintro e V2 ⟨rfl, hb⟩
                dsimp only
                refine hK.out _ _ (by exact HKS.out _ (HW.out.trans ((HG.out.bel.trans (hb.mono HG.out.bel.size)).mono HW.out.size))) ⟨_, rfl, Gr.call (R := GotC) (fun A B v x h hb => h) HG.out hb (by decide) (fun gg hgg e => ?_)⟩
                simp only [List.mem_cons, List.not_mem_nil, or_false] at hgg
                rcases hgg with rfl
                show _ = _
                rw [← HXE.out]
                try rfl
              · refine group_one (o := ⟨some 11, _, _, _, _, _⟩) rfl (fun K hK => ?_)
                go_simp
                refine hK.out _ _ (by exact HKS.out _ (HW.out.trans ((HG.out.bel.trans ((Below.newly' V _).mono HG.out.bel.size)).mono HW.out.size))) ⟨_, rfl, Gr.alloc (R := GotC) (gots := [(5, (x1, false, x3, x4, x5))]) (fun A B v x h hb => h) HG.out (fun gg hgg e => by simp only [List.mem_cons, List.not_mem_nil, or_false] at hgg; rcases hgg with rfl; simp at e)⟩
            case donelo =>
              clear hHeld
              rintro m b V hm ⟨val, rfl, hG⟩ -
              obtain ⟨C, e1, g1, z1⟩ := hG.made 6 (by decide) (hm 6 rfl)
              have f1 := hG.got (5, (x1, false, x3, x4, x5)) (by simp) (hm 5 rfl)
              have HBL : Hid (Below wr.heap.size wr V) := HW.out.trans (hG.bel.mono HW.out.size)
              have HCG : Hid (wr.heap.size ≤ C) := g1
              have f1' : val 5 = .agg (chgC (x1, false, x3, x4, x5)) := f1
              rw [e1, f1']
              have HZV := Lib.hid z1
              clear hG hm e1 g1 z1 f1 f1'
              (try simp only [Act.put, List.setIfInBounds_toArray, List.set_cons_zero, List.set_cons_succ])
              refine wpAnyT_last (i := 7) (o := ⟨none, _, _, _, _, _⟩) (by kernel_rfl) (by decide) rfl (fun K hK => ?_)
              rw [if_pos (by rfl)]
              refine st_agg_wp 73 _ _ rfl C (chgC (x1, false, x3, x4, x5)) rfl rfl 73 chgZ HZV.out chg_size rfl (chgC_one _) ?_
              intro wS hsS ksS
              refine hK.out _ _ ?_
              clear hK K
              (try simp only [Act.put, List.setIfInBounds_toArray, List.set_cons_zero, List.set_cons_succ])
              refine wpAnyT_done (by kernel_rfl) ?_ _
              have hbS : Below wr.heap.size wr wS := HBL.out.trans (ksS.below HCG.out)
              have HXC := Lib.hid hsS
              replace HXA := Lib.hid ((hbS.block _ (Array.getElem?_eq_some_iff.1 HXA.out).1).trans HXA.out)
              replace HXB := Lib.hid ((hbS.block _ (Array.getElem?_eq_some_iff.1 HXB.out).1).trans HXB.out)
              replace HRO := Lib.hid (HRO.out.later hbS)
              replace HTK := Lib.hid (HTK.out.trans (TK.below hbS))
              replace HB := Lib.hid (HB.out.trans (hbS.mono HB.out.size))
              clear HKS HW HBL HZV hsS ksS hbS
              have qb1 : wS.cell? ⟨C, 1, none⟩ = some (.bool false) := cell_in HXC.out rfl
              go_wp2_with (first
                | (refine ld_if (by rfl) 73 _ rfl C rfl 73 _ _ _ HXC.out Tryd.underlying73 rfl (by exact chg_size) ?_)
                | (refine bs_list rfl 59 73 _ rfl (chgC (x1, false, x3, x4, x5)) 5 (.agg chgZ) rfl rfl (by decide) (by decide) Tryd.underlying59 rfl ?_; intro w6 h6 hb6 hs6; replace HXA := Lib.hid ((hb6.block _ (Array.getElem?_eq_some_iff.1 HXA.out).1).trans HXA.out); replace HXB := Lib.hid ((hb6.block _ (Array.getElem?_eq_some_iff.1 HXB.out).1).trans HXB.out); replace HXC := Lib.hid ((hb6.block _ (Array.getElem?_eq_some_iff.1 HXC.out).1).trans HXC.out); replace HRO := Lib.hid (HRO.out.later hb6); replace HTK := Lib.hid (HTK.out.trans (TK.below hb6)); replace HB := Lib.hid (HB.out.trans (hb6.mono HB.out.size)); have HG6 := Lib.hid h6; have HS6 := Lib.hid hs6; clear h6 hb6 hs6)
                | (refine rows_list rfl (z := .agg chgZ) (by_ := 40) 59 73 _ _ rfl rfl HRO.out _ rfl HG6.out rfl (chgC_one _) Tryd.underlying59 rfl rfl (by decide) HOL.out (by decide) ?_; intro v7n w7 hr7 hg7; replace HXA := Lib.hid (HRO.out.keeps hg7 (by omega) HXA.out); replace HXB := Lib.hid (HRO.out.keeps hg7 (by omega) HXB.out); replace HXC := Lib.hid ((hg7.block C (Array.getElem?_eq_some_iff.1 HXC.out).1 (fun e => by have h1 := HOW.out C e.symm; have h2 := HCG.out; omega)).trans HXC.out); have qc1 := cell_in HXC.out (j := 1) (v := .bool false) rfl; replace HTK := Lib.hid (HTK.out.trans (rows_tk HRO.out hg7 (by decide))); replace HB := Lib.hid (HB.out.trans (HRO.out.below hg7 (by omega) HB.out.size)); replace HRO := Lib.hid hr7; clear hr7 hg7))
              go_roundw
              case rel =>
                refine ⟨q + 1, _, HMG9, HCB9, HXA, HXB, ?_, HTK, HB⟩
                show RowsOwn _ _ _ _ _ _
                rw [List.map_append]
                exact HRO.out
              case measure => have := HPP.out; simp [lenS]; omega
          · subst heq
            have hole : od ≤ 0 := by rw [HOD.out, (orderS_zero b0.data.toList b0.data.toList).2 rfl]; omega
            obtain ⟨was, is_, hxv, hmg⟩ := HMG.out.both' HRI.out.1 HRI.out.2 HJA.out HQB.out HBE.out HKE.out
            rw [← HXE.out] at hxv
            subst hxv
            have HMG9 := Lib.hid hmg
            clear hmg
            cases hav : al was is_ with
            | false =>
              have HMGX : Hid (Mg al A B (j + 1) (q + 1) (out ++ [(b0, true, true, was, is_)])) := by have h := HMG9.out; rw [hav] at h; exact h
              have hsm := fun W (h : Below w.heap.size w W) => HAL.out W h was is_
              rw [hav] at hsm
              have HSM := Lib.hid hsm
              clear hsm hav HMG9
              go_upto_region 7 with (go_at_call 63; (with_reducible refine (HO.out _).mono ?_); rintro r w1 ⟨rfl, hw⟩; obtain rfl := hw)
              clear hc8
              have HKS : Hid (∀ V, Below wr.heap.size wr V → V.heap[w.heap.size]? = some (.cells ca 36 (0, 0)) ∧ V.heap[w.heap.size + 1]? = some (.cells cb 36 (0, 0)) ∧ V.cell? ⟨g, o, none⟩ = some (.string b0)) := fun V hV => ⟨(hV.block _ (Array.getElem?_eq_some_iff.1 HXA.out).1).trans HXA.out, (hV.block _ (Array.getElem?_eq_some_iff.1 HXB.out).1).trans HXB.out, (hV.cell (World.block_lt_of_cell? wr _ HCL.out)).trans HCL.out⟩
              have HW : Hid (Below wr.heap.size wr wr.drew) := drawn_below wr
              refine wp_region_T (S := (fun V => V.heap[w.heap.size]? = some (.cells ca 36 (0, 0)) ∧ V.heap[w.heap.size + 1]? = some (.cells cb 36 (0, 0)) ∧ V.cell? ⟨g, o, none⟩ = some (.string b0))) [7] (by kernel_rfl) (by exact HKS.out _ HW.out) (fun hHeld => ?_)
              refine wpAnyT_take (i := 0) (oi := ⟨some 34, _, _, _, _, _⟩) (v := _) rfl (by kernel_rfl) (by kernel_rfl) (by kernel_rfl) (by kernel_rfl) (fun _ _ _ h => h) (yieldsIf_load_row (by rfl) 36 _ rfl w.heap.size rfl ca 36 (0, 0) _ (fun w hw => hw.1) Tryd.underlying36 rfl (by rw [HZA.out]; exact map_size)) (by assumption) ?_
              (try simp only [Act.put, List.setIfInBounds_toArray, List.set_cons_zero, List.set_cons_succ])
              refine wpAnyT_take (i := 1) (oi := ⟨some 35, _, _, _, _, _⟩) (v := _) rfl (by kernel_rfl) (by kernel_rfl) (by kernel_rfl) (by kernel_rfl) (fun _ _ _ h => h) (yieldsIf_load_row (by rfl) 36 _ rfl (w.heap.size + 1) rfl cb 36 (0, 0) _ (fun w hw => hw.2.1) Tryd.underlying36 rfl (by rw [HZB.out]; exact map_size)) (by assumption) ?_
              (try simp only [Act.put, List.setIfInBounds_toArray, List.set_cons_zero, List.set_cons_succ])
              refine wpAnyT_take (i := 2) (oi := ⟨some 36, _, _, _, _, _⟩) (v := ?vg2_2) rfl (by kernel_rfl) (by kernel_rfl) (by kernel_rfl) (by kernel_rfl) (fun _ _ _ h => h) (Or.inl ⟨by rfl, ?hg2_2⟩) (by assumption) ?rg2_2
              case hg2_2 => (intro w hSw; (try dsimp only at hSw); first | (go_simp; done) | (go_simp; with_reducible rfl))
              (try simp only [Act.put, List.setIfInBounds_toArray, List.set_cons_zero, List.set_cons_succ])
              refine wpAnyT_take (i := 3) (oi := ⟨some 37, _, _, _, _, _⟩) (v := ?vg2_3) rfl (by kernel_rfl) (by kernel_rfl) (by kernel_rfl) (by kernel_rfl) (fun _ _ _ h => h) (Or.inl ⟨by rfl, ?hg2_3⟩) (by assumption) ?rg2_3
              case hg2_3 => (intro w hSw; (try dsimp only at hSw); first | (go_simp; done) | (go_simp; with_reducible rfl))
              (try simp only [Act.put, List.setIfInBounds_toArray, List.set_cons_zero, List.set_cons_succ])
              refine wpAnyT_take (i := 4) (oi := ⟨some 38, _, _, _, _, _⟩) (v := ?vg2_4) rfl (by kernel_rfl) (by kernel_rfl) (by kernel_rfl) (by kernel_rfl) (fun _ _ _ h => h) (Or.inl ⟨by rfl, ?hg2_4⟩) (by assumption) ?rg2_4
              case hg2_4 => (intro w hSw; (try dsimp only at hSw); first | (go_simp; done) | (go_simp; with_reducible rfl))
              (try simp only [Act.put, List.setIfInBounds_toArray, List.set_cons_zero, List.set_cons_succ])
              refine wpAnyT_groupA (n := 1) [5, 6] (fun a0 m b V => ∃ val : Nat → Value, b = ((a0.put (some 39) (val 5)).put (some 11) (val 6)) ∧ Gr GotC 73 chgZ [6] [(5, (b0, true, true, was, is_))] wr.drew V m val) rfl (by kernel_rfl) ⟨fun k => if k = 5 then _ else _, rfl, Gr.start _⟩ (by assumption) ?stepef ?doneef
              case stepef =>
                as_aux_lemma =>
                clear hHeld
                rintro m i b V hi - hw ⟨val, rfl, hG⟩ hS
                (try simp only [Act.put, List.setIfInBounds_toArray, List.set_cons_zero, List.set_cons_succ])
                have HG := Lib.hid hG
                clear hG hS hw
                rcases (by simp only [List.mem_cons, List.not_mem_nil, or_false] at hi; omega : i = 5 ∨ i = 6) with rfl | rfl
                · refine group_one (o := ⟨some 39, _, _, _, _, _⟩) rfl (fun K hK => ?_)
                  go_simp
                  go_at_call 64
                  (with_reducible refine (HCH.out _ (HB.out.trans ((HW.out.trans (HG.out.bel.mono HW.out.size)).mono HB.out.size)) b0 HSB0.out).mono ?_)
                  rintro e V2 ⟨rfl, hb⟩
                  dsimp only
                  refine hK.out _ _ (by exact HKS.out _ (HW.out.trans ((HG.out.bel.trans (hb.mono HG.out.bel.size)).mono HW.out.size))) ⟨_, rfl, Gr.call (R := GotC) (fun A B v x h hb => h) HG.out hb (by decide) (fun gg hgg e => ?_)⟩
                  simp only [List.mem_cons, List.not_mem_nil, or_false] at hgg
                  rcases hgg with rfl
                  show _ = _
                  rw [← HXE.out]
                  try rfl
                · refine group_one (o := ⟨some 11, _, _, _, _, _⟩) rfl (fun K hK => ?_)
                  go_simp
                  refine hK.out _ _ (by exact HKS.out _ (HW.out.trans ((HG.out.bel.trans ((Below.newly' V _).mono HG.out.bel.size)).mono HW.out.size))) ⟨_, rfl, Gr.alloc (R := GotC) (gots := [(5, (b0, true, true, was, is_))]) (fun A B v x h hb => h) HG.out (fun gg hgg e => by simp only [List.mem_cons, List.not_mem_nil, or_false] at hgg; rcases hgg with rfl; simp at e)⟩
              case doneef =>
                clear hHeld
                rintro m b V hm ⟨val, rfl, hG⟩ -
                obtain ⟨C, e1, g1, z1⟩ := hG.made 6 (by decide) (hm 6 rfl)
                have f1 := hG.got (5, (b0, true, true, was, is_)) (by simp) (hm 5 rfl)
                have HBL : Hid (Below wr.heap.size wr V) := HW.out.trans (hG.bel.mono HW.out.size)
                have HCG : Hid (wr.heap.size ≤ C) := g1
                have f1' : val 5 = .agg (chgC (b0, true, true, was, is_)) := f1
                rw [e1, f1']
                have HZV := Lib.hid z1
                clear hG hm e1 g1 z1 f1 f1'
                (try simp only [Act.put, List.setIfInBounds_toArray, List.set_cons_zero, List.set_cons_succ])
                refine wpAnyT_last (i := 7) (o := ⟨none, _, _, _, _, _⟩) (by kernel_rfl) (by decide) rfl (fun K hK => ?_)
                rw [if_pos (by rfl)]
                refine st_agg_wp 73 _ _ rfl C (chgC (b0, true, true, was, is_)) rfl rfl 73 chgZ HZV.out chg_size rfl (chgC_one _) ?_
                intro wS hsS ksS
                refine hK.out _ _ ?_
                clear hK K
                (try simp only [Act.put, List.setIfInBounds_toArray, List.set_cons_zero, List.set_cons_succ])
                refine wpAnyT_done (by kernel_rfl) ?_ _
                have hbS : Below wr.heap.size wr wS := HBL.out.trans (ksS.below HCG.out)
                have HXC := Lib.hid hsS
                replace HXA := Lib.hid ((hbS.block _ (Array.getElem?_eq_some_iff.1 HXA.out).1).trans HXA.out)
                replace HXB := Lib.hid ((hbS.block _ (Array.getElem?_eq_some_iff.1 HXB.out).1).trans HXB.out)
                replace HRO := Lib.hid (HRO.out.later hbS)
                replace HTK := Lib.hid (HTK.out.trans (TK.below hbS))
                replace HB := Lib.hid (HB.out.trans (hbS.mono HB.out.size))
                clear HKS HW HBL HZV hsS ksS hbS
                have qb1 : wS.cell? ⟨C, 1, none⟩ = some (.bool true) := cell_in HXC.out rfl
                have qb3 : wS.cell? ⟨C, 3, none⟩ = some (.int .i64 was) := cell_in HXC.out rfl
                have qb4 : wS.cell? ⟨C, 4, none⟩ = some (.int .i64 is_) := cell_in HXC.out rfl
                go_wp2_with fail
                (with_reducible refine (HSM.out _ HB.out).mono ?_)
                rintro r w3 ⟨rfl, hb⟩
                replace HXA := Lib.hid ((hb.block _ (Array.getElem?_eq_some_iff.1 HXA.out).1).trans HXA.out)
                replace HXB := Lib.hid ((hb.block _ (Array.getElem?_eq_some_iff.1 HXB.out).1).trans HXB.out)
                replace HXC := Lib.hid ((hb.block _ (Array.getElem?_eq_some_iff.1 HXC.out).1).trans HXC.out)
                replace HRO := Lib.hid (HRO.out.later hb)
                replace HTK := Lib.hid (HTK.out.trans (TK.below hb))
                replace HB := Lib.hid (HB.out.trans (hb.mono HB.out.size))
                clear hb
                have qc1 := cell_in HXC.out (j := 1) (v := .bool true) rfl
                go_wp2_with (first
                  | (refine ld_if (by rfl) 73 _ rfl C rfl 73 _ _ _ HXC.out Tryd.underlying73 rfl (by exact chg_size) ?_)
                  | (refine bs_list rfl 59 73 _ rfl (chgC (b0, true, true, was, is_)) 5 (.agg chgZ) rfl rfl (by decide) (by decide) Tryd.underlying59 rfl ?_; intro w6 h6 hb6 hs6; replace HXA := Lib.hid ((hb6.block _ (Array.getElem?_eq_some_iff.1 HXA.out).1).trans HXA.out); replace HXB := Lib.hid ((hb6.block _ (Array.getElem?_eq_some_iff.1 HXB.out).1).trans HXB.out); replace HXC := Lib.hid ((hb6.block _ (Array.getElem?_eq_some_iff.1 HXC.out).1).trans HXC.out); replace HRO := Lib.hid (HRO.out.later hb6); replace HTK := Lib.hid (HTK.out.trans (TK.below hb6)); replace HB := Lib.hid (HB.out.trans (hb6.mono HB.out.size)); have HG6 := Lib.hid h6; have HS6 := Lib.hid hs6; clear h6 hb6 hs6)
                  | (refine rows_list rfl (z := .agg chgZ) (by_ := 40) 59 73 _ _ rfl rfl HRO.out _ rfl HG6.out rfl (chgC_one _) Tryd.underlying59 rfl rfl (by decide) HOL.out (by decide) ?_; intro v7n w7 hr7 hg7; replace HXA := Lib.hid (HRO.out.keeps hg7 (by omega) HXA.out); replace HXB := Lib.hid (HRO.out.keeps hg7 (by omega) HXB.out); replace HXC := Lib.hid ((hg7.block C (Array.getElem?_eq_some_iff.1 HXC.out).1 (fun e => by have h1 := HOW.out C e.symm; have h2 := HCG.out; omega)).trans HXC.out); have qc1 := cell_in HXC.out (j := 1) (v := .bool true) rfl; replace HTK := Lib.hid (HTK.out.trans (rows_tk HRO.out hg7 (by decide))); replace HB := Lib.hid (HB.out.trans (HRO.out.below hg7 (by omega) HB.out.size)); replace HRO := Lib.hid hr7; clear hr7 hg7))
                go_roundw
                case rel =>
                  refine ⟨j + 1, q + 1, _, by simp, HMGX, HCB9, HXA, HXB, ?_, HTK, HB⟩
                  show RowsOwn _ _ _ _ _ _
                  rw [List.map_append]
                  skip
                  exact HRO.out
                case measure => have := HLT.out; simp [intOf]; omega
            | true =>
              have HMGX : Hid (Mg al A B (j + 1) (q + 1) (out ++ [])) := by have h := HMG9.out; rw [hav] at h; exact h
              have hsm := fun W (h : Below w.heap.size w W) => HAL.out W h was is_
              rw [hav] at hsm
              have HSM := Lib.hid hsm
              clear hsm hav HMG9
              go_upto_region 7 with (go_at_call 63; (with_reducible refine (HO.out _).mono ?_); rintro r w1 ⟨rfl, hw⟩; obtain rfl := hw)
              clear hc8
              have HKS : Hid (∀ V, Below wr.heap.size wr V → V.heap[w.heap.size]? = some (.cells ca 36 (0, 0)) ∧ V.heap[w.heap.size + 1]? = some (.cells cb 36 (0, 0)) ∧ V.cell? ⟨g, o, none⟩ = some (.string b0)) := fun V hV => ⟨(hV.block _ (Array.getElem?_eq_some_iff.1 HXA.out).1).trans HXA.out, (hV.block _ (Array.getElem?_eq_some_iff.1 HXB.out).1).trans HXB.out, (hV.cell (World.block_lt_of_cell? wr _ HCL.out)).trans HCL.out⟩
              have HW : Hid (Below wr.heap.size wr wr.drew) := drawn_below wr
              refine wp_region_T (S := (fun V => V.heap[w.heap.size]? = some (.cells ca 36 (0, 0)) ∧ V.heap[w.heap.size + 1]? = some (.cells cb 36 (0, 0)) ∧ V.cell? ⟨g, o, none⟩ = some (.string b0))) [7] (by kernel_rfl) (by exact HKS.out _ HW.out) (fun hHeld => ?_)
              refine wpAnyT_take (i := 0) (oi := ⟨some 34, _, _, _, _, _⟩) (v := _) rfl (by kernel_rfl) (by kernel_rfl) (by kernel_rfl) (by kernel_rfl) (fun _ _ _ h => h) (yieldsIf_load_row (by rfl) 36 _ rfl w.heap.size rfl ca 36 (0, 0) _ (fun w hw => hw.1) Tryd.underlying36 rfl (by rw [HZA.out]; exact map_size)) (by assumption) ?_
              (try simp only [Act.put, List.setIfInBounds_toArray, List.set_cons_zero, List.set_cons_succ])
              refine wpAnyT_take (i := 1) (oi := ⟨some 35, _, _, _, _, _⟩) (v := _) rfl (by kernel_rfl) (by kernel_rfl) (by kernel_rfl) (by kernel_rfl) (fun _ _ _ h => h) (yieldsIf_load_row (by rfl) 36 _ rfl (w.heap.size + 1) rfl cb 36 (0, 0) _ (fun w hw => hw.2.1) Tryd.underlying36 rfl (by rw [HZB.out]; exact map_size)) (by assumption) ?_
              (try simp only [Act.put, List.setIfInBounds_toArray, List.set_cons_zero, List.set_cons_succ])
              refine wpAnyT_take (i := 2) (oi := ⟨some 36, _, _, _, _, _⟩) (v := ?vg3_2) rfl (by kernel_rfl) (by kernel_rfl) (by kernel_rfl) (by kernel_rfl) (fun _ _ _ h => h) (Or.inl ⟨by rfl, ?hg3_2⟩) (by assumption) ?rg3_2
              case hg3_2 => (intro w hSw; (try dsimp only at hSw); first | (go_simp; done) | (go_simp; with_reducible rfl))
              (try simp only [Act.put, List.setIfInBounds_toArray, List.set_cons_zero, List.set_cons_succ])
              refine wpAnyT_take (i := 3) (oi := ⟨some 37, _, _, _, _, _⟩) (v := ?vg3_3) rfl (by kernel_rfl) (by kernel_rfl) (by kernel_rfl) (by kernel_rfl) (fun _ _ _ h => h) (Or.inl ⟨by rfl, ?hg3_3⟩) (by assumption) ?rg3_3
              case hg3_3 => (intro w hSw; (try dsimp only at hSw); first | (go_simp; done) | (go_simp; with_reducible rfl))
              (try simp only [Act.put, List.setIfInBounds_toArray, List.set_cons_zero, List.set_cons_succ])
              refine wpAnyT_take (i := 4) (oi := ⟨some 38, _, _, _, _, _⟩) (v := ?vg3_4) rfl (by kernel_rfl) (by kernel_rfl) (by kernel_rfl) (by kernel_rfl) (fun _ _ _ h => h) (Or.inl ⟨by rfl, ?hg3_4⟩) (by assumption) ?rg3_4
              case hg3_4 => (intro w hSw; (try dsimp only at hSw); first | (go_simp; done) | (go_simp; with_reducible rfl))
              (try simp only [Act.put, List.setIfInBounds_toArray, List.set_cons_zero, List.set_cons_succ])
              refine wpAnyT_groupA (n := 1) [5, 6] (fun a0 m b V => ∃ val : Nat → Value, b = ((a0.put (some 39) (val 5)).put (some 11) (val 6)) ∧ Gr GotC 73 chgZ [6] [(5, (b0, true, true, was, is_))] wr.drew V m val) rfl (by kernel_rfl) ⟨fun k => if k = 5 then _ else _, rfl, Gr.start _⟩ (by assumption) ?stepet ?doneet
              case stepet =>
                as_aux_lemma =>
                clear hHeld
                rintro m i b V hi - hw ⟨val, rfl, hG⟩ hS
                (try simp only [Act.put, List.setIfInBounds_toArray, List.set_cons_zero, List.set_cons_succ])
                have HG := Lib.hid hG
                clear hG hS hw
                rcases (by simp only [List.mem_cons, List.not_mem_nil, or_false] at hi; omega : i = 5 ∨ i = 6) with rfl | rfl
                · refine group_one (o := ⟨some 39, _, _, _, _, _⟩) rfl (fun K hK => ?_)
                  go_simp
                  go_at_call 64
                  (with_reducible refine (HCH.out _ (HB.out.trans ((HW.out.trans (HG.out.bel.mono HW.out.size)).mono HB.out.size)) b0 HSB0.out).mono ?_)
                  rintro e V2 ⟨rfl, hb⟩
                  dsimp only
                  refine hK.out _ _ (by exact HKS.out _ (HW.out.trans ((HG.out.bel.trans (hb.mono HG.out.bel.size)).mono HW.out.size))) ⟨_, rfl, Gr.call (R := GotC) (fun A B v x h hb => h) HG.out hb (by decide) (fun gg hgg e => ?_)⟩
                  simp only [List.mem_cons, List.not_mem_nil, or_false] at hgg
                  rcases hgg with rfl
                  show _ = _
                  rw [← HXE.out]
                  try rfl
                · refine group_one (o := ⟨some 11, _, _, _, _, _⟩) rfl (fun K hK => ?_)
                  go_simp
                  refine hK.out _ _ (by exact HKS.out _ (HW.out.trans ((HG.out.bel.trans ((Below.newly' V _).mono HG.out.bel.size)).mono HW.out.size))) ⟨_, rfl, Gr.alloc (R := GotC) (gots := [(5, (b0, true, true, was, is_))]) (fun A B v x h hb => h) HG.out (fun gg hgg e => by simp only [List.mem_cons, List.not_mem_nil, or_false] at hgg; rcases hgg with rfl; simp at e)⟩
              case doneet =>
                clear hHeld
                rintro m b V hm ⟨val, rfl, hG⟩ -
                obtain ⟨C, e1, g1, z1⟩ := hG.made 6 (by decide) (hm 6 rfl)
                have f1 := hG.got (5, (b0, true, true, was, is_)) (by simp) (hm 5 rfl)
                have HBL : Hid (Below wr.heap.size wr V) := HW.out.trans (hG.bel.mono HW.out.size)
                have HCG : Hid (wr.heap.size ≤ C) := g1
                have f1' : val 5 = .agg (chgC (b0, true, true, was, is_)) := f1
                rw [e1, f1']
                have HZV := Lib.hid z1
                clear hG hm e1 g1 z1 f1 f1'
                (try simp only [Act.put, List.setIfInBounds_toArray, List.set_cons_zero, List.set_cons_succ])
                refine wpAnyT_last (i := 7) (o := ⟨none, _, _, _, _, _⟩) (by kernel_rfl) (by decide) rfl (fun K hK => ?_)
                rw [if_pos (by rfl)]
                refine st_agg_wp 73 _ _ rfl C (chgC (b0, true, true, was, is_)) rfl rfl 73 chgZ HZV.out chg_size rfl (chgC_one _) ?_
                intro wS hsS ksS
                refine hK.out _ _ ?_
                clear hK K
                (try simp only [Act.put, List.setIfInBounds_toArray, List.set_cons_zero, List.set_cons_succ])
                refine wpAnyT_done (by kernel_rfl) ?_ _
                have hbS : Below wr.heap.size wr wS := HBL.out.trans (ksS.below HCG.out)
                have HXC := Lib.hid hsS
                replace HXA := Lib.hid ((hbS.block _ (Array.getElem?_eq_some_iff.1 HXA.out).1).trans HXA.out)
                replace HXB := Lib.hid ((hbS.block _ (Array.getElem?_eq_some_iff.1 HXB.out).1).trans HXB.out)
                replace HRO := Lib.hid (HRO.out.later hbS)
                replace HTK := Lib.hid (HTK.out.trans (TK.below hbS))
                replace HB := Lib.hid (HB.out.trans (hbS.mono HB.out.size))
                clear HKS HW HBL HZV hsS ksS hbS
                have qb1 : wS.cell? ⟨C, 1, none⟩ = some (.bool true) := cell_in HXC.out rfl
                have qb3 : wS.cell? ⟨C, 3, none⟩ = some (.int .i64 was) := cell_in HXC.out rfl
                have qb4 : wS.cell? ⟨C, 4, none⟩ = some (.int .i64 is_) := cell_in HXC.out rfl
                go_wp2_with fail
                (with_reducible refine (HSM.out _ HB.out).mono ?_)
                rintro r w3 ⟨rfl, hb⟩
                replace HXA := Lib.hid ((hb.block _ (Array.getElem?_eq_some_iff.1 HXA.out).1).trans HXA.out)
                replace HXB := Lib.hid ((hb.block _ (Array.getElem?_eq_some_iff.1 HXB.out).1).trans HXB.out)
                replace HXC := Lib.hid ((hb.block _ (Array.getElem?_eq_some_iff.1 HXC.out).1).trans HXC.out)
                replace HRO := Lib.hid (HRO.out.later hb)
                replace HTK := Lib.hid (HTK.out.trans (TK.below hb))
                replace HB := Lib.hid (HB.out.trans (hb.mono HB.out.size))
                clear hb
                have qc1 := cell_in HXC.out (j := 1) (v := .bool true) rfl
                go_wp2_with (first
                  | (refine ld_if (by rfl) 73 _ rfl C rfl 73 _ _ _ HXC.out Tryd.underlying73 rfl (by exact chg_size) ?_)
                  | (refine bs_list rfl 59 73 _ rfl (chgC (b0, true, true, was, is_)) 5 (.agg chgZ) rfl rfl (by decide) (by decide) Tryd.underlying59 rfl ?_; intro w6 h6 hb6 hs6; replace HXA := Lib.hid ((hb6.block _ (Array.getElem?_eq_some_iff.1 HXA.out).1).trans HXA.out); replace HXB := Lib.hid ((hb6.block _ (Array.getElem?_eq_some_iff.1 HXB.out).1).trans HXB.out); replace HXC := Lib.hid ((hb6.block _ (Array.getElem?_eq_some_iff.1 HXC.out).1).trans HXC.out); replace HRO := Lib.hid (HRO.out.later hb6); replace HTK := Lib.hid (HTK.out.trans (TK.below hb6)); replace HB := Lib.hid (HB.out.trans (hb6.mono HB.out.size)); have HG6 := Lib.hid h6; have HS6 := Lib.hid hs6; clear h6 hb6 hs6)
                  | (refine rows_list rfl (z := .agg chgZ) (by_ := 40) 59 73 _ _ rfl rfl HRO.out _ rfl HG6.out rfl (chgC_one _) Tryd.underlying59 rfl rfl (by decide) HOL.out (by decide) ?_; intro v7n w7 hr7 hg7; replace HXA := Lib.hid (HRO.out.keeps hg7 (by omega) HXA.out); replace HXB := Lib.hid (HRO.out.keeps hg7 (by omega) HXB.out); replace HXC := Lib.hid ((hg7.block C (Array.getElem?_eq_some_iff.1 HXC.out).1 (fun e => by have h1 := HOW.out C e.symm; have h2 := HCG.out; omega)).trans HXC.out); have qc1 := cell_in HXC.out (j := 1) (v := .bool true) rfl; replace HTK := Lib.hid (HTK.out.trans (rows_tk HRO.out hg7 (by decide))); replace HB := Lib.hid (HB.out.trans (HRO.out.below hg7 (by omega) HB.out.size)); replace HRO := Lib.hid hr7; clear hr7 hg7))
                go_roundw
                case rel =>
                  refine ⟨j + 1, q + 1, _, by simp, HMGX, HCB9, HXA, HXB, ?_, HTK, HB⟩
                  show RowsOwn _ _ _ _ _ _
                  rw [List.map_append]
                  rw [List.map_nil, List.append_nil]
                  exact HRO.out
                case measure => have := HLT.out; simp [intOf]; omega
          · have hole : ¬ od ≤ 0 := by rw [HOD.out]; exact fun h => ((order_le b0 k).1 h) hhi
            have HMG9 := Lib.hid (HMG.out.only' HRI.out.2 HJA.out HKE.out (fun _ => by have h := hhi; rw [HBE.out] at h; exact h))
            clear hhi HXE
            go_wp2_with (first
              | (go_at_call 63; (with_reducible refine (HO.out _).mono ?_); rintro r w1 ⟨rfl, hw⟩; obtain rfl := hw)
              | (refine ld_if (by rfl) 36 _ rfl w.heap.size rfl 36 ca _ _ HXA.out Tryd.underlying36 rfl (by rw [HZA.out]; exact map_size) ?_)
              | (refine ld_if (by rfl) 36 _ rfl (w.heap.size + 1) rfl 36 cb _ _ HXB.out Tryd.underlying36 rfl (by rw [HZB.out]; exact map_size) ?_)
              | (go_at_call 64; (with_reducible refine (HCH.out _ HB.out k HSK.out).mono ?_); rintro r w3 ⟨rfl, hb⟩; replace HXA := Lib.hid ((hb.block _ (Array.getElem?_eq_some_iff.1 HXA.out).1).trans HXA.out); replace HXB := Lib.hid ((hb.block _ (Array.getElem?_eq_some_iff.1 HXB.out).1).trans HXB.out); replace HRO := Lib.hid (HRO.out.later hb); replace HTK := Lib.hid (HTK.out.trans (TK.below hb)); replace HB := Lib.hid (HB.out.trans (hb.mono HB.out.size)); clear hb)
              | (refine bs_list rfl 59 73 _ rfl (chgC (chgE A B k)) 5 (.agg chgZ) rfl rfl (by decide) (by decide) Tryd.underlying59 rfl ?_; intro w6 h6 hb6 hs6; replace HXA := Lib.hid ((hb6.block _ (Array.getElem?_eq_some_iff.1 HXA.out).1).trans HXA.out); replace HXB := Lib.hid ((hb6.block _ (Array.getElem?_eq_some_iff.1 HXB.out).1).trans HXB.out); replace HRO := Lib.hid (HRO.out.later hb6); replace HTK := Lib.hid (HTK.out.trans (TK.below hb6)); replace HB := Lib.hid (HB.out.trans (hb6.mono HB.out.size)); have HG6 := Lib.hid h6; have HS6 := Lib.hid hs6; clear h6 hb6 hs6)
              | (refine rows_list rfl (z := .agg chgZ) (by_ := 40) 59 73 _ _ rfl rfl HRO.out _ rfl HG6.out rfl (chgC_one _) Tryd.underlying59 rfl rfl (by decide) HOL.out (by decide) ?_; intro v7n w7 hr7 hg7; replace HXA := Lib.hid (HRO.out.keeps hg7 (by omega) HXA.out); replace HXB := Lib.hid (HRO.out.keeps hg7 (by omega) HXB.out); replace HTK := Lib.hid (HTK.out.trans (rows_tk HRO.out hg7 (by decide))); replace HB := Lib.hid (HB.out.trans (HRO.out.below hg7 (by omega) HB.out.size)); replace HRO := Lib.hid hr7; clear hr7 hg7))
            go_roundw
            case rel =>
              refine ⟨j + 1, q, _, by simp, HMG9, HCB, HXA, HXB, ?_, HTK, HB⟩
              show RowsOwn _ _ _ _ _ _
              rw [List.map_append]
              exact HRO.out
            case measure => have := HLT.out; simp [intOf]; omega
        · have hqM : q = M := by have := HMG.out.hq; have := HNM.out; omega
          have hdl : ((keysE B).drop q).length = 0 := by rw [List.length_drop, keysE_len, ← HNM.out.2.1]; omega
          obtain ⟨a8, c8, e8, _⟩ := HCB.out.shape
          rw [hdl] at e8
          subst e8
          have HMG9 := Lib.hid (HMG.out.only' HRI.out.2 HJA.out HKE.out (fun h => absurd h (by have := HNM.out; omega)))
          clear hdl hq
          go_wp2_with (first
            | (refine ld_if (by rfl) 36 _ rfl w.heap.size rfl 36 ca _ _ HXA.out Tryd.underlying36 rfl (by rw [HZA.out]; exact map_size) ?_)
            | (refine ld_if (by rfl) 36 _ rfl (w.heap.size + 1) rfl 36 cb _ _ HXB.out Tryd.underlying36 rfl (by rw [HZB.out]; exact map_size) ?_)
            | (go_at_call 64; (with_reducible refine (HCH.out _ HB.out k HSK.out).mono ?_); rintro r w3 ⟨rfl, hb⟩; replace HXA := Lib.hid ((hb.block _ (Array.getElem?_eq_some_iff.1 HXA.out).1).trans HXA.out); replace HXB := Lib.hid ((hb.block _ (Array.getElem?_eq_some_iff.1 HXB.out).1).trans HXB.out); replace HRO := Lib.hid (HRO.out.later hb); replace HTK := Lib.hid (HTK.out.trans (TK.below hb)); replace HB := Lib.hid (HB.out.trans (hb.mono HB.out.size)); clear hb)
            | (refine bs_list rfl 59 73 _ rfl (chgC (chgE A B k)) 5 (.agg chgZ) rfl rfl (by decide) (by decide) Tryd.underlying59 rfl ?_; intro w6 h6 hb6 hs6; replace HXA := Lib.hid ((hb6.block _ (Array.getElem?_eq_some_iff.1 HXA.out).1).trans HXA.out); replace HXB := Lib.hid ((hb6.block _ (Array.getElem?_eq_some_iff.1 HXB.out).1).trans HXB.out); replace HRO := Lib.hid (HRO.out.later hb6); replace HTK := Lib.hid (HTK.out.trans (TK.below hb6)); replace HB := Lib.hid (HB.out.trans (hb6.mono HB.out.size)); have HG6 := Lib.hid h6; have HS6 := Lib.hid hs6; clear h6 hb6 hs6)
            | (refine rows_list rfl (z := .agg chgZ) (by_ := 40) 59 73 _ _ rfl rfl HRO.out _ rfl HG6.out rfl (chgC_one _) Tryd.underlying59 rfl rfl (by decide) HOL.out (by decide) ?_; intro v7n w7 hr7 hg7; replace HXA := Lib.hid (HRO.out.keeps hg7 (by omega) HXA.out); replace HXB := Lib.hid (HRO.out.keeps hg7 (by omega) HXB.out); replace HTK := Lib.hid (HTK.out.trans (rows_tk HRO.out hg7 (by decide))); replace HB := Lib.hid (HB.out.trans (HRO.out.below hg7 (by omega) HB.out.size)); replace HRO := Lib.hid hr7; clear hr7 hg7))
          go_roundw
          case rel =>
            refine ⟨j + 1, q, _, by simp, HMG9, HCB, HXA, HXB, ?_, HTK, HB⟩
            show RowsOwn _ _ _ _ _ _
            rw [List.map_append]
            exact HRO.out
          case measure => have := HLT.out; simp [intOf]; omega
    · obtain rfl : j = N := by have := HMG.out.hi; have := HNM.out; omega
      have HCB2 := Lib.hid HCB.out
      obtain ⟨a8, c8, e8, _⟩ := HCB.out.shape
      rw [List.length_drop, keysE_len, ← HNM.out.2.1] at e8
      have HMG0 : Hid (Mg al A B A.length q out) := by show Mg _ _ _ _ _ _; rw [← HNM.out.1]; exact HMG.out
      have hqM : q ≤ M := by have := HMG.out.hq; have := HNM.out; omega
      have HQM := Lib.hid hqM
      obtain ⟨P, hP⟩ : ∃ P, P = M - q := ⟨_, rfl⟩
      have HPE := Lib.hid hP
      rw [← hP] at e8
      subst e8
      have hP4 : (P : Int) ≤ 40000 := by omega
      clear hP HMG hlt hqM
      go_wp2_with fail
      go_loopw [7, 70] (fun v7 i wl => ∃ (r : Nat) (out : List Chg), i = .int .i64 (r : Int) ∧ r ≤ P ∧ Hid (Mg al A B A.length (q + r) out) ∧ Hid (wl.heap[w.heap.size]? = some (.cells ca 36 (0, 0))) ∧ Hid (wl.heap[w.heap.size + 1]? = some (.cells cb 36 (0, 0))) ∧ Hid (RowsOwn (w.heap.size + 2) 73 5 v7 (out.map chgC) wl) ∧ Hid (TK 9 w9 wl) ∧ Hid (Below w.heap.size w wl)) (fun _ i _ => P - (intOf i).toNat)
      case atStart => exact ⟨0, out, rfl, Nat.zero_le _, HMG0, HXA, HXB, HRO, HTK, HB⟩
      case round =>
        clear HMG0 HXA HXB HRO HTK HB
        obtain ⟨r, out, rfl, hr, HMG, HXA, HXB, HRO, HTK, HB⟩ := hrel
        have HOL : Hid ((out.map chgC).length ≤ 100000) := by show _ ≤ _; rw [List.length_map]; have h1 := HMG.out.len HRI.out.2; have h2 := HNM.out; omega
        by_cases hrP : r < P
        · have hrP' : (r : Int) < P := by omega
          have hqB : q + r < B.length := by have := HNM.out; have := HPE.out; omega
          obtain ⟨g, o, c9, e9, _, hc9⟩ := (cutS_tk HCB2.out HTK.out).cell (j := r) (by rw [List.length_drop, keysE_len]; omega)
          rw [List.length_drop, keysE_len, ← HNM.out.2.1, ← HPE.out] at e9
          simp only [Value.slice.injEq] at e9
          obtain ⟨rfl, hdr, rfl⟩ := e9
          clear hdr
          have hbk : ((keysE B).drop q)[r]'(by rw [List.length_drop, keysE_len]; omega) = B[q + r].1 := by rw [List.getElem_drop]; simp [keysE]
          rw [hbk] at hc9
          have hsz := HSS.out.2 _ (List.getElem_mem hqB)
          obtain ⟨k, hk⟩ : ∃ k, k = B[q + r].1 := ⟨_, rfl⟩
          have HMG9 := Lib.hid (HMG.out.rest' hqB hk)
          rw [← hk] at hc9 hsz
          have HSK : Hid (k.size ≤ 9223372036854775800) := hsz
          have HRP := Lib.hid hrP
          clear hbk hk hsz hqB hrP
          go_wp2_with (first
            | (refine ld_if (by rfl) 36 _ rfl w.heap.size rfl 36 ca _ _ HXA.out Tryd.underlying36 rfl (by rw [HZA.out]; exact map_size) ?_)
            | (refine ld_if (by rfl) 36 _ rfl (w.heap.size + 1) rfl 36 cb _ _ HXB.out Tryd.underlying36 rfl (by rw [HZB.out]; exact map_size) ?_)
            | (go_at_call 64; (with_reducible refine (HCH.out _ HB.out k HSK.out).mono ?_); rintro r w3 ⟨rfl, hb⟩; replace HXA := Lib.hid ((hb.block _ (Array.getElem?_eq_some_iff.1 HXA.out).1).trans HXA.out); replace HXB := Lib.hid ((hb.block _ (Array.getElem?_eq_some_iff.1 HXB.out).1).trans HXB.out); replace HRO := Lib.hid (HRO.out.later hb); replace HTK := Lib.hid (HTK.out.trans (TK.below hb)); replace HB := Lib.hid (HB.out.trans (hb.mono HB.out.size)); clear hb)
            | (refine bs_list rfl 59 73 _ rfl (chgC (chgE A B k)) 5 (.agg chgZ) rfl rfl (by decide) (by decide) Tryd.underlying59 rfl ?_; intro w6 h6 hb6 hs6; replace HXA := Lib.hid ((hb6.block _ (Array.getElem?_eq_some_iff.1 HXA.out).1).trans HXA.out); replace HXB := Lib.hid ((hb6.block _ (Array.getElem?_eq_some_iff.1 HXB.out).1).trans HXB.out); replace HRO := Lib.hid (HRO.out.later hb6); replace HTK := Lib.hid (HTK.out.trans (TK.below hb6)); replace HB := Lib.hid (HB.out.trans (hb6.mono HB.out.size)); have HG6 := Lib.hid h6; have HS6 := Lib.hid hs6; clear h6 hb6 hs6)
            | (refine rows_list rfl (z := .agg chgZ) (by_ := 40) 59 73 _ _ rfl rfl HRO.out _ rfl HG6.out rfl (chgC_one _) Tryd.underlying59 rfl rfl (by decide) HOL.out (by decide) ?_; intro v7n w7 hr7 hg7; replace HXA := Lib.hid (HRO.out.keeps hg7 (by omega) HXA.out); replace HXB := Lib.hid (HRO.out.keeps hg7 (by omega) HXB.out); replace HTK := Lib.hid (HTK.out.trans (rows_tk HRO.out hg7 (by decide))); replace HB := Lib.hid (HB.out.trans (HRO.out.below hg7 (by omega) HB.out.size)); replace HRO := Lib.hid hr7; clear hr7 hg7))
          go_roundw
          case rel =>
            refine ⟨r + 1, _, by simp, by have := HRP.out; omega, HMG9, HXA, HXB, ?_, HTK, HB⟩
            show RowsOwn _ _ _ _ _ _
            rw [List.map_append]
            exact HRO.out
          case measure => have := HRP.out; simp [intOf]; omega
        · obtain rfl : r = P := by omega
          have he : out = difE al A B := (by have h := HMG.out; rw [show q + r = B.length by have := HNM.out; have := HPE.out; have := HQM.out; omega] at h; exact h : Mg al A B A.length B.length out).done
          subst he
          go_wp2_with fail
          try rw [Exit.noGoto_ret]
          go_ret
          exact ⟨_, rfl, HRO.out.low (by omega), HB.out⟩
end Go.Proofs.YtnnlfgfgfegjkaaDoor
