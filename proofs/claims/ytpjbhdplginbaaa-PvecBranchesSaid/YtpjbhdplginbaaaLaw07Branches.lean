/- Layer 7's law PvecBranches, over package pvec as it landed. (written by tools/gen07/branches7.py) -/
import Derived.Test.YtpjbhdplginbaaaLaw07Script
import Derived.Lib.MinMax
namespace Go.Proofs.Ytpjbhdplginbaaa
open Go.RowKit
set_option maxRecDepth 1000000
set_option linter.unusedSimpArgs false

theorem ld_row_wp {o : Oper} {a : Act} {w : World} {K : Act → World → Prop} {Q : Exit → Act → World → Prop} (ty : TypeId) (x : Operand) (ho : o.op = .load ty x)
    (X : Nat) (hx : a.eval x = .pointer (some ⟨X, 0, none⟩)) (T : TypeId) (c : Array Value) (fr : Nat × Nat) (d : TypeDesc) (hB : w.heap[X]? = some (.cells c T fr))
    (hu : Try.prog.underlying ty = some d) (hd : d.isRow = true) (hi : (Try.prog.info? ty).map (·.size) = some c.size)
    (h : K (a.put o.dst (.agg c)) w) : o.wp Try.prog a w K Q :=
  wp_load_row ty x ho X hx T c fr d hB hu (by cases d <;> simp_all [TypeDesc.isRow]) hi h
set_option maxHeartbeats 4000000 in
theorem pvecBranches_of (v va vb : Value) (l la lb : List Op7) (w : World) (hl : Ops7 w v l) (hla : Ops7 w va la) (hlb : Ops7 w vb lb) : Calls Try.prog 4 #[v, va, vb] w fun e w' => e = .returned (.bool true) ∧ Below w.heap.size w w' := by
  have HB := Lib.hid (Below.refl w.heap.size w)
  have HFEW := Lib.hid (fun W (h : Below w.heap.size w W) => few7 v l W (hl.later h))
  obtain ⟨ad, cap, bb, oo, rfl, h1, h2, _⟩ := hl
  have HLO := Lib.hid h1
  have HLC := Lib.hid h2
  clear h1 h2
  have HFEWa := Lib.hid (fun W (h : Below w.heap.size w W) => few7 va la W (hla.later h))
  obtain ⟨ada, capa, bba, ooa, rfl, h1, h2, _⟩ := hla
  have HLOa := Lib.hid h1
  have HLCa := Lib.hid h2
  clear h1 h2
  have HFEWb := Lib.hid (fun W (h : Below w.heap.size w W) => few7 vb lb W (hlb.later h))
  obtain ⟨adb, capb, bbb, oob, rfl, h1, h2, _⟩ := hlb
  have HLOb := Lib.hid h1
  have HLCb := Lib.hid h2
  clear h1 h2
  by_cases hf : fewB l = true
  case neg =>
    rw [show fewB l = false by simpa using hf] at HFEW
    clear hf
    go_enter Try.func4, Try.ntmps4
    go_wp2_with (first
      | (go_at_call 8; with_reducible refine (live7 _).mono ?_; rintro e w1 ⟨rfl, hb⟩; replace HB := Lib.hid (HB.out.trans (hb.mono HB.out.size)); clear hb)
      | (go_at_call 9; with_reducible refine (HFEW.out _ HB.out).mono ?_; rintro e w1 ⟨rfl, hb⟩; replace HB := Lib.hid (HB.out.trans (hb.mono HB.out.size)); clear hb))
    go_ret
    exact ⟨rfl, HB.out⟩
  by_cases hfa : fewB la = true
  case neg =>
    rw [hf] at HFEW
    rw [show fewB la = false by simpa using hfa] at HFEWa
    clear hf hfa
    go_enter Try.func4, Try.ntmps4
    go_wp2_with (first
      | (go_at_call 8; with_reducible refine (live7 _).mono ?_; rintro e w1 ⟨rfl, hb⟩; replace HB := Lib.hid (HB.out.trans (hb.mono HB.out.size)); clear hb)
      | (go_at_call 9; with_reducible refine (HFEW.out _ HB.out).mono ?_; rintro e w1 ⟨rfl, hb⟩; replace HB := Lib.hid (HB.out.trans (hb.mono HB.out.size)); clear hb)
      | (go_at_call 9; with_reducible refine (HFEWa.out _ HB.out).mono ?_; rintro e w1 ⟨rfl, hb⟩; replace HB := Lib.hid (HB.out.trans (hb.mono HB.out.size)); clear hb))
    go_ret
    exact ⟨rfl, HB.out⟩
  by_cases hfb : fewB lb = true
  case neg =>
    rw [hf] at HFEW
    rw [hfa] at HFEWa
    rw [show fewB lb = false by simpa using hfb] at HFEWb
    clear hf hfa hfb
    go_enter Try.func4, Try.ntmps4
    go_wp2_with (first
      | (go_at_call 8; with_reducible refine (live7 _).mono ?_; rintro e w1 ⟨rfl, hb⟩; replace HB := Lib.hid (HB.out.trans (hb.mono HB.out.size)); clear hb)
      | (go_at_call 9; with_reducible refine (HFEW.out _ HB.out).mono ?_; rintro e w1 ⟨rfl, hb⟩; replace HB := Lib.hid (HB.out.trans (hb.mono HB.out.size)); clear hb)
      | (go_at_call 9; with_reducible refine (HFEWa.out _ HB.out).mono ?_; rintro e w1 ⟨rfl, hb⟩; replace HB := Lib.hid (HB.out.trans (hb.mono HB.out.size)); clear hb)
      | (go_at_call 9; with_reducible refine (HFEWb.out _ HB.out).mono ?_; rintro e w1 ⟨rfl, hb⟩; replace HB := Lib.hid (HB.out.trans (hb.mono HB.out.size)); clear hb))
    go_ret
    exact ⟨rfl, HB.out⟩
  have HF := Lib.hid hf
  have HFa := Lib.hid hfa
  have HFb := Lib.hid hfb
  rw [hf] at HFEW
  rw [hfa] at HFEWa
  rw [hfb] at HFEWb
  have hm63 : (l.length : Int) ≤ 40 := by have := (few_ops hf).2.2; omega
  have hm63a : (la.length : Int) ≤ 40 := by have := (few_ops hfa).2.2; omega
  have hm63b : (lb.length : Int) ≤ 40 := by have := (few_ops hfb).2.2; omega
  clear hf hfa hfb
  go_enter Try.func4, Try.ntmps4
  go_upto_region 5 with (first
    | (go_at_call 8; with_reducible refine (live7 _).mono ?_; rintro e w1 ⟨rfl, hb⟩; replace HB := Lib.hid (HB.out.trans (hb.mono HB.out.size)); clear hb)
    | (go_at_call 9; with_reducible refine (HFEW.out _ HB.out).mono ?_; rintro e w1 ⟨rfl, hb⟩; replace HB := Lib.hid (HB.out.trans (hb.mono HB.out.size)); clear hb)
    | (go_at_call 9; with_reducible refine (HFEWa.out _ HB.out).mono ?_; rintro e w1 ⟨rfl, hb⟩; replace HB := Lib.hid (HB.out.trans (hb.mono HB.out.size)); clear hb)
    | (go_at_call 9; with_reducible refine (HFEWb.out _ HB.out).mono ?_; rintro e w1 ⟨rfl, hb⟩; replace HB := Lib.hid (HB.out.trans (hb.mono HB.out.size)); clear hb))
  obtain ⟨W, hW⟩ : ∃ W, (w1.alloc (.cells #[.int .i64 0, .slice none 0 0, .slice none 0 0, .slice none 0 0] 30)).alloc (.cells #[] 3) = W := ⟨_, rfl⟩
  rw [hW]
  obtain ⟨hb, hx, _, _⟩ := pair_new hW
  have HL0 := Lib.hid (lst_none2 hW)
  have HX0 := Lib.hid hx
  have HB0 := Lib.hid (HB.out.trans (hb.mono HB.out.size))
  have HXB : Hid (w.heap.size ≤ w1.heap.size) := HB.out.size
  obtain ⟨X, hX⟩ : ∃ X, X = w1.heap.size := ⟨_, rfl⟩
  rw [← hX] at HL0 HX0 HXB ⊢
  clear hb hx hW hX HB HFEW HFEWa HFEWb
  go_wp2_with fail
  go_loopw [8, 37] (fun lv iv wl => ∃ (n : Nat) (c : Array Value), n ≤ l.length ∧ iv = .int .i64 (n : Int) ∧ wl.heap[X]? = some (.cells c 30 (0, 0)) ∧ VL wl c (aft [] l n) ∧ Lst (fun _ => True) wl lv (aft [] l n) ∧ Below w.heap.size w wl) (fun _ iv _ => l.length - (intOf iv).toNat)
  case atStart => exact ⟨0, _, Nat.zero_le _, rfl, HX0.out, VL.zero _, HL0.out, HB0.out⟩
  case round =>
    clear HX0 HL0 HB0
    obtain ⟨n, c, hn, rfl, hx, hc, hll, hb⟩ := hrel
    have HX := Lib.hid hx
    have HC := Lib.hid hc
    have HB := Lib.hid hb
    have HSZc := Lib.hid (VL.size hc)
    have HONEc := Lib.hid (VL.one hc)
    obtain ⟨L, hL⟩ : ∃ L, L = aft [] l n := ⟨_, rfl⟩
    rw [← hL] at HC hll
    have HLL := Lib.hid hL
    obtain ⟨a, cp0, rfl, _⟩ := hll.shape
    have HLST := Lib.hid hll
    clear hx hc hb hL hll
    by_cases hlt : n < l.length
    · have hlt' : (n : Int) < (l.length : Int) := by omega
      have i0 : (0 : Int) ≤ (n : Int) := by omega
      have had : ad = some ⟨bb, oo, none⟩ := HLO.out (by omega)
      subst had
      have HR := Lib.hid ((HLC.out n hlt).later HB.out)
      have h15 := (few_ops HF.out).1 _ (List.getElem_mem hlt)
      have hAS := aft_succ [] l hlt
      obtain ⟨x, hx⟩ : ∃ x, x = l[n] := ⟨_, rfl⟩
      rw [← hx] at HR h15 hAS
      rw [← HLL.out] at hAS
      have hbn := Below.newly' wr (.cells (op7C x) 34)
      have HAS := Lib.hid hAS
      have hd : Done c (.slice a L.length cp0) L x (wr.alloc (.cells (op7C x) 34)) := does7 c _ _ x _ (VL.later HC.out hbn) (HLST.out.later hbn) h15 (by have := aft_few [] HF.out n; rw [HLL.out]; simp at this; omega)
      have HD := Lib.hid (show Calls Try.prog 10 #[.agg c, .slice a L.length cp0, .agg (op7C x)] _ _ from hd)
      have HX5 := Lib.hid ((hbn.block _ (Array.getElem?_eq_some_iff.1 HX.out).1).trans HX.out)
      have HP5 := Lib.hid (heap_alloc_last wr (.cells (op7C x) 34))
      have HB5 := Lib.hid (HB.out.trans (hbn.mono HB.out.size))
      clear hx hd hbn h15 hlt hAS
      go_wp2_with (first
        | (refine ld_op7 rfl _ rfl bb (oo + n * 4) rfl x HR.out ?_)
        | (refine ld_if rfl 30 _ rfl X rfl 30 _ _ _ HX5.out Try.underlying30 rfl (by rw [HSZc.out]; exact vec_size) ?_)
        | (refine ld_if rfl 34 _ rfl wr.heap.size rfl 34 _ _ _ HP5.out Try.underlying34 rfl op7_info ?_)
        | (go_at_call 10; with_reducible refine HD.out.mono ?_; rintro e w7 ⟨c7, v7, rfl, hv7, hl7, hb⟩; have HX7 := Lib.hid ((hb.block _ (Array.getElem?_eq_some_iff.1 HX5.out).1).trans HX5.out); have HB7 := Lib.hid (HB5.out.trans (hb.mono HB5.out.size)); have HV7 := Lib.hid hv7; have HL7 := Lib.hid hl7; clear hb hv7 hl7)
        | (refine st_agg rfl 30 _ _ rfl X c7 rfl rfl 30 c HX7.out (by rw [VL.size HV7.out]; exact vec_size) (by rw [VL.size HV7.out, HSZc.out]) (VL.one HV7.out) ?_; intro w8 h8 k8))
      go_roundw
      case rel => exact ⟨n + 1, c7, by omega, by go_num, h8, by rw [HAS.out]; exact VL.but HV7.out k8 HX7.out (by decide) (by decide), by rw [HAS.out]; exact HL7.out.but k8 HX7.out (by decide), HB7.out.trans (k8.below HXB.out)⟩
      case measure => simp [intOf]; omega
    · obtain rfl : n = l.length := by omega
      have HL5 : Hid (L.length ≤ 5000) := by have := aft_few [] HF.out l.length; rw [← HLL.out] at this; show _ ≤ _; simp at this; omega
      clear HF HLO HLC hn hlt HLL
      have HXW : Hid (X < wr.heap.size) := (Array.getElem?_eq_some_iff.1 HX.out).1
      go_upto_region 10 with fail
      go_cut [11, 12] from 50 to 51 (fun p q wx => ∃ P Q : Nat, p = .pointer (some ⟨P, 0, none⟩) ∧ q = .pointer (some ⟨Q, 0, none⟩) ∧ ¬ P = Q ∧ wr.heap.size ≤ P ∧ wr.heap.size ≤ Q ∧ wx.heap[P]? = some (.cells c 30 (0, 0)) ∧ wx.heap[Q]? = some (.cells c 30 (0, 0)) ∧ Below wr.heap.size wr wx)
      case first =>
        as_aux_lemma =>
        have HX0 : Hid (wr.drew.heap[X]? = some (.cells c 30 (0, 0))) := HX.out
        have hlt : X < wr.heap.size := (Array.getElem?_eq_some_iff.1 HX0.out).1
        refine wp_region_T (S := fun W => W.heap[X]? = some (.cells c 30 (0, 0))) [5] (by kernel_rfl) (by first | exact HX0.out | exact HX1.out | exact HX2.out | exact HX3.out) (fun hHeld => ?_)
        refine wpAnyT_take (i := 0) (oi := ⟨some 50, _, _, _, _, _⟩) (v := _) rfl (by kernel_rfl) (by kernel_rfl) (by kernel_rfl) (by kernel_rfl) (fun _ _ _ h => h) (yieldsIf_load_row (by rfl) 30 _ rfl X rfl c 30 (0, 0) _ (fun w hw => hw) Try.underlying30 rfl (by rw [HSZc.out]; exact vec_size)) (by assumption) ?_
        (try simp only [Act.put, List.setIfInBounds_toArray, List.set_cons_zero, List.set_cons_succ])
        refine wpAnyT_take (i := 1) (oi := ⟨some 51, _, _, _, _, _⟩) (v := _) rfl (by kernel_rfl) (by kernel_rfl) (by kernel_rfl) (by kernel_rfl) (fun _ _ _ h => h) (yieldsIf_load_row (by rfl) 30 _ rfl X rfl c 30 (0, 0) _ (fun w hw => hw) Try.underlying30 rfl (by rw [HSZc.out]; exact vec_size)) (by assumption) ?_
        (try simp only [Act.put, List.setIfInBounds_toArray, List.set_cons_zero, List.set_cons_succ])
        refine wpAnyT_ready (rs := [2, 3]) (by kernel_rfl) (by simp) ?_
        refine AllT.cons (i := 2) (o := ⟨some 11, _, _, _, _, _⟩) rfl (fun K hK => ?_) (AllT.cons (i := 3) (o := ⟨some 12, _, _, _, _, _⟩) rfl (fun K hK => ?_) AllT.nil)
        · go_simp
          obtain ⟨w1, hw1⟩ : ∃ w1, (wr.alloc (.cells #[.int .i64 0, .slice none 0 0, .slice none 0 0, .slice none 0 0] 30)).drew = w1 := ⟨_, rfl⟩
          rw [hw1]
          have HA1 : Hid (w1.heap[wr.heap.size]? = some (.cells #[.int .i64 0, .slice none 0 0, .slice none 0 0, .slice none 0 0] 30 (0, 0))) := by show _ = _; rw [← hw1]; exact heap_alloc_last wr _
          have hb1 : Below wr.heap.size wr w1 := by rw [← hw1]; exact Below.drewMany ((Below.refl _ wr).alloc (Nat.le_refl _) _) 1
          have hs1 : w1.heap.size = wr.heap.size + 1 := by rw [← hw1]; show (wr.alloc _).heap.size = _; simp
          have HX1 : Hid (w1.heap[X]? = some (.cells c 30 (0, 0))) := (hb1.block _ hlt).trans HX0.out
          clear hw1
          refine hK.out _ _ (by first | exact HX0.out | exact HX1.out | exact HX2.out | exact HX3.out) (fun hHeld => ?_)
          clear hK K
          (try simp only [Act.put, List.setIfInBounds_toArray, List.set_cons_zero, List.set_cons_succ])
          refine wpAnyT_one (i := 3) (o := ⟨some 12, _, _, _, _, _⟩) (by kernel_rfl) rfl (fun K hK => ?_)
          go_simp
          obtain ⟨w2, hw2⟩ : ∃ w2, w1.alloc (.cells #[.int .i64 0, .slice none 0 0, .slice none 0 0, .slice none 0 0] 30) = w2 := ⟨_, rfl⟩
          rw [hw2]
          (try rw [hs1])
          have HB2 : Hid (w2.heap[wr.heap.size + 1]? = some (.cells #[.int .i64 0, .slice none 0 0, .slice none 0 0, .slice none 0 0] 30 (0, 0))) := by show _ = _; rw [← hw2, ← hs1]; exact heap_alloc_last w1 _
          have hb2 : Below w1.heap.size w1 w2 := by rw [← hw2]; exact Below.newly' _ _
          have HA2 : Hid (w2.heap[wr.heap.size]? = some (.cells #[.int .i64 0, .slice none 0 0, .slice none 0 0, .slice none 0 0] 30 (0, 0))) := (hb2.block _ (by omega)).trans HA1.out
          have HX2 : Hid (w2.heap[X]? = some (.cells c 30 (0, 0))) := (hb2.block _ (by omega)).trans HX1.out
          have hb : Below wr.heap.size wr w2 := hb1.trans (hb2.mono (by omega))
          clear hw2 hb1 hb2
          refine hK.out _ _ (by first | exact HX0.out | exact HX1.out | exact HX2.out | exact HX3.out) (fun hHeld => ?_)
          clear hK K
          (try simp only [Act.put, List.setIfInBounds_toArray, List.set_cons_zero, List.set_cons_succ])
          refine wpAnyT_one (i := 4) (o := ⟨none, _, _, _, _, _⟩) (by kernel_rfl) rfl (fun K hK => ?_)
          rw [if_pos (by rfl)]
          refine st_agg_wp 30 _ _ rfl wr.heap.size c rfl rfl 30 #[.int .i64 0, .slice none 0 0, .slice none 0 0, .slice none 0 0] HA2.out (by rw [HSZc.out]; exact vec_size) (by rw [HSZc.out]; rfl) HONEc.out ?_
          intro w3 h3 k3
          have HP3 := Lib.hid h3
          have HO3 := Lib.hid (k3.other HB2.out (by omega))
          have HX3 := Lib.hid (k3.other HX2.out (by omega))
          have hb3 := hb.trans (k3.below (by omega))
          clear h3 k3 hb
          refine hK.out _ _ (by first | exact HX0.out | exact HX1.out | exact HX2.out | exact HX3.out) (fun hHeld => ?_)
          clear hK K
          (try simp only [Act.put, List.setIfInBounds_toArray, List.set_cons_zero, List.set_cons_succ])
          refine wpAnyT_last (i := 5) (o := ⟨none, _, _, _, _, _⟩) (by kernel_rfl) (by decide) rfl (fun K hK => ?_)
          rw [if_pos (by rfl)]
          refine st_agg_wp 30 _ _ rfl (wr.heap.size + 1) c rfl rfl 30 #[.int .i64 0, .slice none 0 0, .slice none 0 0, .slice none 0 0] HO3.out (by rw [HSZc.out]; exact vec_size) (by rw [HSZc.out]; rfl) HONEc.out ?_
          intro w4 h4 k4
          have HQ4 := Lib.hid h4
          have HP4 := Lib.hid (k4.other HP3.out (by omega))
          have hb4 := hb3.trans (k4.below (by omega))
          clear h4 k4 hb3
          refine hK.out _ _ ?_
          clear hK K
          (try simp only [Act.put, List.setIfInBounds_toArray, List.set_cons_zero, List.set_cons_succ])
          refine wpAnyT_done (by kernel_rfl) ?_ _
          go_wp2_with fail
          go_meet
          case rel => exact ⟨wr.heap.size, (wr.heap.size + 1), rfl, rfl, by omega, by omega, by omega, HP4.out, HQ4.out, hb4⟩
        · go_simp
          obtain ⟨w1, hw1⟩ : ∃ w1, (wr.alloc (.cells #[.int .i64 0, .slice none 0 0, .slice none 0 0, .slice none 0 0] 30)).drew = w1 := ⟨_, rfl⟩
          rw [hw1]
          have HA1 : Hid (w1.heap[wr.heap.size]? = some (.cells #[.int .i64 0, .slice none 0 0, .slice none 0 0, .slice none 0 0] 30 (0, 0))) := by show _ = _; rw [← hw1]; exact heap_alloc_last wr _
          have hb1 : Below wr.heap.size wr w1 := by rw [← hw1]; exact Below.drewMany ((Below.refl _ wr).alloc (Nat.le_refl _) _) 1
          have hs1 : w1.heap.size = wr.heap.size + 1 := by rw [← hw1]; show (wr.alloc _).heap.size = _; simp
          have HX1 : Hid (w1.heap[X]? = some (.cells c 30 (0, 0))) := (hb1.block _ hlt).trans HX0.out
          clear hw1
          refine hK.out _ _ (by first | exact HX0.out | exact HX1.out | exact HX2.out | exact HX3.out) (fun hHeld => ?_)
          clear hK K
          (try simp only [Act.put, List.setIfInBounds_toArray, List.set_cons_zero, List.set_cons_succ])
          refine wpAnyT_one (i := 2) (o := ⟨some 11, _, _, _, _, _⟩) (by kernel_rfl) rfl (fun K hK => ?_)
          go_simp
          obtain ⟨w2, hw2⟩ : ∃ w2, w1.alloc (.cells #[.int .i64 0, .slice none 0 0, .slice none 0 0, .slice none 0 0] 30) = w2 := ⟨_, rfl⟩
          rw [hw2]
          (try rw [hs1])
          have HB2 : Hid (w2.heap[wr.heap.size + 1]? = some (.cells #[.int .i64 0, .slice none 0 0, .slice none 0 0, .slice none 0 0] 30 (0, 0))) := by show _ = _; rw [← hw2, ← hs1]; exact heap_alloc_last w1 _
          have hb2 : Below w1.heap.size w1 w2 := by rw [← hw2]; exact Below.newly' _ _
          have HA2 : Hid (w2.heap[wr.heap.size]? = some (.cells #[.int .i64 0, .slice none 0 0, .slice none 0 0, .slice none 0 0] 30 (0, 0))) := (hb2.block _ (by omega)).trans HA1.out
          have HX2 : Hid (w2.heap[X]? = some (.cells c 30 (0, 0))) := (hb2.block _ (by omega)).trans HX1.out
          have hb : Below wr.heap.size wr w2 := hb1.trans (hb2.mono (by omega))
          clear hw2 hb1 hb2
          refine hK.out _ _ (by first | exact HX0.out | exact HX1.out | exact HX2.out | exact HX3.out) (fun hHeld => ?_)
          clear hK K
          (try simp only [Act.put, List.setIfInBounds_toArray, List.set_cons_zero, List.set_cons_succ])
          refine wpAnyT_one (i := 4) (o := ⟨none, _, _, _, _, _⟩) (by kernel_rfl) rfl (fun K hK => ?_)
          rw [if_pos (by rfl)]
          refine st_agg_wp 30 _ _ rfl (wr.heap.size + 1) c rfl rfl 30 #[.int .i64 0, .slice none 0 0, .slice none 0 0, .slice none 0 0] HB2.out (by rw [HSZc.out]; exact vec_size) (by rw [HSZc.out]; rfl) HONEc.out ?_
          intro w3 h3 k3
          have HP3 := Lib.hid h3
          have HO3 := Lib.hid (k3.other HA2.out (by omega))
          have HX3 := Lib.hid (k3.other HX2.out (by omega))
          have hb3 := hb.trans (k3.below (by omega))
          clear h3 k3 hb
          refine hK.out _ _ (by first | exact HX0.out | exact HX1.out | exact HX2.out | exact HX3.out) (fun hHeld => ?_)
          clear hK K
          (try simp only [Act.put, List.setIfInBounds_toArray, List.set_cons_zero, List.set_cons_succ])
          refine wpAnyT_last (i := 5) (o := ⟨none, _, _, _, _, _⟩) (by kernel_rfl) (by decide) rfl (fun K hK => ?_)
          rw [if_pos (by rfl)]
          refine st_agg_wp 30 _ _ rfl wr.heap.size c rfl rfl 30 #[.int .i64 0, .slice none 0 0, .slice none 0 0, .slice none 0 0] HO3.out (by rw [HSZc.out]; exact vec_size) (by rw [HSZc.out]; rfl) HONEc.out ?_
          intro w4 h4 k4
          have HQ4 := Lib.hid h4
          have HP4 := Lib.hid (k4.other HP3.out (by omega))
          have hb4 := hb3.trans (k4.below (by omega))
          clear h4 k4 hb3
          refine hK.out _ _ ?_
          clear hK K
          (try simp only [Act.put, List.setIfInBounds_toArray, List.set_cons_zero, List.set_cons_succ])
          refine wpAnyT_done (by kernel_rfl) ?_ _
          go_wp2_with fail
          go_meet
          case rel => exact ⟨(wr.heap.size + 1), wr.heap.size, rfl, rfl, by omega, by omega, by omega, HP4.out, HQ4.out, hb4⟩
      case rest =>
        obtain ⟨P, Q, rfl, rfl, hPQ, hP, hQ, hp, hq, hb⟩ := hcut
        have HNE : Hid (w.heap.size ≤ X ∧ X < P ∧ X < Q ∧ ¬ P = Q) := ⟨HXB.out, by have := HXW.out; omega, by have := HXW.out; omega, hPQ⟩
        have HP0 := Lib.hid hp
        have HQ0 := Lib.hid hq
        replace HX := Lib.hid ((hb.block _ (Array.getElem?_eq_some_iff.1 HX.out).1).trans HX.out)
        replace HC := Lib.hid (VL.later HC.out hb)
        replace HLST := Lib.hid (HLST.out.later hb)
        replace HB := Lib.hid (HB.out.trans (hb.mono HB.out.size))
        clear hb hp hq hP hQ hPQ HXW HXB
        obtain ⟨M, hmax, hMa, hMb, hMc⟩ : ∃ M : Nat, max (la.length : Int) (lb.length : Int) = (M : Int) ∧ la.length ≤ M ∧ lb.length ≤ M ∧ M ≤ 40 := ⟨max la.length lb.length, by omega, by omega, by omega, by omega⟩
        have HMA := Lib.hid hMa
        have HMB := Lib.hid hMb
        clear hMa hMb
        go_wp2_with fail
        clear hmax
        go_loopw [13, 14, 59] (fun pv qv iv wl => ∃ (n : Nat) (cp cq : Array Value), n ≤ M ∧ iv = .int .i64 (n : Int) ∧ wl.heap[P]? = some (.cells cp 30 (0, 0)) ∧ wl.heap[Q]? = some (.cells cq 30 (0, 0)) ∧ wl.heap[X]? = some (.cells c 30 (0, 0)) ∧ VL wl cp (aft L la n) ∧ VL wl cq (aft L lb n) ∧ VL wl c L ∧ Lst (fun _ => True) wl pv (aft L la n) ∧ Lst (fun _ => True) wl qv (aft L lb n) ∧ Lst (fun _ => True) wl (.slice a L.length cp0) L ∧ Below w.heap.size w wl) (fun _ _ iv _ => M - (intOf iv).toNat)
        case atStart => exact ⟨0, _, _, Nat.zero_le _, rfl, HP0.out, HQ0.out, HX.out, HC.out, HC.out, HC.out, HLST.out, HLST.out, HLST.out, HB.out⟩
        case round =>
          clear HP0 HQ0 HX HC HLST HB
          obtain ⟨n, cp, cq, hn, rfl, hp, hq, hx, hva, hvb, hvc, hpa, hpb, hpc, hb⟩ := hrel
          obtain ⟨A, hA⟩ : ∃ A, A = aft L la n := ⟨_, rfl⟩
          obtain ⟨B, hB⟩ : ∃ B, B = aft L lb n := ⟨_, rfl⟩
          rw [← hA] at hva hpa
          rw [← hB] at hvb hpb
          have HAA := Lib.hid hA
          have HBB := Lib.hid hB
          obtain ⟨sa, ka, rfl, _⟩ := hpa.shape
          obtain ⟨sb, kb, rfl, _⟩ := hpb.shape
          have HP := Lib.hid hp
          have HQ := Lib.hid hq
          have HX := Lib.hid hx
          have VA := Lib.hid hva
          have VB := Lib.hid hvb
          have VC := Lib.hid hvc
          have LA := Lib.hid hpa
          have LB := Lib.hid hpb
          have LC := Lib.hid hpc
          have HB := Lib.hid hb
          clear hp hq hx hva hvb hvc hpa hpb hpc hb hA hB
          by_cases hM : n < M
          case neg =>
            as_aux_lemma =>
            obtain rfl : n = M := by omega
            have HSA := Lib.hid (VL.size VA.out)
            have HSB := Lib.hid (VL.size VB.out)
            go_wp2_with (first
              | (refine ld_if (by rfl) 30 _ rfl P rfl 30 _ _ _ HP.out Try.underlying30 rfl (by rw [HSA.out]; exact vec_size) ?_)
              | (refine ld_if (by rfl) 30 _ rfl Q rfl 30 _ _ _ HQ.out Try.underlying30 rfl (by rw [HSB.out]; exact vec_size) ?_)
              | (refine ld_if (by rfl) 30 _ rfl X rfl 30 _ _ _ HX.out Try.underlying30 rfl (by rw [HSZc.out]; exact vec_size) ?_)
              | (go_at_call 13; with_reducible refine (same7 cp _ A _ VA.out LA.out).mono ?_; rintro e w1 ⟨rfl, hb⟩; replace HP := Lib.hid ((hb.block _ (Array.getElem?_eq_some_iff.1 HP.out).1).trans HP.out); replace HQ := Lib.hid ((hb.block _ (Array.getElem?_eq_some_iff.1 HQ.out).1).trans HQ.out); replace HX := Lib.hid ((hb.block _ (Array.getElem?_eq_some_iff.1 HX.out).1).trans HX.out); replace VA := Lib.hid (VL.later VA.out hb); replace VB := Lib.hid (VL.later VB.out hb); replace VC := Lib.hid (VL.later VC.out hb); replace LA := Lib.hid (LA.out.later hb); replace LB := Lib.hid (LB.out.later hb); replace LC := Lib.hid (LC.out.later hb); replace HB := Lib.hid (HB.out.trans (hb.mono HB.out.size)); clear hb)
              | (go_at_call 13; with_reducible refine (same7 cq _ B _ VB.out LB.out).mono ?_; rintro e w1 ⟨rfl, hb⟩; replace HP := Lib.hid ((hb.block _ (Array.getElem?_eq_some_iff.1 HP.out).1).trans HP.out); replace HQ := Lib.hid ((hb.block _ (Array.getElem?_eq_some_iff.1 HQ.out).1).trans HQ.out); replace HX := Lib.hid ((hb.block _ (Array.getElem?_eq_some_iff.1 HX.out).1).trans HX.out); replace VA := Lib.hid (VL.later VA.out hb); replace VB := Lib.hid (VL.later VB.out hb); replace VC := Lib.hid (VL.later VC.out hb); replace LA := Lib.hid (LA.out.later hb); replace LB := Lib.hid (LB.out.later hb); replace LC := Lib.hid (LC.out.later hb); replace HB := Lib.hid (HB.out.trans (hb.mono HB.out.size)); clear hb)
              | (go_at_call 13; with_reducible refine (same7 c _ L _ VC.out LC.out).mono ?_; rintro e w1 ⟨rfl, hb⟩; replace HP := Lib.hid ((hb.block _ (Array.getElem?_eq_some_iff.1 HP.out).1).trans HP.out); replace HQ := Lib.hid ((hb.block _ (Array.getElem?_eq_some_iff.1 HQ.out).1).trans HQ.out); replace HX := Lib.hid ((hb.block _ (Array.getElem?_eq_some_iff.1 HX.out).1).trans HX.out); replace VA := Lib.hid (VL.later VA.out hb); replace VB := Lib.hid (VL.later VB.out hb); replace VC := Lib.hid (VL.later VC.out hb); replace LA := Lib.hid (LA.out.later hb); replace LB := Lib.hid (LB.out.later hb); replace LC := Lib.hid (LC.out.later hb); replace HB := Lib.hid (HB.out.trans (hb.mono HB.out.size)); clear hb))
            go_ret
            exact ⟨rfl, HB.out⟩
          have i0 : (0 : Int) ≤ (n : Int) := by omega
          have hM' : (n : Int) < (M : Int) := by omega
          by_cases hlta : n < la.length
          · have ta : (n : Int) < (la.length : Int) := by omega
            by_cases hltb : n < lb.length
            · as_aux_lemma =>
              have tb : (n : Int) < (lb.length : Int) := by omega
              have had : ada = some ⟨bba, ooa, none⟩ := HLOa.out (by omega)
              subst had
              have h15 := (few_ops HFa.out).1 _ (List.getElem_mem hlta)
              have hAS := aft_succ L la hlta
              have hR := HLCa.out n hlta
              obtain ⟨x, hx⟩ : ∃ x, x = la[n] := ⟨_, rfl⟩
              rw [← hx] at hR h15 hAS
              rw [← HAA.out] at hAS
              have HAS := Lib.hid hAS
              have HR := Lib.hid hR
              clear hx hR hAS
              go_upto_region 16 with fail
              have hb := drawn_below wr
              replace HP := Lib.hid ((hb.block _ (Array.getElem?_eq_some_iff.1 HP.out).1).trans HP.out)
              replace HQ := Lib.hid ((hb.block _ (Array.getElem?_eq_some_iff.1 HQ.out).1).trans HQ.out)
              replace HX := Lib.hid ((hb.block _ (Array.getElem?_eq_some_iff.1 HX.out).1).trans HX.out)
              replace VA := Lib.hid (VL.later VA.out hb)
              replace VB := Lib.hid (VL.later VB.out hb)
              replace VC := Lib.hid (VL.later VC.out hb)
              replace LA := Lib.hid (LA.out.later hb)
              replace LB := Lib.hid (LB.out.later hb)
              replace LC := Lib.hid (LC.out.later hb)
              replace HB := Lib.hid (HB.out.trans (hb.mono HB.out.size))
              clear hb
              have hd : Done cp (.slice sa A.length ka) A x wr.drew := does7 cp _ _ x _ VA.out LA.out h15 (by have := aft_few L HFa.out n; rw [← HAA.out] at this; have := HL5.out; omega)
              have HD := Lib.hid (show Calls Try.prog 10 #[.agg cp, .slice sa A.length ka, .agg (op7C x)] _ _ from hd)
              have HSZ := Lib.hid (VL.size VA.out)
              have HRR := Lib.hid (fun W (h : Below w.heap.size w W) => HR.out.later h)
              clear hd h15
              refine wp_region_T (S := fun V => Op7In V bba (ooa + n * 4) x) [] (by kernel_rfl) (by exact HRR.out _ HB.out) (fun hHeld => ?_)
              refine wpAnyT_take (i := 1) (oi := ⟨some 68, _, _, _, _, _⟩) (v := ?vg4_1) rfl (by kernel_rfl) (by kernel_rfl) (by kernel_rfl) (by kernel_rfl) (fun _ _ _ h => h) (Or.inl ⟨by rfl, ?hg4_1⟩) (by assumption) ?rg4_1
              case hg4_1 => (intro w hSw; (try dsimp only at hSw); first | (go_simp; done) | (go_simp; with_reducible rfl))
              (try simp only [Act.put, List.setIfInBounds_toArray, List.set_cons_zero, List.set_cons_succ])
              refine wpAnyT_take (i := 2) (oi := ⟨some 69, _, _, _, _, _⟩) (v := ?vg4_2) rfl (by kernel_rfl) (by kernel_rfl) (by kernel_rfl) (by kernel_rfl) (fun _ _ _ h => h) (Or.inl ⟨by rfl, ?hg4_2⟩) (by assumption) ?rg4_2
              case hg4_2 => (intro w hSw; (try dsimp only at hSw); first | (go_simp; done) | (go_simp; with_reducible rfl))
              (try simp only [Act.put, List.setIfInBounds_toArray, List.set_cons_zero, List.set_cons_succ])
              refine wpAnyT_take (i := 3) (oi := ⟨some 70, _, _, _, _, _⟩) (v := ?vg4_3) rfl (by kernel_rfl) (by kernel_rfl) (by kernel_rfl) (by kernel_rfl) (fun _ _ _ h => h) (Or.inl ⟨by rfl, ?hg4_3⟩) (by assumption) ?rg4_3
              case hg4_3 => (intro w hSw; (try dsimp only at hSw); first | (go_simp; done) | (go_simp; with_reducible rfl))
              (try simp only [Act.put, List.setIfInBounds_toArray, List.set_cons_zero, List.set_cons_succ])
              refine wpAnyT_take (i := 4) (oi := ⟨some 71, _, _, _, _, _⟩) (v := ?vg4_4) rfl (by kernel_rfl) (by kernel_rfl) (by kernel_rfl) (by kernel_rfl) (fun _ _ _ h => h) (Or.inl ⟨by rfl, ?hg4_4⟩) (by assumption) ?rg4_4
              case hg4_4 => (intro w hSw; (try dsimp only at hSw); first | (go_simp; done) | (go_simp; with_reducible rfl))
              (try simp only [Act.put, List.setIfInBounds_toArray, List.set_cons_zero, List.set_cons_succ])
              refine wpAnyT_take (i := 5) (oi := ⟨some 72, _, _, _, _, _⟩) (v := _) rfl (by kernel_rfl) (by kernel_rfl) (by kernel_rfl) (by kernel_rfl) (fun _ _ _ h => h) (yieldsIf_op7 (by rfl) _ rfl bba (ooa + n * 4) rfl x (fun w hw => hw)) (by assumption) ?_
              (try simp only [Act.put, List.setIfInBounds_toArray, List.set_cons_zero, List.set_cons_succ])
              refine wpAnyT_one (i := 0) (o := ⟨some 67, _, _, _, _, _⟩) (by kernel_rfl) rfl (fun K hK => ?_)
              rw [if_pos (by rfl)]
              refine ld_row_wp 30 _ rfl P rfl 30 cp (0, 0) _ HP.out Try.underlying30 rfl (by rw [HSZ.out]; exact vec_size) ?_
              refine hK.out _ _ (by exact HRR.out _ HB.out) (fun hHeld => ?_)
              clear hK K
              (try simp only [Act.put, List.setIfInBounds_toArray, List.set_cons_zero, List.set_cons_succ])
              refine wpAnyT_one (i := 6) (o := ⟨some 73, _, _, _, _, _⟩) (by kernel_rfl) rfl (fun K hK => ?_)
              go_simp
              go_at_call 10
              with_reducible refine HD.out.mono ?_
              rintro e w7 ⟨c7, v7, rfl, hv7, hl7, hb⟩
              replace HP := Lib.hid ((hb.block _ (Array.getElem?_eq_some_iff.1 HP.out).1).trans HP.out)
              replace HQ := Lib.hid ((hb.block _ (Array.getElem?_eq_some_iff.1 HQ.out).1).trans HQ.out)
              replace HX := Lib.hid ((hb.block _ (Array.getElem?_eq_some_iff.1 HX.out).1).trans HX.out)
              replace VA := Lib.hid (VL.later VA.out hb)
              replace VB := Lib.hid (VL.later VB.out hb)
              replace VC := Lib.hid (VL.later VC.out hb)
              replace LA := Lib.hid (LA.out.later hb)
              replace LB := Lib.hid (LB.out.later hb)
              replace LC := Lib.hid (LC.out.later hb)
              replace HB := Lib.hid (HB.out.trans (hb.mono HB.out.size))
              clear hb
              have HV7 := Lib.hid hv7
              have HL7 := Lib.hid hl7
              clear hv7 hl7
              dsimp only
              refine hK.out _ _ (by exact HRR.out _ HB.out) (fun hHeld => ?_)
              clear hK K
              (try simp only [Act.put, List.setIfInBounds_toArray, List.set_cons_zero, List.set_cons_succ])
              refine wpAnyT_take (i := 7) (oi := ⟨some 66, _, _, _, _, _⟩) (v := ?vg4_7) rfl (by kernel_rfl) (by kernel_rfl) (by kernel_rfl) (by kernel_rfl) (fun _ _ _ h => h) (Or.inl ⟨by rfl, ?hg4_7⟩) (by assumption) ?rg4_7
              case hg4_7 => (intro w hSw; (try dsimp only at hSw); first | (go_simp; done) | (go_simp; with_reducible rfl))
              (try simp only [Act.put, List.setIfInBounds_toArray, List.set_cons_zero, List.set_cons_succ])
              refine wpAnyT_take (i := 8) (oi := ⟨some 74, _, _, _, _, _⟩) (v := ?vg4_8) rfl (by kernel_rfl) (by kernel_rfl) (by kernel_rfl) (by kernel_rfl) (fun _ _ _ h => h) (Or.inl ⟨by rfl, ?hg4_8⟩) (by assumption) ?rg4_8
              case hg4_8 => (intro w hSw; (try dsimp only at hSw); first | (go_simp; done) | (go_simp; with_reducible rfl))
              (try simp only [Act.put, List.setIfInBounds_toArray, List.set_cons_zero, List.set_cons_succ])
              refine wpAnyT_take (i := 9) (oi := ⟨some 75, _, _, _, _, _⟩) (v := ?vg4_9) rfl (by kernel_rfl) (by kernel_rfl) (by kernel_rfl) (by kernel_rfl) (fun _ _ _ h => h) (Or.inl ⟨by rfl, ?hg4_9⟩) (by assumption) ?rg4_9
              case hg4_9 => (intro w hSw; (try dsimp only at hSw); first | (go_simp; done) | (go_simp; with_reducible rfl))
              (try simp only [Act.put, List.setIfInBounds_toArray, List.set_cons_zero, List.set_cons_succ])
              refine wpAnyT_take (i := 10) (oi := ⟨some 76, _, _, _, _, _⟩) (v := ?vg4_10) rfl (by kernel_rfl) (by kernel_rfl) (by kernel_rfl) (by kernel_rfl) (fun _ _ _ h => h) (Or.inl ⟨by rfl, ?hg4_10⟩) (by assumption) ?rg4_10
              case hg4_10 => (intro w hSw; (try dsimp only at hSw); first | (go_simp; done) | (go_simp; with_reducible rfl))
              (try simp only [Act.put, List.setIfInBounds_toArray, List.set_cons_zero, List.set_cons_succ])
              refine wpAnyT_one (i := 11) (o := ⟨none, _, _, _, _, _⟩) (by kernel_rfl) rfl (fun K hK => ?_)
              rw [if_pos (by rfl)]
              refine st_agg_wp 30 _ _ rfl P c7 rfl rfl 30 cp HP.out (by rw [VL.size HV7.out]; exact vec_size) (by rw [VL.size HV7.out, HSZ.out]) (VL.one HV7.out) ?_
              intro w8 h8 k8
              replace VA := Lib.hid (VL.but HV7.out k8 HP.out (by decide) (by decide))
              replace LA := Lib.hid (HL7.out.but k8 HP.out (by decide))
              replace VB := Lib.hid (VL.but VB.out k8 HP.out (by decide) (by decide))
              replace LB := Lib.hid (LB.out.but k8 HP.out (by decide))
              replace VC := Lib.hid (VL.but VC.out k8 HP.out (by decide) (by decide))
              replace LC := Lib.hid (LC.out.but k8 HP.out (by decide))
              replace HQ := Lib.hid (k8.other HQ.out (by have := HNE.out; omega))
              replace HX := Lib.hid (k8.other HX.out (by have := HNE.out; omega))
              replace HP := Lib.hid h8
              replace HB := Lib.hid (HB.out.trans (k8.below (by have := HNE.out; omega)))
              clear h8 k8
              refine hK.out _ _ (by exact HRR.out _ HB.out) (fun hHeld => ?_)
              clear hK K
              (try simp only [Act.put, List.setIfInBounds_toArray, List.set_cons_zero, List.set_cons_succ])
              refine wpAnyT_one (i := 12) (o := ⟨some 13, _, _, _, _, _⟩) (by kernel_rfl) rfl (fun K hK => ?_)
              go_simp
              refine hK.out _ _ (by exact HRR.out _ HB.out) (fun hHeld => ?_)
              clear hK K
              (try simp only [Act.put, List.setIfInBounds_toArray, List.set_cons_zero, List.set_cons_succ])
              refine wpAnyT_done (by kernel_rfl) ?_ _
              rw [← HAS.out] at VA LA
              clear HAS HR HRR HD HSZ HV7 HL7
              obtain ⟨wa, hwa⟩ : ∃ wa, wa = w8 := ⟨_, rfl⟩
              subst hwa
              have had : adb = some ⟨bbb, oob, none⟩ := HLOb.out (by omega)
              subst had
              have h15 := (few_ops HFb.out).1 _ (List.getElem_mem hltb)
              have hAS := aft_succ L lb hltb
              have hR := HLCb.out n hltb
              obtain ⟨x, hx⟩ : ∃ x, x = lb[n] := ⟨_, rfl⟩
              rw [← hx] at hR h15 hAS
              rw [← HBB.out] at hAS
              have HAS := Lib.hid hAS
              have HR := Lib.hid hR
              clear hx hR hAS
              go_upto_region 18 with fail
              have hb := drawn_below wa
              replace HP := Lib.hid ((hb.block _ (Array.getElem?_eq_some_iff.1 HP.out).1).trans HP.out)
              replace HQ := Lib.hid ((hb.block _ (Array.getElem?_eq_some_iff.1 HQ.out).1).trans HQ.out)
              replace HX := Lib.hid ((hb.block _ (Array.getElem?_eq_some_iff.1 HX.out).1).trans HX.out)
              replace VA := Lib.hid (VL.later VA.out hb)
              replace VB := Lib.hid (VL.later VB.out hb)
              replace VC := Lib.hid (VL.later VC.out hb)
              replace LA := Lib.hid (LA.out.later hb)
              replace LB := Lib.hid (LB.out.later hb)
              replace LC := Lib.hid (LC.out.later hb)
              replace HB := Lib.hid (HB.out.trans (hb.mono HB.out.size))
              clear hb
              have hd : Done cq (.slice sb B.length kb) B x wa.drew := does7 cq _ _ x _ VB.out LB.out h15 (by have := aft_few L HFb.out n; rw [← HBB.out] at this; have := HL5.out; omega)
              have HD := Lib.hid (show Calls Try.prog 10 #[.agg cq, .slice sb B.length kb, .agg (op7C x)] _ _ from hd)
              have HSZ := Lib.hid (VL.size VB.out)
              have HRR := Lib.hid (fun W (h : Below w.heap.size w W) => HR.out.later h)
              clear hd h15
              refine wp_region_T (S := fun V => Op7In V bbb (oob + n * 4) x) [] (by kernel_rfl) (by exact HRR.out _ HB.out) (fun hHeld => ?_)
              refine wpAnyT_take (i := 1) (oi := ⟨some 83, _, _, _, _, _⟩) (v := ?vg5_1) rfl (by kernel_rfl) (by kernel_rfl) (by kernel_rfl) (by kernel_rfl) (fun _ _ _ h => h) (Or.inl ⟨by rfl, ?hg5_1⟩) (by assumption) ?rg5_1
              case hg5_1 => (intro w hSw; (try dsimp only at hSw); first | (go_simp; done) | (go_simp; with_reducible rfl))
              (try simp only [Act.put, List.setIfInBounds_toArray, List.set_cons_zero, List.set_cons_succ])
              refine wpAnyT_take (i := 2) (oi := ⟨some 84, _, _, _, _, _⟩) (v := ?vg5_2) rfl (by kernel_rfl) (by kernel_rfl) (by kernel_rfl) (by kernel_rfl) (fun _ _ _ h => h) (Or.inl ⟨by rfl, ?hg5_2⟩) (by assumption) ?rg5_2
              case hg5_2 => (intro w hSw; (try dsimp only at hSw); first | (go_simp; done) | (go_simp; with_reducible rfl))
              (try simp only [Act.put, List.setIfInBounds_toArray, List.set_cons_zero, List.set_cons_succ])
              refine wpAnyT_take (i := 3) (oi := ⟨some 85, _, _, _, _, _⟩) (v := ?vg5_3) rfl (by kernel_rfl) (by kernel_rfl) (by kernel_rfl) (by kernel_rfl) (fun _ _ _ h => h) (Or.inl ⟨by rfl, ?hg5_3⟩) (by assumption) ?rg5_3
              case hg5_3 => (intro w hSw; (try dsimp only at hSw); first | (go_simp; done) | (go_simp; with_reducible rfl))
              (try simp only [Act.put, List.setIfInBounds_toArray, List.set_cons_zero, List.set_cons_succ])
              refine wpAnyT_take (i := 4) (oi := ⟨some 86, _, _, _, _, _⟩) (v := ?vg5_4) rfl (by kernel_rfl) (by kernel_rfl) (by kernel_rfl) (by kernel_rfl) (fun _ _ _ h => h) (Or.inl ⟨by rfl, ?hg5_4⟩) (by assumption) ?rg5_4
              case hg5_4 => (intro w hSw; (try dsimp only at hSw); first | (go_simp; done) | (go_simp; with_reducible rfl))
              (try simp only [Act.put, List.setIfInBounds_toArray, List.set_cons_zero, List.set_cons_succ])
              refine wpAnyT_take (i := 5) (oi := ⟨some 87, _, _, _, _, _⟩) (v := _) rfl (by kernel_rfl) (by kernel_rfl) (by kernel_rfl) (by kernel_rfl) (fun _ _ _ h => h) (yieldsIf_op7 (by rfl) _ rfl bbb (oob + n * 4) rfl x (fun w hw => hw)) (by assumption) ?_
              (try simp only [Act.put, List.setIfInBounds_toArray, List.set_cons_zero, List.set_cons_succ])
              refine wpAnyT_one (i := 0) (o := ⟨some 82, _, _, _, _, _⟩) (by kernel_rfl) rfl (fun K hK => ?_)
              rw [if_pos (by rfl)]
              refine ld_row_wp 30 _ rfl Q rfl 30 cq (0, 0) _ HQ.out Try.underlying30 rfl (by rw [HSZ.out]; exact vec_size) ?_
              refine hK.out _ _ (by exact HRR.out _ HB.out) (fun hHeld => ?_)
              clear hK K
              (try simp only [Act.put, List.setIfInBounds_toArray, List.set_cons_zero, List.set_cons_succ])
              refine wpAnyT_one (i := 6) (o := ⟨some 88, _, _, _, _, _⟩) (by kernel_rfl) rfl (fun K hK => ?_)
              go_simp
              go_at_call 10
              with_reducible refine HD.out.mono ?_
              rintro e w7 ⟨c7, v7, rfl, hv7, hl7, hb⟩
              replace HP := Lib.hid ((hb.block _ (Array.getElem?_eq_some_iff.1 HP.out).1).trans HP.out)
              replace HQ := Lib.hid ((hb.block _ (Array.getElem?_eq_some_iff.1 HQ.out).1).trans HQ.out)
              replace HX := Lib.hid ((hb.block _ (Array.getElem?_eq_some_iff.1 HX.out).1).trans HX.out)
              replace VA := Lib.hid (VL.later VA.out hb)
              replace VB := Lib.hid (VL.later VB.out hb)
              replace VC := Lib.hid (VL.later VC.out hb)
              replace LA := Lib.hid (LA.out.later hb)
              replace LB := Lib.hid (LB.out.later hb)
              replace LC := Lib.hid (LC.out.later hb)
              replace HB := Lib.hid (HB.out.trans (hb.mono HB.out.size))
              clear hb
              have HV7 := Lib.hid hv7
              have HL7 := Lib.hid hl7
              clear hv7 hl7
              dsimp only
              refine hK.out _ _ (by exact HRR.out _ HB.out) (fun hHeld => ?_)
              clear hK K
              (try simp only [Act.put, List.setIfInBounds_toArray, List.set_cons_zero, List.set_cons_succ])
              refine wpAnyT_take (i := 7) (oi := ⟨some 81, _, _, _, _, _⟩) (v := ?vg5_7) rfl (by kernel_rfl) (by kernel_rfl) (by kernel_rfl) (by kernel_rfl) (fun _ _ _ h => h) (Or.inl ⟨by rfl, ?hg5_7⟩) (by assumption) ?rg5_7
              case hg5_7 => (intro w hSw; (try dsimp only at hSw); first | (go_simp; done) | (go_simp; with_reducible rfl))
              (try simp only [Act.put, List.setIfInBounds_toArray, List.set_cons_zero, List.set_cons_succ])
              refine wpAnyT_take (i := 8) (oi := ⟨some 89, _, _, _, _, _⟩) (v := ?vg5_8) rfl (by kernel_rfl) (by kernel_rfl) (by kernel_rfl) (by kernel_rfl) (fun _ _ _ h => h) (Or.inl ⟨by rfl, ?hg5_8⟩) (by assumption) ?rg5_8
              case hg5_8 => (intro w hSw; (try dsimp only at hSw); first | (go_simp; done) | (go_simp; with_reducible rfl))
              (try simp only [Act.put, List.setIfInBounds_toArray, List.set_cons_zero, List.set_cons_succ])
              refine wpAnyT_take (i := 9) (oi := ⟨some 90, _, _, _, _, _⟩) (v := ?vg5_9) rfl (by kernel_rfl) (by kernel_rfl) (by kernel_rfl) (by kernel_rfl) (fun _ _ _ h => h) (Or.inl ⟨by rfl, ?hg5_9⟩) (by assumption) ?rg5_9
              case hg5_9 => (intro w hSw; (try dsimp only at hSw); first | (go_simp; done) | (go_simp; with_reducible rfl))
              (try simp only [Act.put, List.setIfInBounds_toArray, List.set_cons_zero, List.set_cons_succ])
              refine wpAnyT_take (i := 10) (oi := ⟨some 91, _, _, _, _, _⟩) (v := ?vg5_10) rfl (by kernel_rfl) (by kernel_rfl) (by kernel_rfl) (by kernel_rfl) (fun _ _ _ h => h) (Or.inl ⟨by rfl, ?hg5_10⟩) (by assumption) ?rg5_10
              case hg5_10 => (intro w hSw; (try dsimp only at hSw); first | (go_simp; done) | (go_simp; with_reducible rfl))
              (try simp only [Act.put, List.setIfInBounds_toArray, List.set_cons_zero, List.set_cons_succ])
              refine wpAnyT_one (i := 11) (o := ⟨none, _, _, _, _, _⟩) (by kernel_rfl) rfl (fun K hK => ?_)
              rw [if_pos (by rfl)]
              refine st_agg_wp 30 _ _ rfl Q c7 rfl rfl 30 cq HQ.out (by rw [VL.size HV7.out]; exact vec_size) (by rw [VL.size HV7.out, HSZ.out]) (VL.one HV7.out) ?_
              intro w8 h8 k8
              replace VB := Lib.hid (VL.but HV7.out k8 HQ.out (by decide) (by decide))
              replace LB := Lib.hid (HL7.out.but k8 HQ.out (by decide))
              replace VA := Lib.hid (VL.but VA.out k8 HQ.out (by decide) (by decide))
              replace LA := Lib.hid (LA.out.but k8 HQ.out (by decide))
              replace VC := Lib.hid (VL.but VC.out k8 HQ.out (by decide) (by decide))
              replace LC := Lib.hid (LC.out.but k8 HQ.out (by decide))
              replace HP := Lib.hid (k8.other HP.out (by have := HNE.out; omega))
              replace HX := Lib.hid (k8.other HX.out (by have := HNE.out; omega))
              replace HQ := Lib.hid h8
              replace HB := Lib.hid (HB.out.trans (k8.below (by have := HNE.out; omega)))
              clear h8 k8
              refine hK.out _ _ (by exact HRR.out _ HB.out) (fun hHeld => ?_)
              clear hK K
              (try simp only [Act.put, List.setIfInBounds_toArray, List.set_cons_zero, List.set_cons_succ])
              refine wpAnyT_one (i := 12) (o := ⟨some 14, _, _, _, _, _⟩) (by kernel_rfl) rfl (fun K hK => ?_)
              go_simp
              refine hK.out _ _ (by exact HRR.out _ HB.out) (fun hHeld => ?_)
              clear hK K
              (try simp only [Act.put, List.setIfInBounds_toArray, List.set_cons_zero, List.set_cons_succ])
              refine wpAnyT_done (by kernel_rfl) ?_ _
              rw [← HAS.out] at VB LB
              clear HAS HR HRR HD HSZ HV7 HL7
              go_wp2_with fail
              case roundEnd => exact ⟨⟨n + 1, _, _, by omega, by go_num, HP.out, HQ.out, HX.out, VA.out, VB.out, VC.out, LA.out, LB.out, LC.out, HB.out⟩, by simp [intOf]; omega⟩
            · as_aux_lemma =>
              have tb : ¬ (n : Int) < (lb.length : Int) := by omega
              have had : ada = some ⟨bba, ooa, none⟩ := HLOa.out (by omega)
              subst had
              have h15 := (few_ops HFa.out).1 _ (List.getElem_mem hlta)
              have hAS := aft_succ L la hlta
              have hR := HLCa.out n hlta
              obtain ⟨x, hx⟩ : ∃ x, x = la[n] := ⟨_, rfl⟩
              rw [← hx] at hR h15 hAS
              rw [← HAA.out] at hAS
              have HAS := Lib.hid hAS
              have HR := Lib.hid hR
              clear hx hR hAS
              go_upto_region 16 with fail
              have hb := drawn_below wr
              replace HP := Lib.hid ((hb.block _ (Array.getElem?_eq_some_iff.1 HP.out).1).trans HP.out)
              replace HQ := Lib.hid ((hb.block _ (Array.getElem?_eq_some_iff.1 HQ.out).1).trans HQ.out)
              replace HX := Lib.hid ((hb.block _ (Array.getElem?_eq_some_iff.1 HX.out).1).trans HX.out)
              replace VA := Lib.hid (VL.later VA.out hb)
              replace VB := Lib.hid (VL.later VB.out hb)
              replace VC := Lib.hid (VL.later VC.out hb)
              replace LA := Lib.hid (LA.out.later hb)
              replace LB := Lib.hid (LB.out.later hb)
              replace LC := Lib.hid (LC.out.later hb)
              replace HB := Lib.hid (HB.out.trans (hb.mono HB.out.size))
              clear hb
              have hd : Done cp (.slice sa A.length ka) A x wr.drew := does7 cp _ _ x _ VA.out LA.out h15 (by have := aft_few L HFa.out n; rw [← HAA.out] at this; have := HL5.out; omega)
              have HD := Lib.hid (show Calls Try.prog 10 #[.agg cp, .slice sa A.length ka, .agg (op7C x)] _ _ from hd)
              have HSZ := Lib.hid (VL.size VA.out)
              have HRR := Lib.hid (fun W (h : Below w.heap.size w W) => HR.out.later h)
              clear hd h15
              refine wp_region_T (S := fun V => Op7In V bba (ooa + n * 4) x) [] (by kernel_rfl) (by exact HRR.out _ HB.out) (fun hHeld => ?_)
              refine wpAnyT_take (i := 1) (oi := ⟨some 68, _, _, _, _, _⟩) (v := ?vg6_1) rfl (by kernel_rfl) (by kernel_rfl) (by kernel_rfl) (by kernel_rfl) (fun _ _ _ h => h) (Or.inl ⟨by rfl, ?hg6_1⟩) (by assumption) ?rg6_1
              case hg6_1 => (intro w hSw; (try dsimp only at hSw); first | (go_simp; done) | (go_simp; with_reducible rfl))
              (try simp only [Act.put, List.setIfInBounds_toArray, List.set_cons_zero, List.set_cons_succ])
              refine wpAnyT_take (i := 2) (oi := ⟨some 69, _, _, _, _, _⟩) (v := ?vg6_2) rfl (by kernel_rfl) (by kernel_rfl) (by kernel_rfl) (by kernel_rfl) (fun _ _ _ h => h) (Or.inl ⟨by rfl, ?hg6_2⟩) (by assumption) ?rg6_2
              case hg6_2 => (intro w hSw; (try dsimp only at hSw); first | (go_simp; done) | (go_simp; with_reducible rfl))
              (try simp only [Act.put, List.setIfInBounds_toArray, List.set_cons_zero, List.set_cons_succ])
              refine wpAnyT_take (i := 3) (oi := ⟨some 70, _, _, _, _, _⟩) (v := ?vg6_3) rfl (by kernel_rfl) (by kernel_rfl) (by kernel_rfl) (by kernel_rfl) (fun _ _ _ h => h) (Or.inl ⟨by rfl, ?hg6_3⟩) (by assumption) ?rg6_3
              case hg6_3 => (intro w hSw; (try dsimp only at hSw); first | (go_simp; done) | (go_simp; with_reducible rfl))
              (try simp only [Act.put, List.setIfInBounds_toArray, List.set_cons_zero, List.set_cons_succ])
              refine wpAnyT_take (i := 4) (oi := ⟨some 71, _, _, _, _, _⟩) (v := ?vg6_4) rfl (by kernel_rfl) (by kernel_rfl) (by kernel_rfl) (by kernel_rfl) (fun _ _ _ h => h) (Or.inl ⟨by rfl, ?hg6_4⟩) (by assumption) ?rg6_4
              case hg6_4 => (intro w hSw; (try dsimp only at hSw); first | (go_simp; done) | (go_simp; with_reducible rfl))
              (try simp only [Act.put, List.setIfInBounds_toArray, List.set_cons_zero, List.set_cons_succ])
              refine wpAnyT_take (i := 5) (oi := ⟨some 72, _, _, _, _, _⟩) (v := _) rfl (by kernel_rfl) (by kernel_rfl) (by kernel_rfl) (by kernel_rfl) (fun _ _ _ h => h) (yieldsIf_op7 (by rfl) _ rfl bba (ooa + n * 4) rfl x (fun w hw => hw)) (by assumption) ?_
              (try simp only [Act.put, List.setIfInBounds_toArray, List.set_cons_zero, List.set_cons_succ])
              refine wpAnyT_one (i := 0) (o := ⟨some 67, _, _, _, _, _⟩) (by kernel_rfl) rfl (fun K hK => ?_)
              rw [if_pos (by rfl)]
              refine ld_row_wp 30 _ rfl P rfl 30 cp (0, 0) _ HP.out Try.underlying30 rfl (by rw [HSZ.out]; exact vec_size) ?_
              refine hK.out _ _ (by exact HRR.out _ HB.out) (fun hHeld => ?_)
              clear hK K
              (try simp only [Act.put, List.setIfInBounds_toArray, List.set_cons_zero, List.set_cons_succ])
              refine wpAnyT_one (i := 6) (o := ⟨some 73, _, _, _, _, _⟩) (by kernel_rfl) rfl (fun K hK => ?_)
              go_simp
              go_at_call 10
              with_reducible refine HD.out.mono ?_
              rintro e w7 ⟨c7, v7, rfl, hv7, hl7, hb⟩
              replace HP := Lib.hid ((hb.block _ (Array.getElem?_eq_some_iff.1 HP.out).1).trans HP.out)
              replace HQ := Lib.hid ((hb.block _ (Array.getElem?_eq_some_iff.1 HQ.out).1).trans HQ.out)
              replace HX := Lib.hid ((hb.block _ (Array.getElem?_eq_some_iff.1 HX.out).1).trans HX.out)
              replace VA := Lib.hid (VL.later VA.out hb)
              replace VB := Lib.hid (VL.later VB.out hb)
              replace VC := Lib.hid (VL.later VC.out hb)
              replace LA := Lib.hid (LA.out.later hb)
              replace LB := Lib.hid (LB.out.later hb)
              replace LC := Lib.hid (LC.out.later hb)
              replace HB := Lib.hid (HB.out.trans (hb.mono HB.out.size))
              clear hb
              have HV7 := Lib.hid hv7
              have HL7 := Lib.hid hl7
              clear hv7 hl7
              dsimp only
              refine hK.out _ _ (by exact HRR.out _ HB.out) (fun hHeld => ?_)
              clear hK K
              (try simp only [Act.put, List.setIfInBounds_toArray, List.set_cons_zero, List.set_cons_succ])
              refine wpAnyT_take (i := 7) (oi := ⟨some 66, _, _, _, _, _⟩) (v := ?vg6_7) rfl (by kernel_rfl) (by kernel_rfl) (by kernel_rfl) (by kernel_rfl) (fun _ _ _ h => h) (Or.inl ⟨by rfl, ?hg6_7⟩) (by assumption) ?rg6_7
              case hg6_7 => (intro w hSw; (try dsimp only at hSw); first | (go_simp; done) | (go_simp; with_reducible rfl))
              (try simp only [Act.put, List.setIfInBounds_toArray, List.set_cons_zero, List.set_cons_succ])
              refine wpAnyT_take (i := 8) (oi := ⟨some 74, _, _, _, _, _⟩) (v := ?vg6_8) rfl (by kernel_rfl) (by kernel_rfl) (by kernel_rfl) (by kernel_rfl) (fun _ _ _ h => h) (Or.inl ⟨by rfl, ?hg6_8⟩) (by assumption) ?rg6_8
              case hg6_8 => (intro w hSw; (try dsimp only at hSw); first | (go_simp; done) | (go_simp; with_reducible rfl))
              (try simp only [Act.put, List.setIfInBounds_toArray, List.set_cons_zero, List.set_cons_succ])
              refine wpAnyT_take (i := 9) (oi := ⟨some 75, _, _, _, _, _⟩) (v := ?vg6_9) rfl (by kernel_rfl) (by kernel_rfl) (by kernel_rfl) (by kernel_rfl) (fun _ _ _ h => h) (Or.inl ⟨by rfl, ?hg6_9⟩) (by assumption) ?rg6_9
              case hg6_9 => (intro w hSw; (try dsimp only at hSw); first | (go_simp; done) | (go_simp; with_reducible rfl))
              (try simp only [Act.put, List.setIfInBounds_toArray, List.set_cons_zero, List.set_cons_succ])
              refine wpAnyT_take (i := 10) (oi := ⟨some 76, _, _, _, _, _⟩) (v := ?vg6_10) rfl (by kernel_rfl) (by kernel_rfl) (by kernel_rfl) (by kernel_rfl) (fun _ _ _ h => h) (Or.inl ⟨by rfl, ?hg6_10⟩) (by assumption) ?rg6_10
              case hg6_10 => (intro w hSw; (try dsimp only at hSw); first | (go_simp; done) | (go_simp; with_reducible rfl))
              (try simp only [Act.put, List.setIfInBounds_toArray, List.set_cons_zero, List.set_cons_succ])
              refine wpAnyT_one (i := 11) (o := ⟨none, _, _, _, _, _⟩) (by kernel_rfl) rfl (fun K hK => ?_)
              rw [if_pos (by rfl)]
              refine st_agg_wp 30 _ _ rfl P c7 rfl rfl 30 cp HP.out (by rw [VL.size HV7.out]; exact vec_size) (by rw [VL.size HV7.out, HSZ.out]) (VL.one HV7.out) ?_
              intro w8 h8 k8
              replace VA := Lib.hid (VL.but HV7.out k8 HP.out (by decide) (by decide))
              replace LA := Lib.hid (HL7.out.but k8 HP.out (by decide))
              replace VB := Lib.hid (VL.but VB.out k8 HP.out (by decide) (by decide))
              replace LB := Lib.hid (LB.out.but k8 HP.out (by decide))
              replace VC := Lib.hid (VL.but VC.out k8 HP.out (by decide) (by decide))
              replace LC := Lib.hid (LC.out.but k8 HP.out (by decide))
              replace HQ := Lib.hid (k8.other HQ.out (by have := HNE.out; omega))
              replace HX := Lib.hid (k8.other HX.out (by have := HNE.out; omega))
              replace HP := Lib.hid h8
              replace HB := Lib.hid (HB.out.trans (k8.below (by have := HNE.out; omega)))
              clear h8 k8
              refine hK.out _ _ (by exact HRR.out _ HB.out) (fun hHeld => ?_)
              clear hK K
              (try simp only [Act.put, List.setIfInBounds_toArray, List.set_cons_zero, List.set_cons_succ])
              refine wpAnyT_one (i := 12) (o := ⟨some 13, _, _, _, _, _⟩) (by kernel_rfl) rfl (fun K hK => ?_)
              go_simp
              refine hK.out _ _ (by exact HRR.out _ HB.out) (fun hHeld => ?_)
              clear hK K
              (try simp only [Act.put, List.setIfInBounds_toArray, List.set_cons_zero, List.set_cons_succ])
              refine wpAnyT_done (by kernel_rfl) ?_ _
              rw [← HAS.out] at VA LA
              clear HAS HR HRR HD HSZ HV7 HL7
              obtain ⟨wa, hwa⟩ : ∃ wa, wa = w8 := ⟨_, rfl⟩
              subst hwa
              have hB : aft L lb (n + 1) = B := by rw [HBB.out, aft_past L lb (by omega : lb.length ≤ n + 1), ← aft_past L lb (by omega : lb.length ≤ n)]
              have HB1 := Lib.hid hB
              clear hB
              go_wp2_with fail
              case roundEnd => exact ⟨⟨n + 1, _, _, by omega, by go_num, HP.out, HQ.out, HX.out, VA.out, by rw [HB1.out]; exact VB.out, VC.out, LA.out, by rw [HB1.out]; exact LB.out, LC.out, HB.out⟩, by simp [intOf]; omega⟩
          · have ta : ¬ (n : Int) < (la.length : Int) := by omega
            by_cases hltb : n < lb.length
            · as_aux_lemma =>
              have tb : (n : Int) < (lb.length : Int) := by omega
              have hA : aft L la (n + 1) = A := by rw [HAA.out, aft_past L la (by omega : la.length ≤ n + 1), ← aft_past L la (by omega : la.length ≤ n)]
              have HA1 := Lib.hid hA
              clear hA
              have had : adb = some ⟨bbb, oob, none⟩ := HLOb.out (by omega)
              subst had
              have h15 := (few_ops HFb.out).1 _ (List.getElem_mem hltb)
              have hAS := aft_succ L lb hltb
              have hR := HLCb.out n hltb
              obtain ⟨x, hx⟩ : ∃ x, x = lb[n] := ⟨_, rfl⟩
              rw [← hx] at hR h15 hAS
              rw [← HBB.out] at hAS
              have HAS := Lib.hid hAS
              have HR := Lib.hid hR
              clear hx hR hAS
              go_upto_region 18 with fail
              have hb := drawn_below wr
              replace HP := Lib.hid ((hb.block _ (Array.getElem?_eq_some_iff.1 HP.out).1).trans HP.out)
              replace HQ := Lib.hid ((hb.block _ (Array.getElem?_eq_some_iff.1 HQ.out).1).trans HQ.out)
              replace HX := Lib.hid ((hb.block _ (Array.getElem?_eq_some_iff.1 HX.out).1).trans HX.out)
              replace VA := Lib.hid (VL.later VA.out hb)
              replace VB := Lib.hid (VL.later VB.out hb)
              replace VC := Lib.hid (VL.later VC.out hb)
              replace LA := Lib.hid (LA.out.later hb)
              replace LB := Lib.hid (LB.out.later hb)
              replace LC := Lib.hid (LC.out.later hb)
              replace HB := Lib.hid (HB.out.trans (hb.mono HB.out.size))
              clear hb
              have hd : Done cq (.slice sb B.length kb) B x wr.drew := does7 cq _ _ x _ VB.out LB.out h15 (by have := aft_few L HFb.out n; rw [← HBB.out] at this; have := HL5.out; omega)
              have HD := Lib.hid (show Calls Try.prog 10 #[.agg cq, .slice sb B.length kb, .agg (op7C x)] _ _ from hd)
              have HSZ := Lib.hid (VL.size VB.out)
              have HRR := Lib.hid (fun W (h : Below w.heap.size w W) => HR.out.later h)
              clear hd h15
              refine wp_region_T (S := fun V => Op7In V bbb (oob + n * 4) x) [] (by kernel_rfl) (by exact HRR.out _ HB.out) (fun hHeld => ?_)
              refine wpAnyT_take (i := 1) (oi := ⟨some 83, _, _, _, _, _⟩) (v := ?vg7_1) rfl (by kernel_rfl) (by kernel_rfl) (by kernel_rfl) (by kernel_rfl) (fun _ _ _ h => h) (Or.inl ⟨by rfl, ?hg7_1⟩) (by assumption) ?rg7_1
              case hg7_1 => (intro w hSw; (try dsimp only at hSw); first | (go_simp; done) | (go_simp; with_reducible rfl))
              (try simp only [Act.put, List.setIfInBounds_toArray, List.set_cons_zero, List.set_cons_succ])
              refine wpAnyT_take (i := 2) (oi := ⟨some 84, _, _, _, _, _⟩) (v := ?vg7_2) rfl (by kernel_rfl) (by kernel_rfl) (by kernel_rfl) (by kernel_rfl) (fun _ _ _ h => h) (Or.inl ⟨by rfl, ?hg7_2⟩) (by assumption) ?rg7_2
              case hg7_2 => (intro w hSw; (try dsimp only at hSw); first | (go_simp; done) | (go_simp; with_reducible rfl))
              (try simp only [Act.put, List.setIfInBounds_toArray, List.set_cons_zero, List.set_cons_succ])
              refine wpAnyT_take (i := 3) (oi := ⟨some 85, _, _, _, _, _⟩) (v := ?vg7_3) rfl (by kernel_rfl) (by kernel_rfl) (by kernel_rfl) (by kernel_rfl) (fun _ _ _ h => h) (Or.inl ⟨by rfl, ?hg7_3⟩) (by assumption) ?rg7_3
              case hg7_3 => (intro w hSw; (try dsimp only at hSw); first | (go_simp; done) | (go_simp; with_reducible rfl))
              (try simp only [Act.put, List.setIfInBounds_toArray, List.set_cons_zero, List.set_cons_succ])
              refine wpAnyT_take (i := 4) (oi := ⟨some 86, _, _, _, _, _⟩) (v := ?vg7_4) rfl (by kernel_rfl) (by kernel_rfl) (by kernel_rfl) (by kernel_rfl) (fun _ _ _ h => h) (Or.inl ⟨by rfl, ?hg7_4⟩) (by assumption) ?rg7_4
              case hg7_4 => (intro w hSw; (try dsimp only at hSw); first | (go_simp; done) | (go_simp; with_reducible rfl))
              (try simp only [Act.put, List.setIfInBounds_toArray, List.set_cons_zero, List.set_cons_succ])
              refine wpAnyT_take (i := 5) (oi := ⟨some 87, _, _, _, _, _⟩) (v := _) rfl (by kernel_rfl) (by kernel_rfl) (by kernel_rfl) (by kernel_rfl) (fun _ _ _ h => h) (yieldsIf_op7 (by rfl) _ rfl bbb (oob + n * 4) rfl x (fun w hw => hw)) (by assumption) ?_
              (try simp only [Act.put, List.setIfInBounds_toArray, List.set_cons_zero, List.set_cons_succ])
              refine wpAnyT_one (i := 0) (o := ⟨some 82, _, _, _, _, _⟩) (by kernel_rfl) rfl (fun K hK => ?_)
              rw [if_pos (by rfl)]
              refine ld_row_wp 30 _ rfl Q rfl 30 cq (0, 0) _ HQ.out Try.underlying30 rfl (by rw [HSZ.out]; exact vec_size) ?_
              refine hK.out _ _ (by exact HRR.out _ HB.out) (fun hHeld => ?_)
              clear hK K
              (try simp only [Act.put, List.setIfInBounds_toArray, List.set_cons_zero, List.set_cons_succ])
              refine wpAnyT_one (i := 6) (o := ⟨some 88, _, _, _, _, _⟩) (by kernel_rfl) rfl (fun K hK => ?_)
              go_simp
              go_at_call 10
              with_reducible refine HD.out.mono ?_
              rintro e w7 ⟨c7, v7, rfl, hv7, hl7, hb⟩
              replace HP := Lib.hid ((hb.block _ (Array.getElem?_eq_some_iff.1 HP.out).1).trans HP.out)
              replace HQ := Lib.hid ((hb.block _ (Array.getElem?_eq_some_iff.1 HQ.out).1).trans HQ.out)
              replace HX := Lib.hid ((hb.block _ (Array.getElem?_eq_some_iff.1 HX.out).1).trans HX.out)
              replace VA := Lib.hid (VL.later VA.out hb)
              replace VB := Lib.hid (VL.later VB.out hb)
              replace VC := Lib.hid (VL.later VC.out hb)
              replace LA := Lib.hid (LA.out.later hb)
              replace LB := Lib.hid (LB.out.later hb)
              replace LC := Lib.hid (LC.out.later hb)
              replace HB := Lib.hid (HB.out.trans (hb.mono HB.out.size))
              clear hb
              have HV7 := Lib.hid hv7
              have HL7 := Lib.hid hl7
              clear hv7 hl7
              dsimp only
              refine hK.out _ _ (by exact HRR.out _ HB.out) (fun hHeld => ?_)
              clear hK K
              (try simp only [Act.put, List.setIfInBounds_toArray, List.set_cons_zero, List.set_cons_succ])
              refine wpAnyT_take (i := 7) (oi := ⟨some 81, _, _, _, _, _⟩) (v := ?vg7_7) rfl (by kernel_rfl) (by kernel_rfl) (by kernel_rfl) (by kernel_rfl) (fun _ _ _ h => h) (Or.inl ⟨by rfl, ?hg7_7⟩) (by assumption) ?rg7_7
              case hg7_7 => (intro w hSw; (try dsimp only at hSw); first | (go_simp; done) | (go_simp; with_reducible rfl))
              (try simp only [Act.put, List.setIfInBounds_toArray, List.set_cons_zero, List.set_cons_succ])
              refine wpAnyT_take (i := 8) (oi := ⟨some 89, _, _, _, _, _⟩) (v := ?vg7_8) rfl (by kernel_rfl) (by kernel_rfl) (by kernel_rfl) (by kernel_rfl) (fun _ _ _ h => h) (Or.inl ⟨by rfl, ?hg7_8⟩) (by assumption) ?rg7_8
              case hg7_8 => (intro w hSw; (try dsimp only at hSw); first | (go_simp; done) | (go_simp; with_reducible rfl))
              (try simp only [Act.put, List.setIfInBounds_toArray, List.set_cons_zero, List.set_cons_succ])
              refine wpAnyT_take (i := 9) (oi := ⟨some 90, _, _, _, _, _⟩) (v := ?vg7_9) rfl (by kernel_rfl) (by kernel_rfl) (by kernel_rfl) (by kernel_rfl) (fun _ _ _ h => h) (Or.inl ⟨by rfl, ?hg7_9⟩) (by assumption) ?rg7_9
              case hg7_9 => (intro w hSw; (try dsimp only at hSw); first | (go_simp; done) | (go_simp; with_reducible rfl))
              (try simp only [Act.put, List.setIfInBounds_toArray, List.set_cons_zero, List.set_cons_succ])
              refine wpAnyT_take (i := 10) (oi := ⟨some 91, _, _, _, _, _⟩) (v := ?vg7_10) rfl (by kernel_rfl) (by kernel_rfl) (by kernel_rfl) (by kernel_rfl) (fun _ _ _ h => h) (Or.inl ⟨by rfl, ?hg7_10⟩) (by assumption) ?rg7_10
              case hg7_10 => (intro w hSw; (try dsimp only at hSw); first | (go_simp; done) | (go_simp; with_reducible rfl))
              (try simp only [Act.put, List.setIfInBounds_toArray, List.set_cons_zero, List.set_cons_succ])
              refine wpAnyT_one (i := 11) (o := ⟨none, _, _, _, _, _⟩) (by kernel_rfl) rfl (fun K hK => ?_)
              rw [if_pos (by rfl)]
              refine st_agg_wp 30 _ _ rfl Q c7 rfl rfl 30 cq HQ.out (by rw [VL.size HV7.out]; exact vec_size) (by rw [VL.size HV7.out, HSZ.out]) (VL.one HV7.out) ?_
              intro w8 h8 k8
              replace VB := Lib.hid (VL.but HV7.out k8 HQ.out (by decide) (by decide))
              replace LB := Lib.hid (HL7.out.but k8 HQ.out (by decide))
              replace VA := Lib.hid (VL.but VA.out k8 HQ.out (by decide) (by decide))
              replace LA := Lib.hid (LA.out.but k8 HQ.out (by decide))
              replace VC := Lib.hid (VL.but VC.out k8 HQ.out (by decide) (by decide))
              replace LC := Lib.hid (LC.out.but k8 HQ.out (by decide))
              replace HP := Lib.hid (k8.other HP.out (by have := HNE.out; omega))
              replace HX := Lib.hid (k8.other HX.out (by have := HNE.out; omega))
              replace HQ := Lib.hid h8
              replace HB := Lib.hid (HB.out.trans (k8.below (by have := HNE.out; omega)))
              clear h8 k8
              refine hK.out _ _ (by exact HRR.out _ HB.out) (fun hHeld => ?_)
              clear hK K
              (try simp only [Act.put, List.setIfInBounds_toArray, List.set_cons_zero, List.set_cons_succ])
              refine wpAnyT_one (i := 12) (o := ⟨some 14, _, _, _, _, _⟩) (by kernel_rfl) rfl (fun K hK => ?_)
              go_simp
              refine hK.out _ _ (by exact HRR.out _ HB.out) (fun hHeld => ?_)
              clear hK K
              (try simp only [Act.put, List.setIfInBounds_toArray, List.set_cons_zero, List.set_cons_succ])
              refine wpAnyT_done (by kernel_rfl) ?_ _
              rw [← HAS.out] at VB LB
              clear HAS HR HRR HD HSZ HV7 HL7
              go_wp2_with fail
              case roundEnd => exact ⟨⟨n + 1, _, _, by omega, by go_num, HP.out, HQ.out, HX.out, by rw [HA1.out]; exact VA.out, VB.out, VC.out, by rw [HA1.out]; exact LA.out, LB.out, LC.out, HB.out⟩, by simp [intOf]; omega⟩
            · as_aux_lemma =>
              have tb : ¬ (n : Int) < (lb.length : Int) := by omega
              have hA : aft L la (n + 1) = A := by rw [HAA.out, aft_past L la (by omega : la.length ≤ n + 1), ← aft_past L la (by omega : la.length ≤ n)]
              have HA1 := Lib.hid hA
              clear hA
              have hB : aft L lb (n + 1) = B := by rw [HBB.out, aft_past L lb (by omega : lb.length ≤ n + 1), ← aft_past L lb (by omega : lb.length ≤ n)]
              have HB1 := Lib.hid hB
              clear hB
              go_wp2_with fail
              case roundEnd => exact ⟨⟨n + 1, _, _, by omega, by go_num, HP.out, HQ.out, HX.out, by rw [HA1.out]; exact VA.out, by rw [HB1.out]; exact VB.out, VC.out, by rw [HA1.out]; exact LA.out, by rw [HB1.out]; exact LB.out, LC.out, HB.out⟩, by simp [intOf]; omega⟩
end Go.Proofs.Ytpjbhdplginbaaa
