import Derived.Test.YtpodmgihlomglaaGreatDoorQ39
import Derived.Test.YtpodmgihlomglaaGreatDoorQ40
import Derived.Test.YtpodmgihlomglaaGreatDoorQ44
import Derived.Test.YtpodmgihlomglaaGreatDoorQ45
namespace Go.Proofs.YtpodmgihlomglaaGreatDoor
open Go.RowKit
set_option maxRecDepth 1000000
set_option linter.unusedSimpArgs false
theorem mem_pick {β : Type} {I : List Nat} {l : List β} {x : β} (h : x ∈ pickB I l) : x ∈ l := by
 unfold pickB at h
 obtain ⟨i, _, hi⟩ := List.mem_filterMap.1 h
 exact List.mem_of_getElem? hi
theorem txt_trn (B c : Nat) (a : Tr) : TxtT B a → TxtT B (trnT c a) := by
 induction a using tr_ind with
 | h k n t ks xs ih =>
  intro h
  have h1 := txtT_iff.1 h
  simp only [Tr.t, Tr.ks, Tr.xs] at h1
  rw [trnT, txtT_iff]
  refine ⟨h1.1, fun y hy => ?_, fun x hx => ?_⟩
  ·have hy' : y ∈ (if k = 5 then pickB (turnI xs.length c) ks else []) := hy
   split at hy'
   ·exact h1.2.1 y (mem_pick hy')
   ·cases hy'
  ·have hx' : x ∈ (if k = 4 then trnL c xs else pickB (turnI xs.length c) (trnL c xs)) := hx
   have hx2 : x ∈ trnL c xs := by
    split at hx'
    ·exact hx'
    ·exact mem_pick hx'
   rw [trnL_map] at hx2
   obtain ⟨y, hy, rfl⟩ := List.mem_map.1 hx2
   exact ih y hy (h1.2.2 y hy)
theorem one_trn (c : Nat) {a : Tr} (h : chkT a = 0) (hn : nodT a ≤ 2000) (ht : TxtT 3000 a) : FewT 2000 (trnT c a) ∧ TxtT 3000 (trnT c a) ∧ nodT (trnT c a) ≤ 2000 ∧ chkT (trnT c a) = 0 ∧ canT (trnT c a) = canT a := by
 have ho := (chkT_ok.1 h).1
 have h1 := can_trn c a ho
 have h2 := trn_size c a ho
 exact ⟨few_ok _ _ h1.2 (by omega), txt_trn _ _ _ ht, by omega, chk_trn c h, h1.1⟩
theorem tail4o {α β γ δ : Type} {Q P : α → β → γ → δ → Prop} {G : Prop} (main : (∀ a b c d, Q a b c d → P a b c d) → G) (rest : ∀ a b c d, Q a b c d → P a b c d) : G := main rest
set_option maxHeartbeats 8000000 in
theorem valueOne_walk (s : Nat) (bb : Int) (s2 : Nat) (bb2 : Int) (v : Value) (a : Tr) (by0 : Int) (hs : s < 18446744073709551616) (hs2 : s2 < 18446744073709551616) (_ : (Lit.int .i64 by0).wf = true) (w : World) (hv : TrV w a v) (hT : Tab6 w) :
  Calls Tryz.prog 6 #[.agg #[.int .u64 (s : Int), .int .i64 bb], .agg #[.int .u64 (s2 : Int), .int .i64 bb2], v, .int .i64 by0] w fun e w' => e = .returned (.bool true) ∧ Below w.heap.size w w' := by
 obtain ⟨ak, an, att, aa, al, ac, ad, am, ae, rfl⟩ := tr_shape hv
 have hra := trV_rng a _ hv
 obtain ⟨w1, hw1⟩ : ∃ w1, ((w.alloc (.cells #[.int .u64 (s : Int), .int .i64 bb] 24)).alloc (.cells #[.int .u64 (s2 : Int), .int .i64 bb2] 24)).alloc (.cells (trC ak an att (.slice aa al ac) (.slice ad am ae)) 28) = w1 := ⟨_, rfl⟩
 obtain ⟨hb1, hx1, hx2, hx3, hs1⟩ := three_newV hw1
 have hv1 := fun W (hb : Below w1.heap.size w1 W) => (hv.later hb1).later hb
 have hT1 := fun W (hb : Below w1.heap.size w1 W) => (hT.below hb1).below hb
 have HCF := Lib.hid (fun W (hb : Below w1.heap.size w1 W) => ((hb.block _ (Array.getElem?_eq_some_iff.1 hx1).1).trans hx1))
 have HCD := Lib.hid (fun W (hb : Below w1.heap.size w1 W) => ((hb.block _ (Array.getElem?_eq_some_iff.1 hx2).1).trans hx2))
 have HTA := Lib.hid (fun W (hb : Below w1.heap.size w1 W) => ((hb.block _ (Array.getElem?_eq_some_iff.1 hx3).1).trans hx3))
 have HLV := Lib.hid (fun W (hb : Below w1.heap.size w1 W) => live11 W (hT1 W hb))
 obtain ⟨sa, hsa⟩ : ∃ sa, sa = (smT a 0 400).2 := ⟨_, rfl⟩
 obtain ⟨ea, hea⟩ : ∃ ea, ea = chkT a := ⟨_, rfl⟩
 have HSA : Hid (∀ W, Below w1.heap.size w1 W → Calls Tryz.prog 12 #[.agg (trC ak an att (.slice aa al ac) (.slice ad am ae)), .int .i64 400] W fun e w' => e = .returned (.bool sa) ∧ Below W.heap.size W w') := fun W hb => by rw [hsa]; exact rf_Small a _ 400 W (hv1 W hb) (by decide) (by decide)
 have hCA : sa = true → ∀ W, Below w1.heap.size w1 W → Calls Tryz.prog 15 #[.agg (trC ak an att (.slice aa al ac) (.slice ad am ae))] W fun e w' => e = .returned (.int .i64 ea) ∧ Below W.heap.size W w' := fun h W hb => by
  obtain ⟨h1, h2, h3⟩ := small_ok (hsa.symm.trans h)
  rw [hea]
  exact va_Check a _ W (hv1 W hb) h1 h2 (by omega) (hT1 W hb)
 have HB1 := Lib.hid hb1
 have HW : Hid (Below w1.heap.size w1 w1) := Below.refl _ _
 have HV1 := Lib.hid hv1
 have HT1 := Lib.hid hT1
 have HRN := Lib.hid hra
 have HSAE := Lib.hid hsa
 have HEA := Lib.hid hea
 clear hx1 hx2 hx3 hs1 hb1 hv1 hT1 hra hv hT hsa hea
 by_cases c1 : sa = true
 case neg =>
  obtain rfl := Bool.eq_false_iff.2 c1
  have HCA : Hid True := trivial
  clear c1 hCA
  go_enter Tryz.func6, Tryz.ntmps6
  go_upto_region 1 with fail
  clear hw1
  go_wp2_with (first
   | (go_at_call 11; (with_reducible refine (HLV.out _ HW.out).mono ?_); rintro r V ⟨rfl, hb⟩; replace HW := Lib.hid (HW.out.trans (hb.mono HW.out.size)); clear hb)
   | (refine ld_if rfl 28 _ rfl (w.heap.size + 2) rfl 28 _ _ _ (HTA.out _ HW.out) Tryz.underlying28 rfl tr_size9 ?_)
   | (go_at_call 12; (with_reducible refine (HSA.out _ HW.out).mono ?_); rintro r V ⟨rfl, hb⟩; replace HW := Lib.hid (HW.out.trans (hb.mono HW.out.size)); clear hb)
   | (go_at_call 15; (with_reducible refine (HCA.out _ HW.out).mono ?_); rintro r V ⟨rfl, hb⟩; replace HW := Lib.hid (HW.out.trans (hb.mono HW.out.size)); clear hb))
  have hb := HB1.out.trans (HW.out.mono HB1.out.size)
  go_ret
  exact ⟨rfl, hb⟩
 have HCA := Lib.hid (hCA c1)
 clear hCA
 have HKA0 := Lib.hid (small_ok (HSAE.out.symm.trans c1))
 subst c1
 by_cases b0 : by0 < 0
 ·go_enter Tryz.func6, Tryz.ntmps6
  go_upto_region 1 with fail
  clear hw1
  go_wp2_with (first
   | (go_at_call 11; (with_reducible refine (HLV.out _ HW.out).mono ?_); rintro r V ⟨rfl, hb⟩; replace HW := Lib.hid (HW.out.trans (hb.mono HW.out.size)); clear hb)
   | (refine ld_if rfl 28 _ rfl (w.heap.size + 2) rfl 28 _ _ _ (HTA.out _ HW.out) Tryz.underlying28 rfl tr_size9 ?_)
   | (go_at_call 12; (with_reducible refine (HSA.out _ HW.out).mono ?_); rintro r V ⟨rfl, hb⟩; replace HW := Lib.hid (HW.out.trans (hb.mono HW.out.size)); clear hb)
   | (go_at_call 15; (with_reducible refine (HCA.out _ HW.out).mono ?_); rintro r V ⟨rfl, hb⟩; replace HW := Lib.hid (HW.out.trans (hb.mono HW.out.size)); clear hb))
  have hb := HB1.out.trans (HW.out.mono HB1.out.size)
  go_ret
  exact ⟨rfl, hb⟩
 by_cases b1 : 1000 < by0
 ·go_enter Tryz.func6, Tryz.ntmps6
  go_upto_region 1 with fail
  clear hw1
  go_wp2_with (first
   | (go_at_call 11; (with_reducible refine (HLV.out _ HW.out).mono ?_); rintro r V ⟨rfl, hb⟩; replace HW := Lib.hid (HW.out.trans (hb.mono HW.out.size)); clear hb)
   | (refine ld_if rfl 28 _ rfl (w.heap.size + 2) rfl 28 _ _ _ (HTA.out _ HW.out) Tryz.underlying28 rfl tr_size9 ?_)
   | (go_at_call 12; (with_reducible refine (HSA.out _ HW.out).mono ?_); rintro r V ⟨rfl, hb⟩; replace HW := Lib.hid (HW.out.trans (hb.mono HW.out.size)); clear hb)
   | (go_at_call 15; (with_reducible refine (HCA.out _ HW.out).mono ?_); rintro r V ⟨rfl, hb⟩; replace HW := Lib.hid (HW.out.trans (hb.mono HW.out.size)); clear hb))
  have hb := HB1.out.trans (HW.out.mono HB1.out.size)
  go_ret
  exact ⟨rfl, hb⟩
 obtain ⟨c, hc⟩ : ∃ c : Nat, by0 = (c : Int) := ⟨by0.toNat, by omega⟩
 subst hc
 have HC9 : Hid (c ≤ 1000) := by show _ ≤ _; omega
 have d0 : decide ((c : Int) < 0) = false := decide_eq_false (by omega)
 have d1 : decide ((1000 : Int) < (c : Int)) = false := decide_eq_false (by omega)
 clear b0 b1
 by_cases c3 : ea = 0
 case neg =>
  go_enter Tryz.func6, Tryz.ntmps6
  go_upto_region 1 with fail
  clear hw1
  go_wp2_with (first
   | (go_at_call 11; (with_reducible refine (HLV.out _ HW.out).mono ?_); rintro r V ⟨rfl, hb⟩; replace HW := Lib.hid (HW.out.trans (hb.mono HW.out.size)); clear hb)
   | (refine ld_if rfl 28 _ rfl (w.heap.size + 2) rfl 28 _ _ _ (HTA.out _ HW.out) Tryz.underlying28 rfl tr_size9 ?_)
   | (go_at_call 12; (with_reducible refine (HSA.out _ HW.out).mono ?_); rintro r V ⟨rfl, hb⟩; replace HW := Lib.hid (HW.out.trans (hb.mono HW.out.size)); clear hb)
   | (go_at_call 15; (with_reducible refine (HCA.out _ HW.out).mono ?_); rintro r V ⟨rfl, hb⟩; replace HW := Lib.hid (HW.out.trans (hb.mono HW.out.size)); clear hb))
  have hb := HB1.out.trans (HW.out.mono HB1.out.size)
  go_ret
  exact ⟨rfl, hb⟩
 subst c3
 obtain ⟨CT, hCT⟩ : ∃ CT, CT = canT a := ⟨_, rfl⟩
 have HCT := Lib.hid hCT
 have hone := one_can HEA.out.symm HRN.out (by have := HKA0.out.2.2; omega) HKA0.out.2.1
 have htrn := one_trn c HEA.out.symm (by have := HKA0.out.2.2; omega) HKA0.out.2.1
 rw [← hCT] at hone htrn
 have HONE := Lib.hid hone
 have HTRN := Lib.hid htrn
 have HOA : Hid (∀ W, Below w1.heap.size w1 W → Calls Tryz.prog 13 #[.agg #[.int .u64 (s : Int), .int .i64 bb], .agg (trC ak an att (.slice aa al ac) (.slice ad am ae))] W fun e w' => ∃ y, e = .returned (.tuple #[.agg (celC y), .int .i64 0]) ∧ VAt (fun _ => True) w' CT y ∧ Below W.heap.size W w') := fun W hb => by
  have h := va_Of a _ W s bb (HV1.out W hb) HKA0.out.1 HKA0.out.2.1 (by have := HKA0.out.2.2; omega) hs (HT1.out W hb)
  rw [← HEA.out, if_pos rfl, ← HCT.out] at h
  exact h.mono fun e w' ⟨y, h1, h2, h3⟩ => ⟨y, h1, h2.weak fun _ _ => trivial, h3⟩
 have HTU0 : Hid (∀ W, Below w1.heap.size w1 W → Calls Tryz.prog 27 #[.agg (trC ak an att (.slice aa al ac) (.slice ad am ae)), .int .i64 (c : Int)] W fun e w' => ∃ cs, e = .returned (.agg cs) ∧ TrV w' (trnT c a) (.agg cs) ∧ Below W.heap.size W w') := fun W hb =>
  (lw_turned c HC9.out a _ W (HV1.out W hb) (chkT_ok.1 HEA.out.symm).1 HKA0.out.2.2).mono fun e w' ⟨cs, h1, _, h2, h3⟩ => ⟨cs, h1, h2.trv, h3⟩
 have HOT0 : Hid (∀ W cs, Below w1.heap.size w1 W → TrV W (trnT c a) (.agg cs) → Calls Tryz.prog 13 #[.agg #[.int .u64 (s2 : Int), .int .i64 bb2], .agg cs] W fun e w' => ∃ y, e = .returned (.tuple #[.agg (celC y), .int .i64 0]) ∧ VAt (fun g => W.heap.size ≤ g) w' CT y ∧ Below W.heap.size W w') := fun W cs hb hv => by
  have h := va_Of (trnT c a) _ W s2 bb2 hv HTRN.out.1 HTRN.out.2.1 (by have := HTRN.out.2.2.1; omega) hs2 (HT1.out W hb)
  rw [HTRN.out.2.2.2.1, if_pos rfl, HTRN.out.2.2.2.2] at h
  exact h
 have HOC0 : Hid (∀ W cs, Below w1.heap.size w1 W → TrV W CT (.agg cs) → Calls Tryz.prog 13 #[.agg #[.int .u64 (s2 : Int), .int .i64 bb2], .agg cs] W fun e w' => ∃ y, e = .returned (.tuple #[.agg (celC y), .int .i64 0]) ∧ VAt (fun g => W.heap.size ≤ g) w' CT y ∧ Below W.heap.size W w') := fun W cs hb hv => by
  have h := va_Of CT _ W s2 bb2 hv HONE.out.1 HONE.out.2.1 (by have := HONE.out.2.2.1; omega) hs2 (HT1.out W hb)
  rw [HONE.out.2.2.2.1, if_pos rfl, HONE.out.2.2.2.2.1] at h
  exact h
 clear hCT hone htrn
 go_enter Tryz.func6, Tryz.ntmps6
 go_upto_region 1 with fail
 clear hw1
 go_upto_region 3 with (first
  | (go_at_call 11; (with_reducible refine (HLV.out _ HW.out).mono ?_); rintro r V ⟨rfl, hb⟩; replace HW := Lib.hid (HW.out.trans (hb.mono HW.out.size)); clear hb)
  | (refine ld_if rfl 28 _ rfl (w.heap.size + 2) rfl 28 _ _ _ (HTA.out _ HW.out) Tryz.underlying28 rfl tr_size9 ?_)
  | (go_at_call 12; (with_reducible refine (HSA.out _ HW.out).mono ?_); rintro r V ⟨rfl, hb⟩; replace HW := Lib.hid (HW.out.trans (hb.mono HW.out.size)); clear hb)
  | (go_at_call 15; (with_reducible refine (HCA.out _ HW.out).mono ?_); rintro r V ⟨rfl, hb⟩; replace HW := Lib.hid (HW.out.trans (hb.mono HW.out.size)); clear hb))
 go_upto_region 4 with (first
  | (refine ld_if rfl 24 _ rfl w.heap.size rfl 24 _ _ _ (HCF.out _ HW.out) Tryz.underlying24 rfl conf_size9 ?_)
  | (refine ld_if rfl 28 _ rfl (w.heap.size + 2) rfl 28 _ _ _ (HTA.out _ HW.out) Tryz.underlying28 rfl tr_size9 ?_)
  | (go_at_call 13; (with_reducible refine (HOA.out _ HW.out).mono ?_); rintro r w2 ⟨y, rfl, hy, hb⟩; have HY := Lib.hid hy; clear hy; replace HW := Lib.hid (HW.out.trans (hb.mono HW.out.size)); clear hb)
  | (refine st_agg rfl 35 _ _ rfl w2.heap.size (celC y) rfl rfl 35 #[.int .i64 0, .int .i64 0, .string ⟨#[]⟩, .pointer none] (heap_alloc_last _ _) val_size rfl (celC_one y) ?_; intro w3 h3 k3))
 have hb3 : Below w2.heap.size w2 w3 := (Below.newly' _ _).trans (k3.below (Nat.le_refl _))
 have HX3 := Lib.hid h3
 have HY3 := Lib.hid (HY.out.later hb3)
 have HB3 := Lib.hid (HW.out.trans (hb3.mono HW.out.size))
 obtain ⟨X, hX⟩ : ∃ X, X = w2.heap.size := ⟨_, rfl⟩
 rw [← hX] at HX3 ⊢
 have HTU := Lib.hid (fun W (hb : Below w3.heap.size w3 W) => HTU0.out W (HB3.out.trans (hb.mono HB3.out.size)))
 have HOT := Lib.hid (fun W cs (hb : Below w3.heap.size w3 W) => HOT0.out W cs (HB3.out.trans (hb.mono HB3.out.size)))
 have HKS : Hid (∀ V, Below w3.heap.size w3 V → V.heap[w.heap.size + 1]? = some (.cells #[.int .u64 (s2 : Int), .int .i64 bb2] 24 (0, 0)) ∧ V.heap[w.heap.size + 2]? = some (.cells (trC ak an att (.slice aa al ac) (.slice ad am ae)) 28 (0, 0))) := fun V hb => ⟨HCD.out _ (HB3.out.trans (hb.mono HB3.out.size)), HTA.out _ (HB3.out.trans (hb.mono HB3.out.size))⟩
 clear hb3 h3 k3 hX HY HW HOA HCA HSA HLV
 obtain ⟨wg, hwg⟩ : ∃ wg, wg = w3.drew := ⟨_, rfl⟩
 have HW : Hid (Below w3.heap.size w3 wg) := by show Below _ _ _; rw [hwg]; exact drawn_below w3
 have HWG := Lib.hid hwg
 clear hwg
 apply tail4o (Q := fun (Z : Nat) (wS : World) (c1 : Array Value) (z : Cel) => wS.heap[Z]? = some (.cells (celC z) 35 (0, 0)) ∧ VAt (fun _ => True) wS CT z ∧ Below w3.heap.size w3 wS)
 case main =>
  intro REST
  refine wp_region_T (S := (fun V => V.heap[w.heap.size + 1]? = some (.cells #[.int .u64 (s2 : Int), .int .i64 bb2] 24 (0, 0)) ∧ V.heap[w.heap.size + 2]? = some (.cells (trC ak an att (.slice aa al ac) (.slice ad am ae)) 28 (0, 0)))) [7, 9, 10] (by kernel_rfl) (by rw [← HWG.out]; exact HKS.out _ HW.out) (fun hHeld => ?_)
  rw [← HWG.out] at hHeld ⊢
  refine tyL 0 43 (hy := yieldsIf_load_row (by rfl) 24 _ rfl (w.heap.size + 1) rfl #[.int .u64 (s2 : Int), .int .i64 bb2] 24 (0, 0) _ (fun w hw => hw.1) Tryz.underlying24 rfl (by exact conf_size9)) (h := ?_)
  refine tyL 1 44 (hy := yieldsIf_load_row (by rfl) 28 _ rfl (w.heap.size + 2) rfl (trC ak an att (.slice aa al ac) (.slice ad am ae)) 28 (0, 0) _ (fun w hw => hw.2) Tryz.underlying28 rfl (by exact tr_size9)) (h := ?_)
  (try simp only [pq])
  refine tkL 2 45 (h := ?_)
  (try simp only [pq])
  refine wpAnyT_ready (rs := [3, 8]) (by kernel_rfl) (by simp) (AllT.cons (o := ⟨some 46, _, _, _, _, _⟩) rfl (fun K hK => ?_) (AllT.cons (o := ⟨some 11, _, _, _, _, _⟩) rfl (fun K hK => ?_) AllT.nil))
  ·go_simp
   go_at_call 27
   (with_reducible refine (HTU.out _ (by exact HW.out)).mono ?_)
   rintro r wa ⟨c1, rfl, hc, hb⟩
   have HC1 := Lib.hid hc
   replace HW := Lib.hid (HW.out.trans (hb.mono HW.out.size))
   clear hb hc
   dsimp only
   refine hK.out _ _ (by exact HKS.out _ HW.out) (fun hHeld => ?_)
   clear hK K
   (try simp only [pq])
   refine wpAnyT_ready (rs := [4, 8]) (by kernel_rfl) (by simp) (AllT.cons (o := ⟨some 47, _, _, _, _, _⟩) rfl (fun K hK => ?_) (AllT.cons (o := ⟨some 11, _, _, _, _, _⟩) rfl (fun K hK => ?_) AllT.nil))
   ·go_simp
    go_at_call 13
    (with_reducible refine (HOT.out _ _ (by exact HW.out) HC1.out).mono ?_)
    rintro r wb ⟨z, rfl, hz, hb⟩
    have HZ0 := Lib.hid hz
    replace HW := Lib.hid (HW.out.trans (hb.mono HW.out.size))
    clear hb hz
    dsimp only
    refine hK.out _ _ (by exact HKS.out _ HW.out) (fun hHeld => ?_)
    clear hK K
    (try simp only [pq])
    refine tkL 5 42 (h := ?_)
    refine tkP 7 49 (h := ?_)
    (try simp only [pq])
    refine tkL 6 48 (h := ?_)
    (try simp only [pq])
    refine tkO 8 (some 11) (h := fun K hK => ?_)
    go_simp
    have hbz := Below.newly' wb (.cells #[.int .i64 0, .int .i64 0, .string ⟨#[]⟩, .pointer none] 35)
    have hz9 := heap_alloc_last wb (.cells #[.int .i64 0, .int .i64 0, .string ⟨#[]⟩, .pointer none] 35)
    have hw9 := HW.out.size
    obtain ⟨Z, hZ⟩ : ∃ Z, Z = wb.heap.size := ⟨_, rfl⟩
    obtain ⟨wz, hwz⟩ : ∃ wz, wz = wb.alloc (.cells #[.int .i64 0, .int .i64 0, .string ⟨#[]⟩, .pointer none] 35) := ⟨_, rfl⟩
    have HZW : Hid (w3.heap.size ≤ Z) := by show _ ≤ _; rw [hZ]; exact hw9
    have HZV : Hid (VAt (fun g => g ≠ Z) (wb.alloc (.cells #[.int .i64 0, .int .i64 0, .string ⟨#[]⟩, .pointer none] 35)) CT z) := ((HZ0.out.old.later hbz).weak fun g hg => by have := hg.2; omega)
    replace HW := Lib.hid (HW.out.trans (hbz.mono HW.out.size))
    rw [← hwz, ← hZ] at hz9
    have HZB := Lib.hid hz9
    rw [← hwz] at HZV
    rw [← hwz] at HW ⊢
    rw [← hZ]
    clear hwz hZ hbz hw9 hz9
    refine hK.out _ _ (by exact HKS.out _ HW.out) (fun hHeld => ?_)
    clear hK K
    (try simp only [pq])
    refine tkU 9 none (h := fun K hK => ?_)
    refine st_agg_wp 35 _ _ rfl Z (celC z) rfl rfl 35 #[.int .i64 0, .int .i64 0, .string ⟨#[]⟩, .pointer none] HZB.out val_size rfl (celC_one z) ?_
    intro wS hS kS
    refine hK.out _ _ ?_
    clear hK K
    (try simp only [pq])
    refine tkU 10 (some 12) (h := fun K hK => ?_)
    go_simp
    refine hK.out _ _ ?_
    clear hK K
    (try simp only [pq])
    refine wpAnyT_done (by kernel_rfl) ?_ _
    exact REST Z wS c1 z ⟨hS, (HZV.out.imp (Kq.only kS fun h => h rfl) fun g _ _ => trivial), HW.out.trans (kS.below HZW.out)⟩
   ·go_simp
    have hbz := Below.newly' wa (.cells #[.int .i64 0, .int .i64 0, .string ⟨#[]⟩, .pointer none] 35)
    have hz9 := heap_alloc_last wa (.cells #[.int .i64 0, .int .i64 0, .string ⟨#[]⟩, .pointer none] 35)
    have hw9 := HW.out.size
    obtain ⟨Z, hZ⟩ : ∃ Z, Z = wa.heap.size := ⟨_, rfl⟩
    obtain ⟨wz, hwz⟩ : ∃ wz, wz = wa.alloc (.cells #[.int .i64 0, .int .i64 0, .string ⟨#[]⟩, .pointer none] 35) := ⟨_, rfl⟩
    have HZW : Hid (w3.heap.size ≤ Z) := by show _ ≤ _; rw [hZ]; exact hw9
    replace HC1 := Lib.hid (HC1.out.later hbz)
    replace HW := Lib.hid (HW.out.trans (hbz.mono HW.out.size))
    rw [← hwz, ← hZ] at hz9
    have HZB := Lib.hid hz9
    rw [← hwz] at HC1
    rw [← hwz] at HW ⊢
    rw [← hZ]
    clear hwz hZ hbz hw9 hz9
    refine hK.out _ _ (by exact HKS.out _ HW.out) (fun hHeld => ?_)
    clear hK K
    (try simp only [pq])
    refine tkO 4 (some 47) (h := fun K hK => ?_)
    go_simp
    go_at_call 13
    (with_reducible refine (HOT.out _ _ (by exact HW.out) HC1.out).mono ?_)
    rintro r wb ⟨z, rfl, hz, hb⟩
    have HZV : Hid (VAt (fun g => g ≠ Z) wb CT z) := hz.weak fun g hg => by have := (Array.getElem?_eq_some_iff.1 HZB.out).1; omega
    replace HZB := Lib.hid ((hb.block _ (Array.getElem?_eq_some_iff.1 HZB.out).1).trans HZB.out)
    replace HW := Lib.hid (HW.out.trans (hb.mono HW.out.size))
    clear hb hz
    dsimp only
    refine hK.out _ _ (by exact HKS.out _ HW.out) (fun hHeld => ?_)
    clear hK K
    (try simp only [pq])
    refine tkL 5 42 (h := ?_)
    refine tkP 7 49 (h := ?_)
    (try simp only [pq])
    refine tkL 6 48 (h := ?_)
    (try simp only [pq])
    refine tkU 9 none (h := fun K hK => ?_)
    refine st_agg_wp 35 _ _ rfl Z (celC z) rfl rfl 35 #[.int .i64 0, .int .i64 0, .string ⟨#[]⟩, .pointer none] HZB.out val_size rfl (celC_one z) ?_
    intro wS hS kS
    refine hK.out _ _ ?_
    clear hK K
    (try simp only [pq])
    refine tkU 10 (some 12) (h := fun K hK => ?_)
    go_simp
    refine hK.out _ _ ?_
    clear hK K
    (try simp only [pq])
    refine wpAnyT_done (by kernel_rfl) ?_ _
    exact REST Z wS c1 z ⟨hS, (HZV.out.imp (Kq.only kS fun h => h rfl) fun g _ _ => trivial), HW.out.trans (kS.below HZW.out)⟩
  ·go_simp
   have hbz := Below.newly' wg (.cells #[.int .i64 0, .int .i64 0, .string ⟨#[]⟩, .pointer none] 35)
   have hz9 := heap_alloc_last wg (.cells #[.int .i64 0, .int .i64 0, .string ⟨#[]⟩, .pointer none] 35)
   have hw9 := HW.out.size
   obtain ⟨Z, hZ⟩ : ∃ Z, Z = wg.heap.size := ⟨_, rfl⟩
   obtain ⟨wz, hwz⟩ : ∃ wz, wz = wg.alloc (.cells #[.int .i64 0, .int .i64 0, .string ⟨#[]⟩, .pointer none] 35) := ⟨_, rfl⟩
   have HZW : Hid (w3.heap.size ≤ Z) := by show _ ≤ _; rw [hZ]; exact hw9
   replace HW := Lib.hid (HW.out.trans (hbz.mono HW.out.size))
   rw [← hwz, ← hZ] at hz9
   have HZB := Lib.hid hz9
   rw [← hwz] at HW ⊢
   rw [← hZ]
   clear hwz hZ hbz hw9 hz9
   refine hK.out _ _ (by exact HKS.out _ HW.out) (fun hHeld => ?_)
   clear hK K
   (try simp only [pq])
   refine tkO 3 (some 46) (h := fun K hK => ?_)
   go_simp
   go_at_call 27
   (with_reducible refine (HTU.out _ (by exact HW.out)).mono ?_)
   rintro r wa ⟨c1, rfl, hc, hb⟩
   have HC1 := Lib.hid hc
   replace HZB := Lib.hid ((hb.block _ (Array.getElem?_eq_some_iff.1 HZB.out).1).trans HZB.out)
   replace HW := Lib.hid (HW.out.trans (hb.mono HW.out.size))
   clear hb hc
   dsimp only
   refine hK.out _ _ (by exact HKS.out _ HW.out) (fun hHeld => ?_)
   clear hK K
   (try simp only [pq])
   refine tkO 4 (some 47) (h := fun K hK => ?_)
   go_simp
   go_at_call 13
   (with_reducible refine (HOT.out _ _ (by exact HW.out) HC1.out).mono ?_)
   rintro r wb ⟨z, rfl, hz, hb⟩
   have HZV : Hid (VAt (fun g => g ≠ Z) wb CT z) := hz.weak fun g hg => by have := (Array.getElem?_eq_some_iff.1 HZB.out).1; omega
   replace HZB := Lib.hid ((hb.block _ (Array.getElem?_eq_some_iff.1 HZB.out).1).trans HZB.out)
   replace HW := Lib.hid (HW.out.trans (hb.mono HW.out.size))
   clear hb hz
   dsimp only
   refine hK.out _ _ (by exact HKS.out _ HW.out) (fun hHeld => ?_)
   clear hK K
   (try simp only [pq])
   refine tkL 5 42 (h := ?_)
   refine tkP 7 49 (h := ?_)
   (try simp only [pq])
   refine tkL 6 48 (h := ?_)
   (try simp only [pq])
   refine tkU 9 none (h := fun K hK => ?_)
   refine st_agg_wp 35 _ _ rfl Z (celC z) rfl rfl 35 #[.int .i64 0, .int .i64 0, .string ⟨#[]⟩, .pointer none] HZB.out val_size rfl (celC_one z) ?_
   intro wS hS kS
   refine hK.out _ _ ?_
   clear hK K
   (try simp only [pq])
   refine tkU 10 (some 12) (h := fun K hK => ?_)
   go_simp
   refine hK.out _ _ ?_
   clear hK K
   (try simp only [pq])
   refine wpAnyT_done (by kernel_rfl) ?_ _
   exact REST Z wS c1 z ⟨hS, (HZV.out.imp (Kq.only kS fun h => h rfl) fun g _ _ => trivial), HW.out.trans (kS.below HZW.out)⟩
 rintro Z w5 c1 z ⟨hz5, hzv5, hb5⟩
 have HZ5 := Lib.hid hz5
 have HZV5 := Lib.hid hzv5
 have HX5 := Lib.hid (((hb5.block _ (Array.getElem?_eq_some_iff.1 HX3.out).1).trans HX3.out))
 have HY5 := Lib.hid (HY3.out.later hb5)
 have HB5 := Lib.hid (HB3.out.trans (hb5.mono HB3.out.size))
 clear hz5 hzv5 hb5 HKS HW HTU HOT HX3 HY3 HB3 HWG
 have HTR : Hid (∀ W, Below w5.heap.size w5 W → Calls Tryz.prog 21 #[.agg (celC y)] W fun r w' => ∃ c, r = .returned (.agg c) ∧ TrV w' CT (.agg c) ∧ Below W.heap.size W w') := fun W hb =>
  (va_Tree CT W y HONE.out.2.2.2.2.2 (HY5.out.later hb) (HT1.out W (HB5.out.trans (hb.mono HB5.out.size)))).mono fun r w' ⟨c, h1, _, h2, h3⟩ => ⟨c, h1, h2.trv, h3⟩
 have HOC := Lib.hid (fun W cs (hb : Below w5.heap.size w5 W) => HOC0.out W cs (HB5.out.trans (hb.mono HB5.out.size)))
 have HKS : Hid (∀ V, Below w5.heap.size w5 V → V.heap[w.heap.size + 1]? = some (.cells #[.int .u64 (s2 : Int), .int .i64 bb2] 24 (0, 0)) ∧ V.heap[X]? = some (.cells (celC y) 35 (0, 0))) := fun V hb => ⟨HCD.out _ (HB5.out.trans (hb.mono HB5.out.size)), ((hb.block _ (Array.getElem?_eq_some_iff.1 HX5.out).1).trans HX5.out)⟩
 obtain ⟨wg, hwg⟩ : ∃ wg, wg = w5.drew := ⟨_, rfl⟩
 have HW : Hid (Below w5.heap.size w5 wg) := by show Below _ _ _; rw [hwg]; exact drawn_below w5
 have HWG := Lib.hid hwg
 clear hwg
 go_upto_region 5 with fail
 apply tail4o (Q := fun (Z : Nat) (wS : World) (c1 : Array Value) (z : Cel) => wS.heap[Z]? = some (.cells (celC z) 35 (0, 0)) ∧ VAt (fun _ => True) wS CT z ∧ Below w5.heap.size w5 wS)
 case main =>
  intro REST
  refine wp_region_T (S := (fun V => V.heap[w.heap.size + 1]? = some (.cells #[.int .u64 (s2 : Int), .int .i64 bb2] 24 (0, 0)) ∧ V.heap[X]? = some (.cells (celC y) 35 (0, 0)))) [6, 8, 9] (by kernel_rfl) (by rw [← HWG.out]; exact HKS.out _ HW.out) (fun hHeld => ?_)
  rw [← HWG.out] at hHeld ⊢
  refine tyL 0 51 (hy := yieldsIf_load_row (by rfl) 24 _ rfl (w.heap.size + 1) rfl #[.int .u64 (s2 : Int), .int .i64 bb2] 24 (0, 0) _ (fun w hw => hw.1) Tryz.underlying24 rfl (by exact conf_size9)) (h := ?_)
  refine tyL 1 52 (hy := yieldsIf_load_row (by rfl) 35 _ rfl X rfl (celC y) 35 (0, 0) _ (fun w hw => hw.2) Tryz.underlying35 rfl (by exact val_size)) (h := ?_)
  (try simp only [pq])
  refine wpAnyT_ready (rs := [2, 7]) (by kernel_rfl) (by simp) (AllT.cons (o := ⟨some 53, _, _, _, _, _⟩) rfl (fun K hK => ?_) (AllT.cons (o := ⟨some 13, _, _, _, _, _⟩) rfl (fun K hK => ?_) AllT.nil))
  ·go_simp
   go_at_call 21
   (with_reducible refine (HTR.out _ (by exact HW.out)).mono ?_)
   rintro r wa ⟨c1, rfl, hc, hb⟩
   have HC1 := Lib.hid hc
   replace HW := Lib.hid (HW.out.trans (hb.mono HW.out.size))
   clear hb hc
   dsimp only
   refine hK.out _ _ (by exact HKS.out _ HW.out) (fun hHeld => ?_)
   clear hK K
   (try simp only [pq])
   refine wpAnyT_ready (rs := [3, 7]) (by kernel_rfl) (by simp) (AllT.cons (o := ⟨some 54, _, _, _, _, _⟩) rfl (fun K hK => ?_) (AllT.cons (o := ⟨some 13, _, _, _, _, _⟩) rfl (fun K hK => ?_) AllT.nil))
   ·go_simp
    go_at_call 13
    (with_reducible refine (HOC.out _ _ (by exact HW.out) HC1.out).mono ?_)
    rintro r wb ⟨z, rfl, hz, hb⟩
    have HZ0 := Lib.hid hz
    replace HW := Lib.hid (HW.out.trans (hb.mono HW.out.size))
    clear hb hz
    dsimp only
    refine hK.out _ _ (by exact HKS.out _ HW.out) (fun hHeld => ?_)
    clear hK K
    (try simp only [pq])
    refine tkL 4 50 (h := ?_)
    refine tkP 6 56 (h := ?_)
    (try simp only [pq])
    refine tkL 5 55 (h := ?_)
    (try simp only [pq])
    refine tkO 7 (some 13) (h := fun K hK => ?_)
    go_simp
    have hbz := Below.newly' wb (.cells #[.int .i64 0, .int .i64 0, .string ⟨#[]⟩, .pointer none] 35)
    have hz9 := heap_alloc_last wb (.cells #[.int .i64 0, .int .i64 0, .string ⟨#[]⟩, .pointer none] 35)
    have hw9 := HW.out.size
    obtain ⟨Z, hZ⟩ : ∃ Z, Z = wb.heap.size := ⟨_, rfl⟩
    obtain ⟨wz, hwz⟩ : ∃ wz, wz = wb.alloc (.cells #[.int .i64 0, .int .i64 0, .string ⟨#[]⟩, .pointer none] 35) := ⟨_, rfl⟩
    have HZW : Hid (w5.heap.size ≤ Z) := by show _ ≤ _; rw [hZ]; exact hw9
    have HZV : Hid (VAt (fun g => g ≠ Z) (wb.alloc (.cells #[.int .i64 0, .int .i64 0, .string ⟨#[]⟩, .pointer none] 35)) CT z) := ((HZ0.out.old.later hbz).weak fun g hg => by have := hg.2; omega)
    replace HW := Lib.hid (HW.out.trans (hbz.mono HW.out.size))
    rw [← hwz, ← hZ] at hz9
    have HZB := Lib.hid hz9
    rw [← hwz] at HZV
    rw [← hwz] at HW ⊢
    rw [← hZ]
    clear hwz hZ hbz hw9 hz9
    refine hK.out _ _ (by exact HKS.out _ HW.out) (fun hHeld => ?_)
    clear hK K
    (try simp only [pq])
    refine tkU 8 none (h := fun K hK => ?_)
    refine st_agg_wp 35 _ _ rfl Z (celC z) rfl rfl 35 #[.int .i64 0, .int .i64 0, .string ⟨#[]⟩, .pointer none] HZB.out val_size rfl (celC_one z) ?_
    intro wS hS kS
    refine hK.out _ _ ?_
    clear hK K
    (try simp only [pq])
    refine tkU 9 (some 14) (h := fun K hK => ?_)
    go_simp
    refine hK.out _ _ ?_
    clear hK K
    (try simp only [pq])
    refine wpAnyT_done (by kernel_rfl) ?_ _
    exact REST Z wS c1 z ⟨hS, (HZV.out.imp (Kq.only kS fun h => h rfl) fun g _ _ => trivial), HW.out.trans (kS.below HZW.out)⟩
   ·go_simp
    have hbz := Below.newly' wa (.cells #[.int .i64 0, .int .i64 0, .string ⟨#[]⟩, .pointer none] 35)
    have hz9 := heap_alloc_last wa (.cells #[.int .i64 0, .int .i64 0, .string ⟨#[]⟩, .pointer none] 35)
    have hw9 := HW.out.size
    obtain ⟨Z, hZ⟩ : ∃ Z, Z = wa.heap.size := ⟨_, rfl⟩
    obtain ⟨wz, hwz⟩ : ∃ wz, wz = wa.alloc (.cells #[.int .i64 0, .int .i64 0, .string ⟨#[]⟩, .pointer none] 35) := ⟨_, rfl⟩
    have HZW : Hid (w5.heap.size ≤ Z) := by show _ ≤ _; rw [hZ]; exact hw9
    replace HC1 := Lib.hid (HC1.out.later hbz)
    replace HW := Lib.hid (HW.out.trans (hbz.mono HW.out.size))
    rw [← hwz, ← hZ] at hz9
    have HZB := Lib.hid hz9
    rw [← hwz] at HC1
    rw [← hwz] at HW ⊢
    rw [← hZ]
    clear hwz hZ hbz hw9 hz9
    refine hK.out _ _ (by exact HKS.out _ HW.out) (fun hHeld => ?_)
    clear hK K
    (try simp only [pq])
    refine tkO 3 (some 54) (h := fun K hK => ?_)
    go_simp
    go_at_call 13
    (with_reducible refine (HOC.out _ _ (by exact HW.out) HC1.out).mono ?_)
    rintro r wb ⟨z, rfl, hz, hb⟩
    have HZV : Hid (VAt (fun g => g ≠ Z) wb CT z) := hz.weak fun g hg => by have := (Array.getElem?_eq_some_iff.1 HZB.out).1; omega
    replace HZB := Lib.hid ((hb.block _ (Array.getElem?_eq_some_iff.1 HZB.out).1).trans HZB.out)
    replace HW := Lib.hid (HW.out.trans (hb.mono HW.out.size))
    clear hb hz
    dsimp only
    refine hK.out _ _ (by exact HKS.out _ HW.out) (fun hHeld => ?_)
    clear hK K
    (try simp only [pq])
    refine tkL 4 50 (h := ?_)
    refine tkP 6 56 (h := ?_)
    (try simp only [pq])
    refine tkL 5 55 (h := ?_)
    (try simp only [pq])
    refine tkU 8 none (h := fun K hK => ?_)
    refine st_agg_wp 35 _ _ rfl Z (celC z) rfl rfl 35 #[.int .i64 0, .int .i64 0, .string ⟨#[]⟩, .pointer none] HZB.out val_size rfl (celC_one z) ?_
    intro wS hS kS
    refine hK.out _ _ ?_
    clear hK K
    (try simp only [pq])
    refine tkU 9 (some 14) (h := fun K hK => ?_)
    go_simp
    refine hK.out _ _ ?_
    clear hK K
    (try simp only [pq])
    refine wpAnyT_done (by kernel_rfl) ?_ _
    exact REST Z wS c1 z ⟨hS, (HZV.out.imp (Kq.only kS fun h => h rfl) fun g _ _ => trivial), HW.out.trans (kS.below HZW.out)⟩
  ·go_simp
   have hbz := Below.newly' wg (.cells #[.int .i64 0, .int .i64 0, .string ⟨#[]⟩, .pointer none] 35)
   have hz9 := heap_alloc_last wg (.cells #[.int .i64 0, .int .i64 0, .string ⟨#[]⟩, .pointer none] 35)
   have hw9 := HW.out.size
   obtain ⟨Z, hZ⟩ : ∃ Z, Z = wg.heap.size := ⟨_, rfl⟩
   obtain ⟨wz, hwz⟩ : ∃ wz, wz = wg.alloc (.cells #[.int .i64 0, .int .i64 0, .string ⟨#[]⟩, .pointer none] 35) := ⟨_, rfl⟩
   have HZW : Hid (w5.heap.size ≤ Z) := by show _ ≤ _; rw [hZ]; exact hw9
   replace HW := Lib.hid (HW.out.trans (hbz.mono HW.out.size))
   rw [← hwz, ← hZ] at hz9
   have HZB := Lib.hid hz9
   rw [← hwz] at HW ⊢
   rw [← hZ]
   clear hwz hZ hbz hw9 hz9
   refine hK.out _ _ (by exact HKS.out _ HW.out) (fun hHeld => ?_)
   clear hK K
   (try simp only [pq])
   refine tkO 2 (some 53) (h := fun K hK => ?_)
   go_simp
   go_at_call 21
   (with_reducible refine (HTR.out _ (by exact HW.out)).mono ?_)
   rintro r wa ⟨c1, rfl, hc, hb⟩
   have HC1 := Lib.hid hc
   replace HZB := Lib.hid ((hb.block _ (Array.getElem?_eq_some_iff.1 HZB.out).1).trans HZB.out)
   replace HW := Lib.hid (HW.out.trans (hb.mono HW.out.size))
   clear hb hc
   dsimp only
   refine hK.out _ _ (by exact HKS.out _ HW.out) (fun hHeld => ?_)
   clear hK K
   (try simp only [pq])
   refine tkO 3 (some 54) (h := fun K hK => ?_)
   go_simp
   go_at_call 13
   (with_reducible refine (HOC.out _ _ (by exact HW.out) HC1.out).mono ?_)
   rintro r wb ⟨z, rfl, hz, hb⟩
   have HZV : Hid (VAt (fun g => g ≠ Z) wb CT z) := hz.weak fun g hg => by have := (Array.getElem?_eq_some_iff.1 HZB.out).1; omega
   replace HZB := Lib.hid ((hb.block _ (Array.getElem?_eq_some_iff.1 HZB.out).1).trans HZB.out)
   replace HW := Lib.hid (HW.out.trans (hb.mono HW.out.size))
   clear hb hz
   dsimp only
   refine hK.out _ _ (by exact HKS.out _ HW.out) (fun hHeld => ?_)
   clear hK K
   (try simp only [pq])
   refine tkL 4 50 (h := ?_)
   refine tkP 6 56 (h := ?_)
   (try simp only [pq])
   refine tkL 5 55 (h := ?_)
   (try simp only [pq])
   refine tkU 8 none (h := fun K hK => ?_)
   refine st_agg_wp 35 _ _ rfl Z (celC z) rfl rfl 35 #[.int .i64 0, .int .i64 0, .string ⟨#[]⟩, .pointer none] HZB.out val_size rfl (celC_one z) ?_
   intro wS hS kS
   refine hK.out _ _ ?_
   clear hK K
   (try simp only [pq])
   refine tkU 9 (some 14) (h := fun K hK => ?_)
   go_simp
   refine hK.out _ _ ?_
   clear hK K
   (try simp only [pq])
   refine wpAnyT_done (by kernel_rfl) ?_ _
   exact REST Z wS c1 z ⟨hS, (HZV.out.imp (Kq.only kS fun h => h rfl) fun g _ _ => trivial), HW.out.trans (kS.below HZW.out)⟩
 rintro U w7 c2 u ⟨hu7, huv7, hb7⟩
 have HX7 := ((hb7.block _ (Array.getElem?_eq_some_iff.1 HX5.out).1).trans HX5.out)
 have HZ7 := ((hb7.block _ (Array.getElem?_eq_some_iff.1 HZ5.out).1).trans HZ5.out)
 have HY7 := HY5.out.later hb7
 have HZV7 := HZV5.out.later hb7
 have HB7 := Lib.hid (HB5.out.trans (hb7.mono HB5.out.size))
 obtain ⟨kk, hkk⟩ : ∃ kk, kk = kB CT := ⟨_, rfl⟩
 have qt : (kk.toList == kk.toList) = true := beq_self_eq_true _
 have hky : ∀ c, VAt (fun _ => True) w7 CT c → ∀ W, Below w7.heap.size w7 W → Calls Tryz.prog 28 #[.agg (celC c)] W fun r w' => r = .returned (.string kk) ∧ Below W.heap.size W w' := fun c hc W hb => by rw [hkk]; exact va_Key W CT c HONE.out.2.2.2.2.2 (hc.later hb) (HT1.out W (HB7.out.trans (hb.mono HB7.out.size)))
 have hty : ∀ c, VAt (fun _ => True) w7 CT c → ∀ W, Below w7.heap.size w7 W → Calls Tryz.prog 21 #[.agg (celC c)] W fun r w' => ∃ d, r = .returned (.agg d) ∧ TrV w' CT (.agg d) ∧ Below W.heap.size W w' := fun c hc W hb =>
  (va_Tree CT W c HONE.out.2.2.2.2.2 (hc.later hb) (HT1.out W (HB7.out.trans (hb.mono HB7.out.size)))).mono fun r w' ⟨c, h1, _, h2, h3⟩ => ⟨c, h1, h2.trv, h3⟩
 have HKX := Lib.hid (hky y HY7)
 have HKZ := Lib.hid (hky z HZV7)
 have HKU := Lib.hid (hky u huv7)
 have HTX := Lib.hid (hty y HY7)
 have HTZ := Lib.hid (hty z HZV7)
 have HTU := Lib.hid (hty u huv7)
 have HSM : Hid (∀ W c d, TrV W CT (.agg c) → TrV W CT (.agg d) → Calls Tryz.prog 20 #[.agg c, .agg d] W fun r w' => r = .returned (.bool true) ∧ Below W.heap.size W w') := fun W c d hc hd => by
  have h := rf_Same CT CT _ _ W hc hd
  rw [(same_iff CT CT).2 rfl] at h
  exact h
 clear HW HKS HWG
 have HKS : Hid (∀ V, Below w7.heap.size w7 V → V.heap[X]? = some (.cells (celC y) 35 (0, 0)) ∧ V.heap[Z]? = some (.cells (celC z) 35 (0, 0)) ∧ V.heap[U]? = some (.cells (celC u) 35 (0, 0))) := fun V hb => ⟨((hb.block _ (Array.getElem?_eq_some_iff.1 HX7).1).trans HX7), ((hb.block _ (Array.getElem?_eq_some_iff.1 HZ7).1).trans HZ7), ((hb.block _ (Array.getElem?_eq_some_iff.1 hu7).1).trans hu7)⟩
 have HW : Hid (Below w7.heap.size w7 w7.drew) := drawn_below w7
 clear hu7 huv7 hb7 HX7 HZ7 HY7 HZV7 hky hty HTR HOC HX5 HY5 HZ5 HZV5 HB5 hkk
 go_upto_region 6 with fail
 refine wp_region_T (S := (fun V => V.heap[X]? = some (.cells (celC y) 35 (0, 0)) ∧ V.heap[Z]? = some (.cells (celC z) 35 (0, 0)) ∧ V.heap[U]? = some (.cells (celC u) 35 (0, 0)))) [] (by kernel_rfl) (by exact HKS.out _ HW.out) (fun hHeld => ?_)
 refine tkL 0 57 (h := ?_)
 refine tkL 1 58 (h := ?_)
 (try simp only [pq])
 refine tkL 2 59 (h := ?_)
 refine tkL 3 60 (h := ?_)
 (try simp only [pq])
 refine tkL 4 61 (h := ?_)
 refine tkL 5 62 (h := ?_)
 (try simp only [pq])
 refine tkL 6 63 (h := ?_)
 refine tkL 7 64 (h := ?_)
 (try simp only [pq])
 refine tkL 8 65 (h := ?_)
 refine tkL 9 66 (h := ?_)
 (try simp only [pq])
 refine tkL 10 67 (h := ?_)
 refine tyL 11 68 (hy := yieldsIf_load_row (by rfl) 35 _ rfl X rfl (celC y) 35 (0, 0) _ (fun w hw => hw.1) Tryz.underlying35 rfl (by exact val_size)) (h := ?_)
 (try simp only [pq])
 refine tyL 13 70 (hy := yieldsIf_load_row (by rfl) 35 _ rfl Z rfl (celC z) 35 (0, 0) _ (fun w hw => hw.2.1) Tryz.underlying35 rfl (by exact val_size)) (h := ?_)
 (try simp only [pq])
 refine tkO 12 (some 69) (h := fun K hK => ?_)
 go_simp
 go_at_call 28
 (with_reducible refine (HKX.out _ (by exact HW.out)).mono ?_)
 rintro r w8a ⟨rfl, hb⟩
 replace HW := Lib.hid (HW.out.trans (hb.mono HW.out.size))
 clear hb
 dsimp only
 refine hK.out _ _ (by exact HKS.out _ HW.out) (fun hHeld => ?_)
 clear hK K
 (try simp only [pq])
 refine tkO 14 (some 71) (h := fun K hK => ?_)
 go_simp
 go_at_call 28
 (with_reducible refine (HKZ.out _ (by exact HW.out)).mono ?_)
 rintro r w8b ⟨rfl, hb⟩
 replace HW := Lib.hid (HW.out.trans (hb.mono HW.out.size))
 clear hb
 dsimp only
 refine hK.out _ _ (by exact HKS.out _ HW.out) (fun hHeld => ?_)
 clear hK K
 (try simp only [pq])
 refine wpAnyT_takeL (i := 15) (oi := ⟨some 72, _, _, _, _, _⟩) (v := (.bool true)) rfl (by kernel_rfl) (by kernel_rfl) (by kernel_rfl) (by kernel_rfl) (fun _ _ _ h => h) (Or.inl ⟨by rfl, ?hg19_15⟩) (by assumption) ?rg19_15
 case hg19_15 => (intro w hSw; (try dsimp only at hSw); go_simp; first | done | rw [qt] | simp [qt])
 (try simp only [pq])
 refine tkL 16 73 (h := ?_)
 refine tkL 17 74 (h := ?_)
 (try simp only [pq])
 refine tyL 18 75 (hy := yieldsIf_load_row (by rfl) 35 _ rfl X rfl (celC y) 35 (0, 0) _ (fun w hw => hw.1) Tryz.underlying35 rfl (by exact val_size)) (h := ?_)
 refine tyL 20 77 (hy := yieldsIf_load_row (by rfl) 35 _ rfl U rfl (celC u) 35 (0, 0) _ (fun w hw => hw.2.2) Tryz.underlying35 rfl (by exact val_size)) (h := ?_)
 (try simp only [pq])
 refine tkO 19 (some 76) (h := fun K hK => ?_)
 go_simp
 go_at_call 28
 (with_reducible refine (HKX.out _ (by exact HW.out)).mono ?_)
 rintro r w9a ⟨rfl, hb⟩
 replace HW := Lib.hid (HW.out.trans (hb.mono HW.out.size))
 clear hb
 dsimp only
 refine hK.out _ _ (by exact HKS.out _ HW.out) (fun hHeld => ?_)
 clear hK K
 (try simp only [pq])
 refine tkO 21 (some 78) (h := fun K hK => ?_)
 go_simp
 go_at_call 28
 (with_reducible refine (HKU.out _ (by exact HW.out)).mono ?_)
 rintro r w9b ⟨rfl, hb⟩
 replace HW := Lib.hid (HW.out.trans (hb.mono HW.out.size))
 clear hb
 dsimp only
 refine hK.out _ _ (by exact HKS.out _ HW.out) (fun hHeld => ?_)
 clear hK K
 (try simp only [pq])
 refine wpAnyT_takeL (i := 22) (oi := ⟨some 79, _, _, _, _, _⟩) (v := (.bool true)) rfl (by kernel_rfl) (by kernel_rfl) (by kernel_rfl) (by kernel_rfl) (fun _ _ _ h => h) (Or.inl ⟨by rfl, ?hg19_22⟩) (by assumption) ?rg19_22
 case hg19_22 => (intro w hSw; (try dsimp only at hSw); go_simp; first | done | rw [qt] | simp [qt])
 (try simp only [pq])
 refine tkL 23 80 (h := ?_)
 refine tkL 24 81 (h := ?_)
 (try simp only [pq])
 refine tyL 25 82 (hy := yieldsIf_load_row (by rfl) 35 _ rfl X rfl (celC y) 35 (0, 0) _ (fun w hw => hw.1) Tryz.underlying35 rfl (by exact val_size)) (h := ?_)
 refine tyL 27 84 (hy := yieldsIf_load_row (by rfl) 35 _ rfl Z rfl (celC z) 35 (0, 0) _ (fun w hw => hw.2.1) Tryz.underlying35 rfl (by exact val_size)) (h := ?_)
 (try simp only [pq])
 refine tkO 26 (some 83) (h := fun K hK => ?_)
 go_simp
 go_at_call 21
 (with_reducible refine (HTX.out _ (by exact HW.out)).mono ?_)
 rintro r wxa ⟨c26, rfl, hc, hb⟩
 have Hc26 := Lib.hid hc
 replace HW := Lib.hid (HW.out.trans (hb.mono HW.out.size))
 clear hb hc
 dsimp only
 refine hK.out _ _ (by exact HKS.out _ HW.out) (fun hHeld => ?_)
 clear hK K
 (try simp only [pq])
 refine tkO 28 (some 85) (h := fun K hK => ?_)
 go_simp
 go_at_call 21
 (with_reducible refine (HTZ.out _ (by exact HW.out)).mono ?_)
 rintro r wxb ⟨c28, rfl, hc, hb⟩
 have Hc28 := Lib.hid hc
 replace Hc26 := Lib.hid (Hc26.out.later hb)
 replace HW := Lib.hid (HW.out.trans (hb.mono HW.out.size))
 clear hb hc
 dsimp only
 refine hK.out _ _ (by exact HKS.out _ HW.out) (fun hHeld => ?_)
 clear hK K
 (try simp only [pq])
 refine tkO 29 (some 86) (h := fun K hK => ?_)
 go_simp
 go_at_call 20
 (with_reducible refine (HSM.out _ _ _ Hc26.out Hc28.out).mono ?_)
 rintro r wxc ⟨rfl, hb⟩
 replace HW := Lib.hid (HW.out.trans (hb.mono HW.out.size))
 clear hb Hc26 Hc28
 dsimp only
 refine hK.out _ _ (by exact HKS.out _ HW.out) (fun hHeld => ?_)
 clear hK K
 (try simp only [pq])
 refine tkL 30 87 (h := ?_)
 refine tkL 31 88 (h := ?_)
 (try simp only [pq])
 refine tyL 32 89 (hy := yieldsIf_load_row (by rfl) 35 _ rfl X rfl (celC y) 35 (0, 0) _ (fun w hw => hw.1) Tryz.underlying35 rfl (by exact val_size)) (h := ?_)
 refine tyL 34 91 (hy := yieldsIf_load_row (by rfl) 35 _ rfl U rfl (celC u) 35 (0, 0) _ (fun w hw => hw.2.2) Tryz.underlying35 rfl (by exact val_size)) (h := ?_)
 (try simp only [pq])
 refine tkO 33 (some 90) (h := fun K hK => ?_)
 go_simp
 go_at_call 21
 (with_reducible refine (HTX.out _ (by exact HW.out)).mono ?_)
 rintro r wya ⟨c33, rfl, hc, hb⟩
 have Hc33 := Lib.hid hc
 replace HW := Lib.hid (HW.out.trans (hb.mono HW.out.size))
 clear hb hc
 dsimp only
 refine hK.out _ _ (by exact HKS.out _ HW.out) (fun hHeld => ?_)
 clear hK K
 (try simp only [pq])
 refine tkO 35 (some 92) (h := fun K hK => ?_)
 go_simp
 go_at_call 21
 (with_reducible refine (HTU.out _ (by exact HW.out)).mono ?_)
 rintro r wyb ⟨c35, rfl, hc, hb⟩
 have Hc35 := Lib.hid hc
 replace Hc33 := Lib.hid (Hc33.out.later hb)
 replace HW := Lib.hid (HW.out.trans (hb.mono HW.out.size))
 clear hb hc
 dsimp only
 refine hK.out _ _ (by exact HKS.out _ HW.out) (fun hHeld => ?_)
 clear hK K
 (try simp only [pq])
 refine tkO 36 (some 93) (h := fun K hK => ?_)
 go_simp
 go_at_call 20
 (with_reducible refine (HSM.out _ _ _ Hc33.out Hc35.out).mono ?_)
 rintro r wyc ⟨rfl, hb⟩
 replace HW := Lib.hid (HW.out.trans (hb.mono HW.out.size))
 clear hb Hc33 Hc35
 dsimp only
 refine hK.out _ _ (by exact HKS.out _ HW.out) (fun hHeld => ?_)
 clear hK K
 (try simp only [pq])
 refine tkL 37 94 (h := ?_)
 refine tkL 38 8 (h := ?_)
 (try simp only [pq])
 refine wpAnyT_done (by kernel_rfl) ?_ _
 clear hHeld
 go_wp2_with fail
 have hb := HB1.out.trans ((HB7.out.trans (HW.out.mono HB7.out.size)).mono HB1.out.size)
 go_ret
 exact ⟨rfl, hb⟩
end Go.Proofs.YtpodmgihlomglaaGreatDoor
