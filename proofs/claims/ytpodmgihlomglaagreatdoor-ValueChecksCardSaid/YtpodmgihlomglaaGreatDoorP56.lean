import Derived.Test.YtpodmgihlomglaaGreatDoorP39
import Derived.Test.YtpodmgihlomglaaGreatDoorP55
import Derived.Test.YtpodmgihlomglaaGreatDoorP53
namespace Go.Proofs.YtpodmgihlomglaaGreatDoor
open Go.RowKit
set_option maxRecDepth 1000000
set_option linter.unusedSimpArgs false
set_option maxHeartbeats 8000000 in
theorem valueChecks_walk (s : Nat) (bb : Int) (v : Value) (a : Tr) (hs : s < 18446744073709551616) (w : World) (hv : TrV w a v) (hT : Tab6 w) :
  Calls Tryz.prog 3 #[.agg #[.int .u64 (s : Int), .int .i64 bb], v] w fun e w' => e = .returned (.bool true) ∧ Below w.heap.size w w' := by
 obtain ⟨ak, an, att, aa, al, ac, ad, am, ae, rfl⟩ := tr_shape hv
 have hra := trV_rng a _ hv
 obtain ⟨w1, hw1⟩ : ∃ w1, (w.alloc (.cells #[.int .u64 (s : Int), .int .i64 bb] 24)).alloc (.cells (trC ak an att (.slice aa al ac) (.slice ad am ae)) 28) = w1 := ⟨_, rfl⟩
 obtain ⟨hb1, hx1, hx2, hs1⟩ := two_new hw1
 have hv1 := fun W (hb : Below w1.heap.size w1 W) => (hv.later hb1).later hb
 have hT1 := fun W (hb : Below w1.heap.size w1 W) => (hT.below hb1).below hb
 have HCF := Lib.hid (fun W (hb : Below w1.heap.size w1 W) => (kW hb hx1))
 have HTA := Lib.hid (fun W (hb : Below w1.heap.size w1 W) => (kW hb hx2))
 have HLV := Lib.hid (fun W (hb : Below w1.heap.size w1 W) => live11 W (hT1 W hb))
 obtain ⟨sa, hsa⟩ : ∃ sa, sa = (smT a 0 400).2 := ⟨_, rfl⟩
 obtain ⟨ea, hea⟩ : ∃ ea, ea = chkT a := ⟨_, rfl⟩
 have HSA : Hid (∀ W, Below w1.heap.size w1 W → Calls Tryz.prog 12 #[.agg (trC ak an att (.slice aa al ac) (.slice ad am ae)), .int .i64 400] W fun e w' => e = .returned (.bool sa) ∧ Below W.heap.size W w') := fun W hb => by rw [hsa]; exact rf_Small a _ 400 W (hv1 W hb) (by decide) (by decide)
 have HB1 := Lib.hid hb1
 have HW : Hid (Below w1.heap.size w1 w1) := Below.refl _ _
 have HV1 := Lib.hid hv1
 have HT1 := Lib.hid hT1
 have HRN := Lib.hid hra
 have HSAE := Lib.hid hsa
 have HEA := Lib.hid hea
 clear hx1 hx2 hs1 hb1 hv1 hT1 hra hv hT hsa hea
 by_cases c1 : sa = true
 case neg =>
  obtain rfl := Bool.eq_false_iff.2 c1
  clear c1
  go_enter Tryz.func3, Tryz.ntmps3
  go_upto_region 1 with fail
  clear hw1
  go_wp2_with (first
   | (go_at_call 11; (with_reducible refine (HLV.out _ HW.out).mono ?_); rintro r V ⟨rfl, hb⟩; replace HW := Lib.hid (tW HW.out hb); clear hb)
   | (refine ld_if rfl 28 _ rfl (w.heap.size + 1) rfl 28 _ _ _ (HTA.out _ HW.out) Tryz.underlying28 rfl tr_size9 ?_)
   | (go_at_call 12; (with_reducible refine (HSA.out _ HW.out).mono ?_); rintro r V ⟨rfl, hb⟩; replace HW := Lib.hid (tW HW.out hb); clear hb))
  have hb := tW HB1.out HW.out
  go_ret
  exact ⟨rfl, hb⟩
 have HKA0 := Lib.hid (small_ok (HSAE.out.symm.trans c1))
 subst c1
 have HCA : Hid (∀ W, Below w1.heap.size w1 W → Calls Tryz.prog 15 #[.agg (trC ak an att (.slice aa al ac) (.slice ad am ae))] W fun e w' => e = .returned (.int .i64 ea) ∧ Below W.heap.size W w') := fun W hb => by
  rw [HEA.out]
  exact va_Check a _ W (HV1.out W hb) HKA0.out.1 HKA0.out.2.1 (by have := HKA0.out.2.2; omega) (HT1.out W hb)
 have HRC0 : Hid (∀ W, Below w1.heap.size w1 W → Calls Tryz.prog 14 #[.agg (trC ak an att (.slice aa al ac) (.slice ad am ae))] W fun e w' => e = .returned (.int .i64 ea) ∧ Below W.heap.size W w') := fun W hb => by
  rw [HEA.out]
  exact rf_Check a _ W (HV1.out W hb) HKA0.out.1 HKA0.out.2.1
 by_cases c3 : ea = 0
 ·subst c3
  have HOA : Hid (∀ W, Below w1.heap.size w1 W → Calls Tryz.prog 13 #[.agg #[.int .u64 (s : Int), .int .i64 bb], .agg (trC ak an att (.slice aa al ac) (.slice ad am ae))] W fun e w' => ∃ y, e = .returned (.tuple #[.agg (celC y), .int .i64 0]) ∧ VAt (fun _ => True) w' (canT a) y ∧ Below W.heap.size W w') := fun W hb => by
   have h := va_Of a _ W s bb (HV1.out W hb) HKA0.out.1 HKA0.out.2.1 (by have := HKA0.out.2.2; omega) hs (HT1.out W hb)
   rw [← HEA.out, if_pos rfl] at h
   exact h.mono fun e w' ⟨y, h1, h2, h3⟩ => ⟨y, h1, h2.weak fun _ _ => trivial, h3⟩
  have hone := one_can HEA.out.symm HRN.out (by have := HKA0.out.2.2; omega) HKA0.out.2.1
  have HVB := Lib.hid hone.2.2.2.2.2
  have HOK := Lib.hid (chkT_ok.1 HEA.out.symm)
  clear hone
  go_enter Tryz.func3, Tryz.ntmps3
  go_upto_region 1 with fail
  clear hw1
  go_upto_region 3 with (first
   | (go_at_call 11; (with_reducible refine (HLV.out _ HW.out).mono ?_); rintro r V ⟨rfl, hb⟩; replace HW := Lib.hid (tW HW.out hb); clear hb)
   | (refine ld_if rfl 28 _ rfl (w.heap.size + 1) rfl 28 _ _ _ (HTA.out _ HW.out) Tryz.underlying28 rfl tr_size9 ?_)
   | (go_at_call 12; (with_reducible refine (HSA.out _ HW.out).mono ?_); rintro r V ⟨rfl, hb⟩; replace HW := Lib.hid (tW HW.out hb); clear hb))
  go_upto_region 4 with (first
   | (refine ld_if rfl 24 _ rfl w.heap.size rfl 24 _ _ _ (HCF.out _ HW.out) Tryz.underlying24 rfl conf_size9 ?_)
   | (refine ld_if rfl 28 _ rfl (w.heap.size + 1) rfl 28 _ _ _ (HTA.out _ HW.out) Tryz.underlying28 rfl tr_size9 ?_)
   | (go_at_call 13; (with_reducible refine (HOA.out _ HW.out).mono ?_); rintro r w2 ⟨y, rfl, hy, hb⟩; have HY := Lib.hid hy; clear hy; replace HW := Lib.hid (tW HW.out hb); clear hb)
   | (refine st_agg rfl 35 _ _ rfl w2.heap.size (celC y) rfl rfl 35 #[.int .i64 0, .int .i64 0, .string ⟨#[]⟩, .pointer none] (heap_alloc_last _ _) val_size rfl (celC_one y) ?_; intro w3 h3 k3))
  have hb3 : Below w2.heap.size w2 w3 := (Below.newly' _ _).trans (k3.below (Nat.le_refl _))
  have HX3 := Lib.hid h3
  have HY3 := Lib.hid (HY.out.later hb3)
  have HB3 := Lib.hid (tW HW.out hb3)
  obtain ⟨X, hX⟩ : ∃ X, X = w2.heap.size := ⟨_, rfl⟩
  rw [← hX] at HX3 ⊢
  have HXX := Lib.hid (fun W (hb : Below w3.heap.size w3 W) => (kW hb HX3.out))
  have HTA3 := Lib.hid (fun W (hb : Below w3.heap.size w3 W) => HTA.out W (tW HB3.out hb))
  have HRC := Lib.hid (fun W (hb : Below w3.heap.size w3 W) => HRC0.out W (tW HB3.out hb))
  have HCK := Lib.hid (fun W (hb : Below w3.heap.size w3 W) => HCA.out W (tW HB3.out hb))
  clear hb3 h3 k3 hX HY HW HOA HSA HLV
  have HW : Hid (Below w3.heap.size w3 w3) := Below.refl _ _
  have HCN : Hid (∀ W, Below w3.heap.size w3 W → Calls Tryz.prog 17 #[.agg (trC ak an att (.slice aa al ac) (.slice ad am ae))] W fun r w' => ∃ c, r = .returned (.agg c) ∧ TrV w' (canT a) (.agg c) ∧ Below W.heap.size W w') := fun W hb =>
   (rf_Canon a _ W (HV1.out W (tW HB3.out hb)) HOK.out.1 HOK.out.2.1 HOK.out.2.2 HKA0.out.2.1).mono fun r w' ⟨c, h1, _, h2, h3⟩ => ⟨c, h1, h2.trv, h3⟩
  have HSM : Hid (∀ W c, Below w3.heap.size w3 W → TrV W (canT a) (.agg c) → Calls Tryz.prog 16 #[.agg (celC y), .agg c] W fun r w' => r = .returned (.bool true) ∧ Below W.heap.size W w') := fun W c hb hc =>
   lw_same W (canT a) y _ HVB.out (HY3.out.later hb) hc (HT1.out W (tW HB3.out hb))
  have HKS : Hid (∀ V, Below w3.heap.size w3 V → V.heap[X]? = some (.cells (celC y) 35 (0, 0)) ∧ V.heap[w.heap.size + 1]? = some (.cells (trC ak an att (.slice aa al ac) (.slice ad am ae)) 28 (0, 0))) := fun V hb => ⟨HXX.out _ hb, HTA3.out _ hb⟩
  go_upto_region 9 with (first
   | (refine ld_if rfl 28 _ rfl (w.heap.size + 1) rfl 28 _ _ _ (HTA3.out _ HW.out) Tryz.underlying28 rfl tr_size9 ?_)
   | (go_at_call 14; (with_reducible refine (HRC.out _ HW.out).mono ?_); rintro r w4 ⟨rfl, hb⟩; replace HW := Lib.hid (tW HW.out hb); clear hb)
   | (go_at_call 15; (with_reducible refine (HCK.out _ HW.out).mono ?_); rintro r w5 ⟨rfl, hb⟩; replace HW := Lib.hid (tW HW.out hb); clear hb)
)
  have HBD := HW
  clear HW
  have HW : Hid (Below w3.heap.size w3 w5.drew) := HBD.out.trans ((drawn_below w5).mono HBD.out.size)
  clear HBD
  refine wp_region_T (S := (fun V => V.heap[X]? = some (.cells (celC y) 35 (0, 0)) ∧ V.heap[w.heap.size + 1]? = some (.cells (trC ak an att (.slice aa al ac) (.slice ad am ae)) 28 (0, 0)))) [] (by kernel_rfl) (by exact HKS.out _ HW.out) (fun hHeld => ?_)
  refine tyL 0 38 (hy := yieldsIf_load_row (by rfl) 35 _ rfl X rfl (celC y) 35 (0, 0) _ (fun w hw => hw.1) Tryz.underlying35 rfl (by exact val_size)) (h := ?_)
  refine tyL 1 39 (hy := yieldsIf_load_row (by rfl) 28 _ rfl (w.heap.size + 1) rfl (trC ak an att (.slice aa al ac) (.slice ad am ae)) 28 (0, 0) _ (fun w hw => hw.2) Tryz.underlying28 rfl (by exact tr_size9)) (h := ?_)
  (try simp only [pq])
  refine tkO 2 (some 40) (h := fun K hK => ?_)
  go_simp
  go_at_call 17
  (with_reducible refine (HCN.out _ (by exact HW.out)).mono ?_)
  rintro r wa ⟨c, rfl, hc, hb⟩
  have HC := Lib.hid hc
  replace HW := Lib.hid (tW HW.out hb)
  clear hb hc
  dsimp only
  refine hK.out _ _ (by exact HKS.out _ HW.out) (fun hHeld => ?_)
  clear hK K
  (try simp only [pq])
  refine tkO 3 (some 41) (h := fun K hK => ?_)
  go_simp
  go_at_call 16
  (with_reducible refine (HSM.out _ _ (by exact HW.out) HC.out).mono ?_)
  rintro r wb ⟨rfl, hb⟩
  replace HW := Lib.hid (tW HW.out hb)
  clear hb
  dsimp only
  refine hK.out _ _ (by exact HKS.out _ HW.out) (fun hHeld => ?_)
  clear hK K
  (try simp only [pq])
  refine tkL 4 4 (h := ?_)
  (try simp only [pq])
  refine wpAnyT_done (by kernel_rfl) ?_ _
  clear hHeld
  go_wp2_with fail
  have hb := HB1.out.trans ((tW HB3.out HW.out).mono HB1.out.size)
  go_ret
  exact ⟨rfl, hb⟩
 ·have HOA : Hid (∀ W, Below w1.heap.size w1 W → Calls Tryz.prog 13 #[.agg #[.int .u64 (s : Int), .int .i64 bb], .agg (trC ak an att (.slice aa al ac) (.slice ad am ae))] W fun e w' => ∃ y, e = .returned (.tuple #[.agg (celC y), .int .i64 ea]) ∧ VAt (fun _ => True) w' nullT y ∧ Below W.heap.size W w') := fun W hb => by
   have h := va_Of a _ W s bb (HV1.out W hb) HKA0.out.1 HKA0.out.2.1 (by have := HKA0.out.2.2; omega) hs (HT1.out W hb)
   rw [← HEA.out, if_neg c3] at h
   exact h.mono fun e w' ⟨y, h1, h2, h3⟩ => ⟨y, h1, h2.weak fun _ _ => trivial, h3⟩
  go_enter Tryz.func3, Tryz.ntmps3
  go_upto_region 1 with fail
  clear hw1
  go_upto_region 3 with (first
   | (go_at_call 11; (with_reducible refine (HLV.out _ HW.out).mono ?_); rintro r V ⟨rfl, hb⟩; replace HW := Lib.hid (tW HW.out hb); clear hb)
   | (refine ld_if rfl 28 _ rfl (w.heap.size + 1) rfl 28 _ _ _ (HTA.out _ HW.out) Tryz.underlying28 rfl tr_size9 ?_)
   | (go_at_call 12; (with_reducible refine (HSA.out _ HW.out).mono ?_); rintro r V ⟨rfl, hb⟩; replace HW := Lib.hid (tW HW.out hb); clear hb))
  go_upto_region 4 with (first
   | (refine ld_if rfl 24 _ rfl w.heap.size rfl 24 _ _ _ (HCF.out _ HW.out) Tryz.underlying24 rfl conf_size9 ?_)
   | (refine ld_if rfl 28 _ rfl (w.heap.size + 1) rfl 28 _ _ _ (HTA.out _ HW.out) Tryz.underlying28 rfl tr_size9 ?_)
   | (go_at_call 13; (with_reducible refine (HOA.out _ HW.out).mono ?_); rintro r w2 ⟨y, rfl, hy, hb⟩; have HY := Lib.hid hy; clear hy; replace HW := Lib.hid (tW HW.out hb); clear hb)
   | (refine st_agg rfl 35 _ _ rfl w2.heap.size (celC y) rfl rfl 35 #[.int .i64 0, .int .i64 0, .string ⟨#[]⟩, .pointer none] (heap_alloc_last _ _) val_size rfl (celC_one y) ?_; intro w3 h3 k3))
  have hb3 : Below w2.heap.size w2 w3 := (Below.newly' _ _).trans (k3.below (Nat.le_refl _))
  have HX3 := Lib.hid h3
  have HY3 := Lib.hid (HY.out.later hb3)
  have HB3 := Lib.hid (tW HW.out hb3)
  obtain ⟨X, hX⟩ : ∃ X, X = w2.heap.size := ⟨_, rfl⟩
  rw [← hX] at HX3 ⊢
  have HXX := Lib.hid (fun W (hb : Below w3.heap.size w3 W) => (kW hb HX3.out))
  have HTA3 := Lib.hid (fun W (hb : Below w3.heap.size w3 W) => HTA.out W (tW HB3.out hb))
  have HRC := Lib.hid (fun W (hb : Below w3.heap.size w3 W) => HRC0.out W (tW HB3.out hb))
  have HCK := Lib.hid (fun W (hb : Below w3.heap.size w3 W) => HCA.out W (tW HB3.out hb))
  clear hb3 h3 k3 hX HY HW HOA HSA HLV
  have HW : Hid (Below w3.heap.size w3 w3) := Below.refl _ _
  have HSM : Hid (∀ W, Below w3.heap.size w3 W → Calls Tryz.prog 16 #[.agg (celC y), .agg (trC 0 0 ⟨#[]⟩ (.slice none 0 0) (.slice none 0 0))] W fun r w' => r = .returned (.bool true) ∧ Below W.heap.size W w') := fun W hb =>
   lw_same W nullT y _ valB_null (HY3.out.later hb) (trV_leaf W (by decide) (by decide)) (HT1.out W (tW HB3.out hb))
  go_wp2_with (first
   | (refine ld_if rfl 28 _ rfl (w.heap.size + 1) rfl 28 _ _ _ (HTA3.out _ HW.out) Tryz.underlying28 rfl tr_size9 ?_)
   | (go_at_call 14; (with_reducible refine (HRC.out _ HW.out).mono ?_); rintro r w4 ⟨rfl, hb⟩; replace HW := Lib.hid (tW HW.out hb); clear hb)
   | (go_at_call 15; (with_reducible refine (HCK.out _ HW.out).mono ?_); rintro r w5 ⟨rfl, hb⟩; replace HW := Lib.hid (tW HW.out hb); clear hb)
   | (refine ld_if rfl 35 _ rfl X rfl 35 _ _ _ (HXX.out _ HW.out) Tryz.underlying35 rfl val_size ?_)
   | (go_at_call 16; (with_reducible refine (HSM.out _ HW.out).mono ?_); rintro r w6 ⟨rfl, hb⟩; replace HW := Lib.hid (tW HW.out hb); clear hb))
  have hb := HB1.out.trans ((tW HB3.out HW.out).mono HB1.out.size)
  go_ret
  exact ⟨rfl, hb⟩
end Go.Proofs.YtpodmgihlomglaaGreatDoor
