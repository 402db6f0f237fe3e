import Derived.Test.YtpodmgihlomglaaGreatDoorP39
import Derived.Test.YtpodmgihlomglaaGreatDoorP60
import Derived.Test.YtpodmgihlomglaaGreatDoorP53
namespace Go.Proofs.YtpodmgihlomglaaGreatDoor
open Go.RowKit
set_option maxRecDepth 1000000
set_option linter.unusedSimpArgs false
theorem stp_cut {B : Nat} {w : World} {v : Value} {st : List Stp} (h : RowsOwn B 44 3 v (st.map stpC) w) : CutAt (fun _ => True) w 3 v ((st.map stpC).flatMap Array.toList) st.length := by
 have h1 := (lsT_cut h.lsT).weak (S' := fun _ => True) fun _ _ => trivial
 rw [List.length_map] at h1
 exact h1
theorem ld_stp {ops : Array Oper} {rest : List Oper} {o : Oper} {a : Act} {w : World} {Q : Exit → Act → World → Prop} (hwd : Region.wanted o (yielded ops a.tmps) = true) (y : Operand) (ho : o.op = .load 44 y)
  (b k : Nat) (hx : a.eval y = .pointer (some ⟨b, k, none⟩)) (cs : Array Value) (hR : w.rangeAt b k cs.toList) (hs : cs.size = 3)
  (h : wpList Tryz.prog ops Q rest (a.put o.dst (.agg cs)) w) : wpList Tryz.prog ops Q (o :: rest) a w :=
 wpList_step fun _ hK => by
  rw [if_pos hwd]
  exact wp_load_mid 44 y ho b k hx _ _ hR Tryz.underlying44 rfl (by rw [step_size, Array.length_toList, hs]) (hK _ _ h)
theorem tr_item {w : World} {a : Tr} {k n : Int} {t : ByteArray} {x : Value} {ad : Option Addr} {N cap : Nat} (h : TrV w a (.agg (trC k n t x (.slice ad N cap)))) : N = a.xs.length ∧ ∃ b o, (0 < N → ad = some ⟨b, o, none⟩) ∧ ∀ j (hj : j < a.xs.length), ∃ cs : Array Value, w.rangeAt b (o + j * 5) cs.toList ∧ TrV w a.xs[j] (.agg cs) := by
 obtain ⟨k', n', t', ks, xs⟩ := a
 obtain ⟨kv, xv, e, _, _, _, _, ad', cap', b, o, rfl, h1, hmax, h2⟩ := h.open'
 simp only [Value.agg.injEq] at e
 have e4 := congrArg (fun c : Array Value => c[4]?) e
 simp [trC] at e4
 obtain ⟨rfl, rfl, rfl⟩ := e4
 exact ⟨rfl, b, o, h1, fun j hj => by
  obtain ⟨cs, c1, c2, c3⟩ := h2 j hj
  exact ⟨cs, fun i v hv => c2 i v hv, c3⟩⟩
theorem valB_getT {a : Tr} (h : ValB a) {s i : Int} {u : ByteArray} : ValB (getT a s i u).1 := by
 unfold getT
 split
 ·exact valB_null
 ·split
  ·exact valB_null
  ·rename_i j _
   show ValB ((a.xs[j]?).getD nullT)
   cases hx : a.xs[j]? with
   | none => exact valB_null
   | some x => exact h.part (List.mem_of_getElem? hx)
theorem stp_small {a : Tr} (h : ValB a) {e : Stp} (he : e ∈ stepsT a) : e.2.2.size ≤ 9223372036854775800 := by
 unfold stepsT at he
 split at he
 ·obtain ⟨i, _, rfl⟩ := List.mem_map.1 he
  show (⟨#[]⟩ : ByteArray).size ≤ _
  decide
 ·split at he
  ·obtain ⟨y, hy, rfl⟩ := List.mem_map.1 he
   exact Nat.le_trans ((txtT_iff.1 h.2).2.1 y hy) (by decide)
  ·obtain ⟨y, hy, rfl⟩ := List.mem_map.1 he
   exact Nat.le_trans (h.part hy).kB (by decide)
set_option maxHeartbeats 8000000 in
theorem valueGets_walk (s : Nat) (bb : Int) (v : Value) (a : Tr) (s0 s1 : Int) (u : ByteArray) (hs : s < 18446744073709551616) (_ : InR s0) (_ : InR s1) (hu : u.size ≤ maxLen) (w : World) (hv : TrV w a v) (hT : Tab6 w) :
  Calls Tryz.prog 4 #[.agg #[.int .u64 (s : Int), .int .i64 bb], v, .agg #[.int .i64 s0, .int .i64 s1, .string u]] w fun e w' => e = .returned (.bool true) ∧ Below w.heap.size w w' := by
 obtain ⟨ak, an, att, aa, al, ac, ad, am, ae, rfl⟩ := tr_shape hv
 have hra := trV_rng a _ hv
 obtain ⟨w1, hw1⟩ : ∃ w1, ((w.alloc (.cells #[.int .u64 (s : Int), .int .i64 bb] 24)).alloc (.cells (trC ak an att (.slice aa al ac) (.slice ad am ae)) 28)).alloc (.cells #[.int .i64 s0, .int .i64 s1, .string u] 44) = w1 := ⟨_, rfl⟩
 obtain ⟨hb1, hx1, hx2, hx3, hs1⟩ := three_newV hw1
 have hv1 := fun W (hb : Below w1.heap.size w1 W) => (hv.later hb1).later hb
 have hT1 := fun W (hb : Below w.heap.size w W) => hT.below hb
 have HCF := Lib.hid (fun W (hb : Below w1.heap.size w1 W) => (kW hb hx1))
 have HTA := Lib.hid (fun W (hb : Below w1.heap.size w1 W) => (kW hb hx2))
 have HTS := Lib.hid (fun W (hb : Below w1.heap.size w1 W) => (kW hb hx3))
 have HB1 := Lib.hid hb1
 have HUP := Lib.hid (fun W (hb : Below w1.heap.size w1 W) => tW hb1 hb)
 have HLV := Lib.hid (fun W (hb : Below w1.heap.size w1 W) => live11 W (hT1 W (tW hb1 hb)))
 obtain ⟨sa, hsa⟩ : ∃ sa, sa = (smT a 0 400).2 := ⟨_, rfl⟩
 obtain ⟨ea, hea⟩ : ∃ ea, ea = chkT a := ⟨_, rfl⟩
 have HSA : Hid (∀ W, Below w1.heap.size w1 W → Calls Tryz.prog 12 #[.agg (trC ak an att (.slice aa al ac) (.slice ad am ae)), .int .i64 400] W fun e w' => e = .returned (.bool sa) ∧ Below W.heap.size W w') := fun W hb => by rw [hsa]; exact rf_Small a _ 400 W (hv1 W hb) (by decide) (by decide)
 have HW : Hid (Below w1.heap.size w1 w1) := Below.refl _ _
 have HV1 := Lib.hid hv1
 have HT1 := Lib.hid hT1
 have HRN := Lib.hid hra
 have HSAE := Lib.hid hsa
 have HEA := Lib.hid hea
 have HS1 := Lib.hid hs1
 clear hx1 hx2 hx3 hs1 hb1 hv1 hT1 hra hv hT hsa hea
 by_cases c1 : sa = true
 case neg =>
  obtain rfl := Bool.eq_false_iff.2 c1
  have HRC : Hid True := trivial
  clear c1
  go_enter Tryz.func4, Tryz.ntmps4
  go_upto_region 1 with fail
  clear hw1
  go_wp2_with (first
   | (go_at_call 11; (with_reducible refine (HLV.out _ HW.out).mono ?_); rintro r V ⟨rfl, hb⟩; replace HW := Lib.hid (tW HW.out hb); clear hb)
   | (refine ld_if rfl 28 _ rfl (w.heap.size + 1) rfl 28 _ _ _ (HTA.out _ HW.out) Tryz.underlying28 rfl tr_size9 ?_)
   | (refine ld_if rfl 44 _ rfl (w.heap.size + 2) rfl 44 _ _ _ (HTS.out _ HW.out) Tryz.underlying44 rfl step_size ?_)
   | (go_at_call 12; (with_reducible refine (HSA.out _ HW.out).mono ?_); rintro r V ⟨rfl, hb⟩; replace HW := Lib.hid (tW HW.out hb); clear hb; have cs2 : V.cell? ⟨w.heap.size + 2, 2, none⟩ = some (.string u) := cell_in (HTS.out _ HW.out) rfl)
   | (go_at_call 14; (with_reducible refine (HRC.out _ HW.out).mono ?_); rintro r V ⟨rfl, hb⟩; replace HW := Lib.hid (tW HW.out hb); clear hb))
  have hb := tW HB1.out HW.out
  go_ret
  exact ⟨rfl, hb⟩
 have HKA0 := Lib.hid (small_ok (HSAE.out.symm.trans c1))
 subst c1
 have HRC : Hid (∀ W, Below w1.heap.size w1 W → Calls Tryz.prog 14 #[.agg (trC ak an att (.slice aa al ac) (.slice ad am ae))] W fun e w' => e = .returned (.int .i64 ea) ∧ Below W.heap.size W w') := fun W hb => by
  rw [HEA.out]
  exact rf_Check a _ W (HV1.out W hb) HKA0.out.1 HKA0.out.2.1
 have hu63 : (u.size : Int) ≤ 9223372036854775807 := by unfold maxLen at hu; omega
 by_cases c2 : (3000 : Int) < (u.size : Int)
 ·go_enter Tryz.func4, Tryz.ntmps4
  go_upto_region 1 with fail
  clear hw1
  go_wp2_with (first
   | (go_at_call 11; (with_reducible refine (HLV.out _ HW.out).mono ?_); rintro r V ⟨rfl, hb⟩; replace HW := Lib.hid (tW HW.out hb); clear hb)
   | (refine ld_if rfl 28 _ rfl (w.heap.size + 1) rfl 28 _ _ _ (HTA.out _ HW.out) Tryz.underlying28 rfl tr_size9 ?_)
   | (refine ld_if rfl 44 _ rfl (w.heap.size + 2) rfl 44 _ _ _ (HTS.out _ HW.out) Tryz.underlying44 rfl step_size ?_)
   | (go_at_call 12; (with_reducible refine (HSA.out _ HW.out).mono ?_); rintro r V ⟨rfl, hb⟩; replace HW := Lib.hid (tW HW.out hb); clear hb; have cs2 : V.cell? ⟨w.heap.size + 2, 2, none⟩ = some (.string u) := cell_in (HTS.out _ HW.out) rfl)
   | (go_at_call 14; (with_reducible refine (HRC.out _ HW.out).mono ?_); rintro r V ⟨rfl, hb⟩; replace HW := Lib.hid (tW HW.out hb); clear hb))
  have hb := tW HB1.out HW.out
  go_ret
  exact ⟨rfl, hb⟩
 have d2 : decide ((3000 : Int) < (u.size : Int)) = false := decide_eq_false c2
 have HUS : Hid (u.size ≤ 3000) := by show _ ≤ _; omega
 clear c2
 by_cases c3 : ea = 0
 case neg =>
  go_enter Tryz.func4, Tryz.ntmps4
  go_upto_region 1 with fail
  clear hw1
  go_wp2_with (first
   | (go_at_call 11; (with_reducible refine (HLV.out _ HW.out).mono ?_); rintro r V ⟨rfl, hb⟩; replace HW := Lib.hid (tW HW.out hb); clear hb)
   | (refine ld_if rfl 28 _ rfl (w.heap.size + 1) rfl 28 _ _ _ (HTA.out _ HW.out) Tryz.underlying28 rfl tr_size9 ?_)
   | (refine ld_if rfl 44 _ rfl (w.heap.size + 2) rfl 44 _ _ _ (HTS.out _ HW.out) Tryz.underlying44 rfl step_size ?_)
   | (go_at_call 12; (with_reducible refine (HSA.out _ HW.out).mono ?_); rintro r V ⟨rfl, hb⟩; replace HW := Lib.hid (tW HW.out hb); clear hb; have cs2 : V.cell? ⟨w.heap.size + 2, 2, none⟩ = some (.string u) := cell_in (HTS.out _ HW.out) rfl)
   | (go_at_call 14; (with_reducible refine (HRC.out _ HW.out).mono ?_); rintro r V ⟨rfl, hb⟩; replace HW := Lib.hid (tW HW.out hb); clear hb))
  have hb := tW HB1.out HW.out
  go_ret
  exact ⟨rfl, hb⟩
 subst c3
 obtain ⟨CT, hCT⟩ : ∃ CT, CT = canT a := ⟨_, rfl⟩
 have HCT := Lib.hid hCT
 have hone := one_can HEA.out.symm HRN.out (by have := HKA0.out.2.2; omega) HKA0.out.2.1
 rw [← hCT] at hone
 have HVB := Lib.hid hone.2.2.2.2.2
 have HOK := Lib.hid (chkT_ok.1 HEA.out.symm)
 have HOA : Hid (∀ W, Below w1.heap.size w1 W → Calls Tryz.prog 13 #[.agg #[.int .u64 (s : Int), .int .i64 bb], .agg (trC ak an att (.slice aa al ac) (.slice ad am ae))] W fun e w' => ∃ y, e = .returned (.tuple #[.agg (celC y), .int .i64 0]) ∧ VAt (fun g => w1.heap.size ≤ g) w' CT y ∧ Below W.heap.size W w') := fun W hb => by
  have h := va_Of a _ W s bb (HV1.out W hb) HKA0.out.1 HKA0.out.2.1 (by have := HKA0.out.2.2; omega) hs (HT1.out W (HUP.out W hb))
  rw [← HEA.out, if_pos rfl, ← HCT.out] at h
  exact h.mono fun e w' ⟨y, h1, h2, h3⟩ => ⟨y, h1, h2.weak fun _ hg => Nat.le_trans hb.size hg, h3⟩
 have HCN : Hid (∀ W, Below w1.heap.size w1 W → Calls Tryz.prog 17 #[.agg (trC ak an att (.slice aa al ac) (.slice ad am ae))] W fun r w' => ∃ c, r = .returned (.agg c) ∧ c.size = 5 ∧ TrS (fun g => w1.heap.size ≤ g) w' CT (.agg c) ∧ Below W.heap.size W w') := fun W hb => by
  rw [HCT.out]
  exact (rf_Canon a _ W (HV1.out W hb) HOK.out.1 HOK.out.2.1 HOK.out.2.2 HKA0.out.2.1).mono fun r w' ⟨c, h1, h4, h2, h3⟩ => ⟨c, h1, h4, h2.weak fun _ hg => Nat.le_trans hb.size hg, h3⟩
 clear hCT hone
 go_enter Tryz.func4, Tryz.ntmps4
 go_upto_region 1 with fail
 clear hw1
 go_upto_region 3 with (first
  | (go_at_call 11; (with_reducible refine (HLV.out _ HW.out).mono ?_); rintro r V ⟨rfl, hb⟩; replace HW := Lib.hid (tW HW.out hb); clear hb)
  | (refine ld_if rfl 28 _ rfl (w.heap.size + 1) rfl 28 _ _ _ (HTA.out _ HW.out) Tryz.underlying28 rfl tr_size9 ?_)
  | (refine ld_if rfl 44 _ rfl (w.heap.size + 2) rfl 44 _ _ _ (HTS.out _ HW.out) Tryz.underlying44 rfl step_size ?_)
  | (go_at_call 12; (with_reducible refine (HSA.out _ HW.out).mono ?_); rintro r V ⟨rfl, hb⟩; replace HW := Lib.hid (tW HW.out hb); clear hb; have cs2 : V.cell? ⟨w.heap.size + 2, 2, none⟩ = some (.string u) := cell_in (HTS.out _ HW.out) rfl)
  | (go_at_call 14; (with_reducible refine (HRC.out _ HW.out).mono ?_); rintro r V ⟨rfl, hb⟩; replace HW := Lib.hid (tW HW.out hb); clear hb)
)
 go_upto_region 4 with (first
  | (refine ld_if rfl 24 _ rfl w.heap.size rfl 24 _ _ _ (HCF.out _ HW.out) Tryz.underlying24 rfl conf_size9 ?_)
  | (refine ld_if rfl 28 _ rfl (w.heap.size + 1) rfl 28 _ _ _ (HTA.out _ HW.out) Tryz.underlying28 rfl tr_size9 ?_)
  | (go_at_call 13; (with_reducible refine (HOA.out _ HW.out).mono ?_); rintro r w2 ⟨y, rfl, hy, hb⟩; have HY := Lib.hid hy; clear hy; replace HW := Lib.hid (tW HW.out hb); clear hb)
  | (refine st_agg rfl 35 _ _ rfl w2.heap.size (celC y) rfl rfl 35 #[.int .i64 0, .int .i64 0, .string ⟨#[]⟩, .pointer none] (heap_alloc_last _ _) val_size rfl (celC_one y) ?_; intro w3 h3 k3))
 have hb3 : Below w2.heap.size w2 w3 := (Below.newly' _ _).trans (k3.below (Nat.le_refl _))
 have HX3 := Lib.hid h3
 have HY3 := Lib.hid (HY.out.later hb3)
 have hwx := HW.out.size
 replace HW := Lib.hid (tW HW.out hb3)
 obtain ⟨X, hX⟩ : ∃ X, X = w2.heap.size := ⟨_, rfl⟩
 have HXG : Hid (w1.heap.size ≤ X) := by show _ ≤ _; omega
 rw [← hX] at HX3 ⊢
 clear hb3 h3 k3 hX HY HOA HSA HLV HRC hwx
 go_upto_region 5 with (first
  | (refine ld_if rfl 28 _ rfl (w.heap.size + 1) rfl 28 _ _ _ (HTA.out _ HW.out) Tryz.underlying28 rfl tr_size9 ?_)
  | (go_at_call 17; (with_reducible refine (HCN.out _ HW.out).mono ?_); rintro r w4 ⟨c4, rfl, h45, hc4, hb⟩; have HC4 := Lib.hid hc4; have HX4 := Lib.hid ((kW hb HX3.out)); have HY4 := Lib.hid (HY3.out.later hb); replace HW := Lib.hid (tW HW.out hb); obtain ⟨k4, n4, t4, kd4, kl4, kc4, ad4, N, cap4, rfl⟩ := hc4.trv.cells; clear hb hc4 h45)
  | (refine st_agg rfl 28 _ _ rfl (w.heap.size + 1) (trC k4 n4 t4 (.slice kd4 kl4 kc4) (.slice ad4 N cap4)) rfl rfl 28 _ (HTA.out _ HW.out) tr_size9 rfl (by simp [Value.oneCell']) ?_; intro w5 h5 k5))
 have hx5 := k5.other HX4.out (by have := HXG.out; have := HS1.out; omega)
 have hs5 := k5.other (HTS.out _ HW.out) (by omega)
 have hy5 : VAt (fun _ => True) w5 CT y := HY4.out.imp (Kq.only k5 fun h => by have := HS1.out; omega) fun g _ _ => trivial
 have hc5 : TrV w5 CT (.agg (trC k4 n4 t4 (.slice kd4 kl4 kc4) (.slice ad4 N cap4))) := (HC4.out.kept (KT.grown k5.by_ fun Z e hZ => by cases e; have := HS1.out; omega)).trv
 have HB5 : Hid (Below w.heap.size w w5) := (HUP.out _ HW.out).trans (k5.below (by omega))
 have HX5 := Lib.hid (fun W (hb : Below w5.heap.size w5 W) => (kW hb hx5))
 have HS5 := Lib.hid (fun W (hb : Below w5.heap.size w5 W) => (kW hb hs5))
 have HT5 := Lib.hid (fun W (hb : Below w5.heap.size w5 W) => (kW hb h5))
 have HYV := Lib.hid (fun W (hb : Below w5.heap.size w5 W) => hy5.later hb)
 have HCV := Lib.hid (fun W (hb : Below w5.heap.size w5 W) => hc5.later hb)
 have HTT := Lib.hid (fun W (hb : Below w5.heap.size w5 W) => HT1.out W (tW HB5.out hb))
 clear h5 k5 hx5 hs5 hy5 hc5 HTA HTS HX3 HY3 HX4 HY4 HC4 HCN HW HCF HV1 HUP
 obtain ⟨st, hst⟩ : ∃ st, st = stepsT CT := ⟨_, rfl⟩
 have HST := Lib.hid hst
 have HVS : Hid (∀ W, Below w5.heap.size w5 W → Calls Tryz.prog 18 #[.agg (celC y)] W fun r w' => ∃ u, r = .returned u ∧ CutAt (fun _ => True) w' 3 u ((st.map stpC).flatMap Array.toList) st.length ∧ Below W.heap.size W w') := fun W hb =>
  (va_Steps W CT y HVB.out (HYV.out W hb) (HTT.out W hb)).mono fun r w' ⟨u, h1, h2, h3⟩ => ⟨u, h1, by have h := stp_cut h2; rw [← HST.out] at h; exact h, h3⟩
 have HLL : Hid (st.length = CT.xs.length ∧ st.length ≤ 16383) := by
  have h := steps_len HVB.out.1.1
  rw [← hst] at h
  exact ⟨h, by rw [h]; exact HVB.out.len⟩
 clear hst
 have HW : Hid (Below w5.heap.size w5 w5) := Below.refl _ _
 obtain ⟨hNN, bb4, oo4, had4, hit4⟩ := tr_item (HCV.out w5 HW.out)
 have HN4 := Lib.hid hNN
 have HA4 := Lib.hid had4
 have HI4 := Lib.hid hit4
 clear hNN had4 hit4
 obtain ⟨M, hM⟩ : ∃ M, M = st.length := ⟨_, rfl⟩
 have HM := Lib.hid hM
 rw [← hM] at HVS
 clear hM
 go_wp2_with (first
  | (refine ld_if rfl 35 _ rfl X rfl 35 _ _ _ (HX5.out _ HW.out) Tryz.underlying35 rfl val_size ?_)
  | (go_at_call 18; (with_reducible refine (HVS.out _ HW.out).mono ?_); rintro r w6 ⟨u6, rfl, hu6, hb⟩; obtain ⟨a6, c6, b6, o6, rfl, ha6, hr6⟩ := stp_at (by rw [HM.out] at hu6; exact hu6); rw [← HM.out] at ha6 ⊢; have HA6 := Lib.hid ha6; have HR6 := Lib.hid hr6; replace HW := Lib.hid (tW HW.out hb); clear hb hu6 ha6 hr6))
 have HM6 : Hid (M ≤ 16383 ∧ M = N) := by
  have h1 := HLL.out
  have h2 := HM.out
  have h3 := HN4.out
  show _ ∧ _
  omega
 have hm63 : (M : Int) ≤ 9223372036854775807 := by have := HM6.out.1; omega
 have HW6 := HW
 clear HW HVS
 go_loopw [9, 10, 11, 12, 47] (fun a9 a10 a11 a12 i wl => ∃ j : Nat, j ≤ M ∧ i = .int .i64 (j : Int) ∧ (∃ c, c = a9) ∧ (∃ c, c = a10) ∧ (∃ c, c = a11) ∧ (∃ c, c = a12) ∧ Hid (Below w6.heap.size w6 wl)) (fun _ _ _ _ i _ => M - (intOf i).toNat)
 case atStart => exact ⟨0, Nat.zero_le _, rfl, ⟨_, rfl⟩, ⟨_, rfl⟩, ⟨_, rfl⟩, ⟨_, rfl⟩, Below.refl _ _⟩
 case round =>
  obtain ⟨j, hj, rfl, _, _, _, _, HL⟩ := hrel
  have HW : Hid (Below w5.heap.size w5 wr) := tW HW6.out HL.out
  by_cases hlt : j < M
  ·have hlt' : (j : Int) < (M : Int) := by omega
   have i0 : (0 : Int) ≤ (j : Int) := by omega
   have hjs : j < st.length := by rw [← HM.out]; exact hlt
   have ha6 : a6 = some ⟨b6, o6, none⟩ := HA6.out (by omega)
   subst ha6
   have hq := HR6.out j hjs
   have hgs := get_step HVB.out.1.1 (j := j) (by rw [← HST.out]; exact hjs)
   simp only [← HST.out] at hgs
   have hjx : j < CT.xs.length := by rw [← HLL.out.1]; exact hjs
   obtain ⟨pt, hpt⟩ : ∃ pt, pt = CT.xs[j] := ⟨_, rfl⟩
   have hpv : ValB pt := by rw [hpt]; exact HVB.out.part (List.getElem_mem hjx)
   obtain ⟨c5, hr5, hv5⟩ := HI4.out j hjx
   rw [← hpt] at hv5 hgs
   have hsm := stp_small HVB.out (e := st[j]) (by rw [← HST.out]; exact List.getElem_mem hjs)
   obtain ⟨e, he⟩ : ∃ e, e = st[j] := ⟨_, rfl⟩
   rw [← he] at hq hgs hsm
   obtain ⟨e1, e2, e3⟩ := e
   obtain ⟨k6, n6, t6, ka6, kb6, kc6, kd6, ke6, kf6, rfl⟩ := hv5.cells
   have HQ := Lib.hid (show wr.rangeAt b6 (o6 + j * 3) ((#[.int .i64 e1, .int .i64 e2, .string e3] : Array Value)).toList from fun i v hv => (HL.out.cell (World.block_lt_of_cell? w6 _ (hq i v hv))).trans (hq i v hv))
   have HPV := Lib.hid hpv
   have HV5 := Lib.hid hv5
   have HR5 := Lib.hid hr5
   have had4 : ad4 = some ⟨bb4, oo4, none⟩ := HA4.out (by have := HM6.out.2; omega)
   subst had4
   have HGE : Hid (∀ W, Below w5.heap.size w5 W → Calls Tryz.prog 19 #[.agg (celC y), .agg #[.int .i64 e1, .int .i64 e2, .string e3]] W fun r w' => ∃ z, r = .returned (.tuple #[.agg (celC z), .int .i64 0]) ∧ VAt (fun _ => True) w' pt z ∧ Below W.heap.size W w') := fun W hb => by
    have h := va_Get W CT y HVB.out (HYV.out W hb) e1 e2 e3 hsm
    simp only at hgs
    rw [hgs] at h
    exact h
   clear hq hgs hpt hpv hr5 hv5 hsm he hjs hjx
   go_upto_region 8 with (first
    | (refine ld_stp (by rfl) _ rfl b6 (o6 + j * 3) rfl #[.int .i64 e1, .int .i64 e2, .string e3] HQ.out rfl ?_)
    | (refine st_agg rfl 44 _ _ rfl wr.heap.size #[.int .i64 e1, .int .i64 e2, .string e3] rfl rfl 44 #[.int .i64 0, .int .i64 0, .string ⟨#[]⟩] (heap_alloc_last _ _) step_size rfl (by simp [Value.oneCell']) ?_; intro w7 h7 k7))
   have hb7 : Below wr.heap.size wr w7 := (Below.newly' _ _).trans (k7.below (Nat.le_refl _))
   obtain ⟨D, hD⟩ : ∃ D, D = wr.heap.size := ⟨_, rfl⟩
   have HD7 := Lib.hid h7
   rw [← hD] at HD7 ⊢
   replace HW := Lib.hid (tW HW.out hb7)
   replace HL := Lib.hid (tW HL.out hb7)
   clear h7 k7 hb7 hD HQ
   go_upto_region 9 with (first
    | (refine ld_if rfl 35 _ rfl X rfl 35 _ _ _ (HX5.out _ HW.out) Tryz.underlying35 rfl val_size ?_)
    | (refine ld_if rfl 44 _ rfl D rfl 44 _ _ _ HD7.out Tryz.underlying44 rfl step_size ?_)
    | (go_at_call 19; (with_reducible refine (HGE.out _ HW.out).mono ?_); rintro r w8 ⟨z, rfl, hz, hb⟩; have HZ8 := Lib.hid hz; replace HW := Lib.hid (tW HW.out hb); replace HL := Lib.hid (tW HL.out hb); clear hz hb)
    | (refine st_agg rfl 35 _ _ rfl w8.heap.size (celC z) rfl rfl 35 #[.int .i64 0, .int .i64 0, .string ⟨#[]⟩, .pointer none] (heap_alloc_last _ _) val_size rfl (celC_one z) ?_; intro w9 h9 k9))
   have hb9 : Below w8.heap.size w8 w9 := (Below.newly' _ _).trans (k9.below (Nat.le_refl _))
   obtain ⟨T, hT⟩ : ∃ T, T = w8.heap.size := ⟨_, rfl⟩
   rw [← hT] at h9 ⊢
   have hz9 := HZ8.out.later hb9
   have HW9 := Lib.hid (tW HW.out hb9)
   have HL9 := Lib.hid (tW HL.out hb9)
   have HKS : Hid (∀ V, Below w9.heap.size w9 V → V.heap[T]? = some (.cells (celC z) 35 (0, 0)) ∧ V.cell? ⟨w.heap.size + 1, 4, none⟩ = some (.slice (some ⟨bb4, oo4, none⟩) N cap4) ∧ V.rangeAt bb4 (oo4 + j * 5) (trC k6 n6 t6 (.slice ka6 kb6 kc6) (.slice kd6 ke6 kf6)).toList) := fun V hb => ⟨(kW hb h9), cell_in (HT5.out V (tW HW9.out hb)) rfl, fun i v hv => ((tW HW9.out hb).cell (World.block_lt_of_cell? w5 _ (HR5.out i v hv))).trans (HR5.out i v hv)⟩
   have HTP : Hid (∀ W, Below w9.heap.size w9 W → Calls Tryz.prog 21 #[.agg (celC z)] W fun r w' => ∃ c, r = .returned (.agg c) ∧ TrV w' pt (.agg c) ∧ Below W.heap.size W w') := fun W hb =>
    (va_Tree pt W z HPV.out (hz9.later hb) (HTT.out W (tW HW9.out hb))).mono fun r w' ⟨c, h1, _, h2, h3⟩ => ⟨c, h1, h2.trv, h3⟩
   have HSP : Hid (∀ W c, Below w9.heap.size w9 W → TrV W pt (.agg c) → Calls Tryz.prog 20 #[.agg c, .agg (trC k6 n6 t6 (.slice ka6 kb6 kc6) (.slice kd6 ke6 kf6))] W fun r w' => r = .returned (.bool true) ∧ Below W.heap.size W w') := fun W c hb hc => by
    have h := rf_Same pt pt _ _ W hc (HV5.out.later (tW HW9.out hb))
    rw [(same_iff pt pt).2 rfl] at h
    exact h
   have hN : M = N := HM6.out.2
   have hltN : j < N := by omega
   have hltN' : (j : Int) < (N : Int) := by omega
   have dj : decide ((N : Int) ≤ (j : Int)) = false := decide_eq_false (by omega)
   have HW : Hid (Below w9.heap.size w9 w9.drew) := drawn_below w9
   clear hb9 h9 k9 hT hz9 HZ8 HD7 HGE hN
   refine wp_region_T (S := (fun V => V.heap[T]? = some (.cells (celC z) 35 (0, 0)) ∧ V.cell? ⟨w.heap.size + 1, 4, none⟩ = some (.slice (some ⟨bb4, oo4, none⟩) N cap4) ∧ V.rangeAt bb4 (oo4 + j * 5) (trC k6 n6 t6 (.slice ka6 kb6 kc6) (.slice kd6 ke6 kf6)).toList)) [] (by kernel_rfl) (by exact HKS.out _ HW.out) (fun hHeld => ?_)
   refine tkL 0 58 (h := ?_)
   refine tkL 1 59 (h := ?_)
   (try simp only [pq])
   refine tkL 2 60 (h := ?_)
   refine tkL 3 61 (h := ?_)
   (try simp only [pq])
   refine tkL 4 62 (h := ?_)
   refine tkL 5 63 (h := ?_)
   (try simp only [pq])
   refine tkL 6 64 (h := ?_)
   (try simp only [pq])
   refine wpAnyT_takeL (i := 7) (oi := ⟨some 65, _, _, _, _, _⟩) (v := (.bool false)) rfl (by kernel_rfl) (by kernel_rfl) (by kernel_rfl) (by kernel_rfl) (fun _ _ _ h => h) (Or.inl ⟨by rfl, ?hg2_7⟩) (by assumption) ?rg2_7
   case hg2_7 => (intro w hSw; (try dsimp only at hSw); go_simp; first | done | rw [dj] | simp [dj])
   (try simp only [pq])
   refine tkL 8 66 (h := ?_)
   refine tkL 9 67 (h := ?_)
   (try simp only [pq])
   refine tyL 10 68 (hy := yieldsIf_load_row (by rfl) 35 _ rfl T rfl (celC z) 35 (0, 0) _ (fun w hw => hw.1) Tryz.underlying35 rfl (by exact val_size)) (h := ?_)
   refine tkL 12 70 (h := ?_)
   (try simp only [pq])
   refine tkL 13 71 (h := ?_)
   refine tkL 14 72 (h := ?_)
   (try simp only [pq])
   refine tkL 15 73 (h := ?_)
   refine tyL 16 74 (hy := yieldsIf_arr (by rfl) 28 _ rfl bb4 (oo4 + j * 5) rfl (trC k6 n6 t6 (.slice ka6 kb6 kc6) (.slice kd6 ke6 kf6)) _ (fun w hw => hw.2.2) Tryz.underlying28 rfl (by exact tr_size9)) (h := ?_)
   (try simp only [pq])
   refine tkO 11 (some 69) (h := fun K hK => ?_)
   go_simp
   go_at_call 21
   (with_reducible refine (HTP.out _ (by exact HW.out)).mono ?_)
   rintro r wd ⟨c1, rfl, hc, hb⟩
   have HC1 := Lib.hid hc
   replace HW := Lib.hid (tW HW.out hb)
   clear hb hc
   dsimp only
   refine hK.out _ _ (by exact HKS.out _ HW.out) (fun hHeld => ?_)
   clear hK K
   (try simp only [pq])
   refine tkO 17 (some 75) (h := fun K hK => ?_)
   go_simp
   go_at_call 20
   (with_reducible refine (HSP.out _ _ (by exact HW.out) HC1.out).mono ?_)
   rintro r we ⟨rfl, hb⟩
   replace HW := Lib.hid (tW HW.out hb)
   clear hb HC1
   dsimp only
   refine hK.out _ _ (by exact HKS.out _ HW.out) (fun hHeld => ?_)
   clear hK K
   (try simp only [pq])
   refine tkL 18 76 (h := ?_)
   refine tkL 19 77 (h := ?_)
   (try simp only [pq])
   refine wpAnyT_done (by kernel_rfl) ?_ _
   clear hHeld
   go_wp2_with fail
   go_roundw
   case rel => exact ⟨j + 1, by omega, by go_num, ⟨_, rfl⟩, ⟨_, rfl⟩, ⟨_, rfl⟩, ⟨_, rfl⟩, tW HL9.out HW.out⟩
   case measure => simp [intOf]; omega
  ·obtain rfl : M = j := by omega
   have hlt' : ¬ (M : Int) < (M : Int) := by omega
   obtain ⟨gp, hgp⟩ : ∃ gp, gp = (getT CT s0 s1 u).1 := ⟨_, rfl⟩
   obtain ⟨ge, hge⟩ : ∃ ge, ge = (getT CT s0 s1 u).2 := ⟨_, rfl⟩
   have HGP : Hid (ValB gp) := by show ValB _; rw [hgp]; exact valB_getT HVB.out
   have HGV : Hid (∀ W, Below w5.heap.size w5 W → Calls Tryz.prog 19 #[.agg (celC y), .agg #[.int .i64 s0, .int .i64 s1, .string u]] W fun r w' => ∃ z, r = .returned (.tuple #[.agg (celC z), .int .i64 ge]) ∧ VAt (fun _ => True) w' gp z ∧ Below W.heap.size W w') := fun W hb => by
    rw [hgp, hge]
    exact va_Get W CT y HVB.out (HYV.out W hb) s0 s1 u (Nat.le_trans HUS.out (by decide))
   have HGR : Hid (∀ W, Below w5.heap.size w5 W → Calls Tryz.prog 22 #[.agg (trC k4 n4 t4 (.slice kd4 kl4 kc4) (.slice ad4 N cap4)), .agg #[.int .i64 s0, .int .i64 s1, .string u]] W fun r w' => ∃ z, r = .returned (.tuple #[.agg z, .int .i64 ge]) ∧ TrV w' gp (.agg z) ∧ Below W.heap.size W w') := fun W hb => by
    rw [hgp, hge]
    exact rf_Get W CT _ s0 s1 u (HCV.out W hb) HVB.out
   clear hgp hge
   go_upto_region 13 with (first
    | (refine ld_if rfl 35 _ rfl X rfl 35 _ _ _ (HX5.out _ HW.out) Tryz.underlying35 rfl val_size ?_)
    | (refine ld_if rfl 44 _ rfl (w.heap.size + 2) rfl 44 _ _ _ (HS5.out _ HW.out) Tryz.underlying44 rfl step_size ?_)
    | (go_at_call 19; (with_reducible refine (HGV.out _ HW.out).mono ?_); rintro r w10 ⟨ya, rfl, hz, hb⟩; have HZ10 := Lib.hid hz; replace HW := Lib.hid (tW HW.out hb); clear hz hb)
    | (refine st_agg rfl 35 _ _ rfl w10.heap.size (celC ya) rfl rfl 35 #[.int .i64 0, .int .i64 0, .string ⟨#[]⟩, .pointer none] (heap_alloc_last _ _) val_size rfl (celC_one ya) ?_; intro w11 h11 k11))
   have hb11 : Below w10.heap.size w10 w11 := (Below.newly' _ _).trans (k11.below (Nat.le_refl _))
   obtain ⟨A, hA⟩ : ∃ A, A = w10.heap.size := ⟨_, rfl⟩
   rw [← hA] at h11 ⊢
   have HA11 := Lib.hid h11
   have HZ11 := Lib.hid (HZ10.out.later hb11)
   replace HW := Lib.hid (tW HW.out hb11)
   clear hb11 h11 k11 hA HZ10 HGV
   go_upto_region 14 with (first
    | (refine ld_if rfl 28 _ rfl (w.heap.size + 1) rfl 28 _ _ _ (HT5.out _ HW.out) Tryz.underlying28 rfl tr_size9 ?_)
    | (refine ld_if rfl 44 _ rfl (w.heap.size + 2) rfl 44 _ _ _ (HS5.out _ HW.out) Tryz.underlying44 rfl step_size ?_)
    | (go_at_call 22; (with_reducible refine (HGR.out _ HW.out).mono ?_); rintro r w12 ⟨cb, rfl, hz, hb⟩; obtain ⟨k9, n9, t9, x9, y9, z9, p9, q9, r9, rfl⟩ := hz.cells; have HC12 := Lib.hid hz; have HZ12 := Lib.hid (HZ11.out.later hb); have HA12 := Lib.hid ((kW hb HA11.out)); replace HW := Lib.hid (tW HW.out hb); clear hz hb)
    | (refine st_agg rfl 28 _ _ rfl w12.heap.size (trC k9 n9 t9 (.slice x9 y9 z9) (.slice p9 q9 r9)) rfl rfl 28 (trC 0 0 ⟨#[]⟩ (.slice none 0 0) (.slice none 0 0)) (heap_alloc_last _ _) tr_size9 rfl (by simp [Value.oneCell']) ?_; intro w13 h13 k13))
   have hb13 : Below w12.heap.size w12 w13 := (Below.newly' _ _).trans (k13.below (Nat.le_refl _))
   obtain ⟨B, hB⟩ : ∃ B, B = w12.heap.size := ⟨_, rfl⟩
   rw [← hB] at h13 ⊢
   have ha13 := (kW hb13 HA12.out)
   have hz13 := HZ12.out.later hb13
   have hc13 := HC12.out.later hb13
   have HW13 := Lib.hid (tW HW.out hb13)
   have HKS : Hid (∀ V, Below w13.heap.size w13 V → V.heap[A]? = some (.cells (celC ya) 35 (0, 0)) ∧ V.heap[B]? = some (.cells (trC k9 n9 t9 (.slice x9 y9 z9) (.slice p9 q9 r9)) 28 (0, 0))) := fun V hb => ⟨(kW hb ha13), (kW hb h13)⟩
   have HTQ : Hid (∀ W, Below w13.heap.size w13 W → Calls Tryz.prog 21 #[.agg (celC ya)] W fun r w' => ∃ c, r = .returned (.agg c) ∧ TrV w' gp (.agg c) ∧ Below W.heap.size W w') := fun W hb =>
    (va_Tree gp W ya HGP.out (hz13.later hb) (HTT.out W (tW HW13.out hb))).mono fun r w' ⟨c, h1, _, h2, h3⟩ => ⟨c, h1, h2.trv, h3⟩
   have HSQ : Hid (∀ W c, Below w13.heap.size w13 W → TrV W gp (.agg c) → Calls Tryz.prog 20 #[.agg c, .agg (trC k9 n9 t9 (.slice x9 y9 z9) (.slice p9 q9 r9))] W fun r w' => r = .returned (.bool true) ∧ Below W.heap.size W w') := fun W c hb hc => by
    have h := rf_Same gp gp _ _ W hc (hc13.later hb)
    rw [(same_iff gp gp).2 rfl] at h
    exact h
   have HW : Hid (Below w13.heap.size w13 w13.drew) := drawn_below w13
   clear hb13 ha13 hz13 hc13 h13 k13 hB HZ11 HZ12 HA11 HA12 HC12 HGR
   refine wp_region_T (S := (fun V => V.heap[A]? = some (.cells (celC ya) 35 (0, 0)) ∧ V.heap[B]? = some (.cells (trC k9 n9 t9 (.slice x9 y9 z9) (.slice p9 q9 r9)) 28 (0, 0)))) [] (by kernel_rfl) (by exact HKS.out _ HW.out) (fun hHeld => ?_)
   refine tkL 0 91 (h := ?_)
   refine tkL 1 92 (h := ?_)
   (try simp only [pq])
   refine wpAnyT_takeL (i := 2) (oi := ⟨some 93, _, _, _, _, _⟩) (v := (.bool true)) rfl (by kernel_rfl) (by kernel_rfl) (by kernel_rfl) (by kernel_rfl) (fun _ _ _ h => h) (Or.inl ⟨by rfl, ?hg3_2⟩) (by assumption) ?rg3_2
   case hg3_2 => (intro w hSw; (try dsimp only at hSw); go_simp; first | done | simp)
   (try simp only [pq])
   refine tkL 3 94 (h := ?_)
   refine tyL 4 95 (hy := yieldsIf_load_row (by rfl) 35 _ rfl A rfl (celC ya) 35 (0, 0) _ (fun w hw => hw.1) Tryz.underlying35 rfl (by exact val_size)) (h := ?_)
   (try simp only [pq])
   refine tyL 6 97 (hy := yieldsIf_load_row (by rfl) 28 _ rfl B rfl (trC k9 n9 t9 (.slice x9 y9 z9) (.slice p9 q9 r9)) 28 (0, 0) _ (fun w hw => hw.2) Tryz.underlying28 rfl (by exact tr_size9)) (h := ?_)
   (try simp only [pq])
   refine tkO 5 (some 96) (h := fun K hK => ?_)
   go_simp
   go_at_call 21
   (with_reducible refine (HTQ.out _ (by exact HW.out)).mono ?_)
   rintro r wf ⟨c1, rfl, hc, hb⟩
   have HC1 := Lib.hid hc
   replace HW := Lib.hid (tW HW.out hb)
   clear hb hc
   dsimp only
   refine hK.out _ _ (by exact HKS.out _ HW.out) (fun hHeld => ?_)
   clear hK K
   (try simp only [pq])
   refine tkO 7 (some 98) (h := fun K hK => ?_)
   go_simp
   go_at_call 20
   (with_reducible refine (HSQ.out _ _ (by exact HW.out) HC1.out).mono ?_)
   rintro r wg ⟨rfl, hb⟩
   replace HW := Lib.hid (tW HW.out hb)
   clear hb HC1
   dsimp only
   refine hK.out _ _ (by exact HKS.out _ HW.out) (fun hHeld => ?_)
   clear hK K
   (try simp only [pq])
   refine tkL 8 99 (h := ?_)
   refine tkL 9 6 (h := ?_)
   (try simp only [pq])
   refine wpAnyT_done (by kernel_rfl) ?_ _
   clear hHeld
   go_wp2_with fail
   have hb := HB5.out.trans ((tW HW13.out HW.out).mono HB5.out.size)
   go_ret
   exact ⟨rfl, hb⟩
end Go.Proofs.YtpodmgihlomglaaGreatDoor
