import Derived.Test.YtpodmgihlomglaaGreatDoorP34
import Derived.Test.YtpodmgihlomglaaGreatDoorP54
namespace Go.Proofs.YtpodmgihlomglaaGreatDoor
open Go.RowKit
set_option maxRecDepth 1000000
set_option linter.unusedSimpArgs false
theorem stp_cut {B : Nat} {w : World} {v : Value} {st : List Stp} (h : RowsOwn B 44 3 v (st.map stpC) w) : CutAt (fun _ => True) w 3 v ((st.map stpC).flatMap Array.toList) st.length := by
 have h1 := (lsT_cut h.lsT).weak (S' := fun _ => True) fun _ _ => trivial
 rw [List.length_map] at h1
 exact h1
set_option maxHeartbeats 8000000 in
theorem lw_same (w : World) (a : Tr) (x : Cel) (v : Value) (ha : ValB a) (hx : VAt (fun _ => True) w a x) (hv : TrV w a v) (hT : Tab6 w) : Calls Tryz.prog 16 #[.agg (celC x), v] w fun e w' => e = .returned (.bool true) ∧ Below w.heap.size w w' := by
 obtain ⟨k, n, t, ks, xs⟩ := a
 obtain ⟨kv, xv, rfl, _, _, _, ⟨kd, kcap, kb1, ko, rfl, _, _, _⟩, ad, cap, bb, oo, rfl, _, _, _⟩ := hv.open'
 obtain ⟨N, hN⟩ : ∃ N, N = xs.length := ⟨_, rfl⟩
 obtain ⟨lk, hlk⟩ : ∃ lk, lk = ks.length := ⟨_, rfl⟩
 rw [← hN, ← hlk] at hv ⊢
 obtain ⟨w1, hw1⟩ : ∃ w1, (w.alloc (.cells (celC x) 35)).alloc (.cells (trC k n t (.slice kd lk kcap) (.slice ad N cap)) 28) = w1 := ⟨_, rfl⟩
 obtain ⟨hb1, hx1, hy1, hs1⟩ := two_new hw1
 have HX := Lib.hid (fun W (hb : Below w1.heap.size w1 W) => (kW hb hx1))
 have HZ := Lib.hid (fun W (hb : Below w1.heap.size w1 W) => (kW hb hy1))
 have HVV := Lib.hid (fun W (hb : Below w1.heap.size w1 W) => (hv.later hb1).later hb)
 have HXV := Lib.hid (fun W (hb : Below w1.heap.size w1 W) => (hx.later hb1).later hb)
 have HT1 := Lib.hid (fun W (hb : Below w1.heap.size w1 W) => (hT.below hb1).below hb)
 have HB1 := Lib.hid hb1
 have HW : Hid (Below w1.heap.size w1 w1) := Below.refl _ _
 have HVB := Lib.hid ha
 have HN := Lib.hid hN
 obtain ⟨dp, hdp⟩ : ∃ dp, dp = depT (.nd k n t ks xs) := ⟨_, rfl⟩
 obtain ⟨nd, hnd⟩ : ∃ nd, nd = nodT (.nd k n t ks xs) := ⟨_, rfl⟩
 obtain ⟨kk, hkk⟩ : ∃ kk, kk = kB (.nd k n t ks xs) := ⟨_, rfl⟩
 obtain ⟨st, hst⟩ : ∃ st, st = stepsT (.nd k n t ks xs) := ⟨_, rfl⟩
 have HST := Lib.hid hst
 have HDN := Lib.hid (And.intro hdp (And.intro hnd hkk))
 have HSL : Hid (st.length ≤ 100000) := by show _ ≤ _; rw [hst, steps_len ha.1.1]; exact Nat.le_trans ha.len (by decide)
 have qt : (kk.toList == kk.toList) = true := beq_self_eq_true _
 clear hb1 hx1 hy1 hs1 hN hlk hdp hnd hkk hst hv hx ha hT
 obtain ⟨sc, hsc⟩ : ∃ sc : Array Value, sc = if k ≤ 3 then #[.int .i64 k, .int .i64 n, .string t] else #[.int .i64 0, .int .i64 0, .string ⟨#[]⟩] := ⟨_, rfl⟩
 obtain ⟨b, hbb⟩ : ∃ b, b = decide (k ≤ 3) := ⟨_, rfl⟩
 have HSE := Lib.hid (And.intro hsc hbb)
 clear hsc hbb
 have HSC : Hid (∀ W, Below w1.heap.size w1 W → Calls Tryz.prog 43 #[.agg (celC x)] W fun e w' => e = .returned (.tuple #[.agg sc, .bool b]) ∧ Below W.heap.size W w') := fun W hb => by
  have h := va_Scalar W (.nd k n t ks xs) x (HXV.out W hb)
  rw [HSE.out.1, HSE.out.2]
  exact h
 have HS3 : Hid (sc.size = 3 ∧ sc.all (·.oneCell') = true) := by
  show _ ∧ _
  rw [HSE.out.1]
  by_cases c : k ≤ 3
  ·rw [if_pos c]; exact ⟨rfl, by simp [Value.oneCell']⟩
  ·rw [if_neg c]; exact ⟨rfl, by simp [Value.oneCell']⟩
 go_enter Tryz.func16, Tryz.ntmps16
 go_upto_region 1 with fail
 clear hw1
 go_upto_region 2 with (first
  | (refine ld_if rfl 35 _ rfl w.heap.size rfl 35 _ _ _ (HX.out _ HW.out) Tryz.underlying35 rfl val_size ?_)
  | (go_at_call 43; (with_reducible refine (HSC.out _ HW.out).mono ?_); rintro r w2 ⟨rfl, hb⟩; replace HW := Lib.hid (tW HW.out hb); clear hb)
  | (refine st_agg rfl 32 _ _ rfl w2.heap.size sc rfl rfl 32 #[.int .i64 0, .int .i64 0, .string ⟨#[]⟩] (heap_alloc_last _ _) (by rw [HS3.out.1]; exact sc_size9) (by rw [HS3.out.1]; rfl) HS3.out.2 ?_; intro w3 h3 k3))
 have hb3 : Below w2.heap.size w2 w3 := (Below.newly' _ _).trans (k3.below (Nat.le_refl _))
 have HY3 := Lib.hid h3
 replace HW := Lib.hid (tW HW.out hb3)
 obtain ⟨Y, hY⟩ : ∃ Y, Y = w2.heap.size := ⟨_, rfl⟩
 rw [← hY] at HY3 ⊢
 have HB3 := HW
 clear hb3 h3 k3 hY HSC HW
 have HKS : Hid (∀ V, Below w3.heap.size w3 V → V.heap[w.heap.size]? = some (.cells (celC x) 35 (0, 0)) ∧ V.heap[(w.heap.size + 1)]? = some (.cells (trC k n t (.slice kd lk kcap) (.slice ad N cap)) 28 (0, 0)) ∧ V.heap[Y]? = some (.cells sc 32 (0, 0)) ∧ V.cell? ⟨w.heap.size + 1, 0, none⟩ = some (.int .i64 k) ∧ V.cell? ⟨w.heap.size + 1, 4, none⟩ = some (.slice ad N cap)) := fun V hb => ⟨HX.out _ (tW HB3.out hb), HZ.out _ (tW HB3.out hb), (kW hb HY3.out), cell_in (HZ.out _ (tW HB3.out hb)) rfl, cell_in (HZ.out _ (tW HB3.out hb)) rfl⟩
 have hv3 := fun W (hb : Below w3.heap.size w3 W) => HVV.out W (tW HB3.out hb)
 have hx3 := fun W (hb : Below w3.heap.size w3 W) => HXV.out W (tW HB3.out hb)
 have hT3 := fun W (hb : Below w3.heap.size w3 W) => HT1.out W (tW HB3.out hb)
 have HTR : Hid (∀ W, Below w3.heap.size w3 W → Calls Tryz.prog 21 #[.agg (celC x)] W fun r w' => ∃ c, r = .returned (.agg c) ∧ TrV w' (.nd k n t ks xs) (.agg c) ∧ Below W.heap.size W w') := fun W hb =>
  (va_Tree (.nd k n t ks xs) W x HVB.out (hx3 W hb) (hT3 W hb)).mono fun r w' ⟨c, h1, _, h2, h3⟩ => ⟨c, h1, h2.trv, h3⟩
 have HSM : Hid (∀ W c, Below w3.heap.size w3 W → TrV W (.nd k n t ks xs) (.agg c) → Calls Tryz.prog 20 #[.agg c, .agg (trC k n t (.slice kd lk kcap) (.slice ad N cap))] W fun r w' => r = .returned (.bool true) ∧ Below W.heap.size W w') := fun W c hb hc => by
  have h := rf_Same (.nd k n t ks xs) (.nd k n t ks xs) _ _ W hc (hv3 W hb)
  rw [(same_iff (.nd k n t ks xs) (.nd k n t ks xs)).2 rfl] at h
  exact h
 have HKI : Hid (∀ W, Below w3.heap.size w3 W → Calls Tryz.prog 37 #[.agg (celC x)] W fun r w' => r = .returned (.int .i64 k) ∧ Below W.heap.size W w') := fun W hb => by
  have h := va_Kind W x
  rw [(hx3 W hb).k] at h
  exact h
 have HLE : Hid (∀ W, Below w3.heap.size w3 W → Calls Tryz.prog 32 #[.agg (celC x)] W fun r w' => r = .returned (.int .i64 (N : Int)) ∧ Below W.heap.size W w') := fun W hb => by
  rw [HN.out]
  exact va_Len W (.nd k n t ks xs) x HVB.out (hx3 W hb)
 have HDE : Hid (∀ W, Below w3.heap.size w3 W → Calls Tryz.prog 31 #[.agg (celC x)] W fun r w' => r = .returned (.int .i64 (dp : Int)) ∧ Below W.heap.size W w') := fun W hb => by rw [HDN.out.1]; exact va_Depth W (.nd k n t ks xs) x HVB.out (hx3 W hb)
 have HRD : Hid (∀ W, Below w3.heap.size w3 W → Calls Tryz.prog 44 #[.agg (trC k n t (.slice kd lk kcap) (.slice ad N cap))] W fun r w' => r = .returned (.int .i64 (dp : Int)) ∧ Below W.heap.size W w') := fun W hb => by rw [HDN.out.1]; exact rf_Depth11 (.nd k n t ks xs) _ W (hv3 W hb) (Nat.le_trans HVB.out.nod (by decide))
 have HNO : Hid (∀ W, Below w3.heap.size w3 W → Calls Tryz.prog 30 #[.agg (celC x)] W fun r w' => r = .returned (.int .i64 (nd : Int)) ∧ Below W.heap.size W w') := fun W hb => by rw [HDN.out.2.1]; exact va_Nodes W (.nd k n t ks xs) x HVB.out (hx3 W hb)
 have HRN : Hid (∀ W, Below w3.heap.size w3 W → Calls Tryz.prog 25 #[.agg (trC k n t (.slice kd lk kcap) (.slice ad N cap))] W fun r w' => r = .returned (.int .i64 (nd : Int)) ∧ Below W.heap.size W w') := fun W hb => by rw [HDN.out.2.1]; exact rf_Nodes11 (.nd k n t ks xs) _ W (hv3 W hb) (Nat.le_trans HVB.out.nod (by decide))
 have HKY : Hid (∀ W, Below w3.heap.size w3 W → Calls Tryz.prog 28 #[.agg (celC x)] W fun r w' => r = .returned (.string kk) ∧ Below W.heap.size W w') := fun W hb => by rw [HDN.out.2.2]; exact va_Key W (.nd k n t ks xs) x HVB.out (hx3 W hb) (hT3 W hb)
 have HRK : Hid (∀ W, Below w3.heap.size w3 W → Calls Tryz.prog 45 #[.agg (trC k n t (.slice kd lk kcap) (.slice ad N cap))] W fun r w' => r = .returned (.string kk) ∧ Below W.heap.size W w') := fun W hb => by rw [HDN.out.2.2]; exact rf_Key (.nd k n t ks xs) _ W (hv3 W hb) HVB.out
 have HPL : Hid (∀ W, Below w3.heap.size w3 W → Calls Tryz.prog 46 #[.agg (trC k n t (.slice kd lk kcap) (.slice ad N cap))] W fun r w' => r = .returned (.agg #[.int .i64 k, .int .i64 n, .string t]) ∧ Below W.heap.size W w') := fun W _ => rf_Plain W k n t kd lk kcap ad N cap
 have HVS : Hid (∀ W, Below w3.heap.size w3 W → Calls Tryz.prog 18 #[.agg (celC x)] W fun r w' => ∃ u, r = .returned u ∧ CutAt (fun _ => True) w' 3 u ((st.map stpC).flatMap Array.toList) st.length ∧ Below W.heap.size W w') := fun W hb =>
  (va_Steps W (.nd k n t ks xs) x HVB.out (hx3 W hb) (hT3 W hb)).mono fun r w' ⟨u, h1, h2, h3⟩ => ⟨u, h1, by have h := stp_cut h2; rw [← HST.out] at h; exact h, h3⟩
 have HRS : Hid (∀ W, Below w3.heap.size w3 W → Calls Tryz.prog 48 #[.agg (trC k n t (.slice kd lk kcap) (.slice ad N cap))] W fun r w' => ∃ u, r = .returned u ∧ CutAt (fun _ => True) w' 3 u ((st.map stpC).flatMap Array.toList) st.length ∧ Below W.heap.size W w') := fun W hb =>
  (rf_Steps W (.nd k n t ks xs) _ (hv3 W hb) HVB.out).mono fun r w' ⟨u, h1, h2, h3⟩ => ⟨u, h1, by have h := stp_cut h2.own; rw [← HST.out] at h; exact h, h3⟩
 have HSS := Lib.hid (fun W u1 u2 h1 h2 => rf_SameSteps (S := (fun _ => True)) (S' := (fun _ => True)) W st u1 u2 HSL.out h1 h2)
 have HW : Hid (Below w3.heap.size w3 w3.drew) := drawn_below w3
 clear hv3 hx3 hT3 HX HZ HY3 HVV HXV HT1 HVB
 refine wp_region_T (S := (fun V => V.heap[w.heap.size]? = some (.cells (celC x) 35 (0, 0)) ∧ V.heap[(w.heap.size + 1)]? = some (.cells (trC k n t (.slice kd lk kcap) (.slice ad N cap)) 28 (0, 0)) ∧ V.heap[Y]? = some (.cells sc 32 (0, 0)) ∧ V.cell? ⟨w.heap.size + 1, 0, none⟩ = some (.int .i64 k) ∧ V.cell? ⟨w.heap.size + 1, 4, none⟩ = some (.slice ad N cap))) [] (by kernel_rfl) (by exact HKS.out _ HW.out) (fun hHeld => ?_)
 refine tyL 0 12 (hy := yieldsIf_load_row (by rfl) 35 _ rfl w.heap.size rfl (celC x) 35 (0, 0) _ (fun w hw => hw.1) Tryz.underlying35 rfl (by exact val_size)) (h := ?_)
 refine tyL 2 14 (hy := yieldsIf_load_row (by rfl) 28 _ rfl (w.heap.size + 1) rfl (trC k n t (.slice kd lk kcap) (.slice ad N cap)) 28 (0, 0) _ (fun w hw => hw.2.1) Tryz.underlying28 rfl (by exact tr_size9)) (h := ?_)
 (try simp only [pq])
 refine tkO 1 (some 13) (h := fun K hK => ?_)
 go_simp
 go_at_call 21
 (with_reducible refine (HTR.out _ (by exact HW.out)).mono ?_)
 rintro r wa ⟨c1, rfl, hc, hb⟩
 have HC1 := Lib.hid hc
 replace HW := Lib.hid (tW HW.out hb)
 clear hb hc
 dsimp only
 refine hK.out _ _ (by exact HKS.out _ HW.out) (fun hHeld => ?_)
 clear hK K
 (try simp only [pq])
 refine tkO 3 (some 15) (h := fun K hK => ?_)
 go_simp
 go_at_call 20
 (with_reducible refine (HSM.out _ _ (by exact HW.out) HC1.out).mono ?_)
 rintro r wb ⟨rfl, hb⟩
 replace HW := Lib.hid (tW HW.out hb)
 clear hb HC1
 dsimp only
 refine hK.out _ _ (by exact HKS.out _ HW.out) (fun hHeld => ?_)
 clear hK K
 (try simp only [pq])
 refine tkL 4 16 (h := ?_)
 refine tkL 5 17 (h := ?_)
 (try simp only [pq])
 refine tyL 6 18 (hy := yieldsIf_load_row (by rfl) 35 _ rfl w.heap.size rfl (celC x) 35 (0, 0) _ (fun w hw => hw.1) Tryz.underlying35 rfl (by exact val_size)) (h := ?_)
 refine tkL 8 20 (h := ?_)
 (try simp only [pq])
 refine tkL 9 21 (h := ?_)
 (try simp only [pq])
 refine tkO 7 (some 19) (h := fun K hK => ?_)
 go_simp
 go_at_call 37
 (with_reducible refine (HKI.out _ (by exact HW.out)).mono ?_)
 rintro r wc ⟨rfl, hb⟩
 replace HW := Lib.hid (tW HW.out hb)
 clear hb
 dsimp only
 refine hK.out _ _ (by exact HKS.out _ HW.out) (fun hHeld => ?_)
 clear hK K
 (try simp only [pq])
 refine wpAnyT_takeL (i := 10) (oi := ⟨some 22, _, _, _, _, _⟩) (v := (.bool false)) rfl (by kernel_rfl) (by kernel_rfl) (by kernel_rfl) (by kernel_rfl) (fun _ _ _ h => h) (Or.inl ⟨by rfl, ?hg1_10⟩) (by assumption) ?rg1_10
 case hg1_10 => (intro w hSw; (try dsimp only at hSw); go_simp; first | done | rw [qt] | rw [d3] | simp [qt, d3])
 (try simp only [pq])
 refine tkL 11 23 (h := ?_)
 refine tkL 12 24 (h := ?_)
 (try simp only [pq])
 refine tyL 13 25 (hy := yieldsIf_load_row (by rfl) 35 _ rfl w.heap.size rfl (celC x) 35 (0, 0) _ (fun w hw => hw.1) Tryz.underlying35 rfl (by exact val_size)) (h := ?_)
 refine tkL 15 27 (h := ?_)
 (try simp only [pq])
 refine tkL 16 28 (h := ?_)
 refine tkL 17 29 (h := ?_)
 (try simp only [pq])
 refine tkO 14 (some 26) (h := fun K hK => ?_)
 go_simp
 go_at_call 32
 (with_reducible refine (HLE.out _ (by exact HW.out)).mono ?_)
 rintro r wd ⟨rfl, hb⟩
 replace HW := Lib.hid (tW HW.out hb)
 clear hb
 dsimp only
 refine hK.out _ _ (by exact HKS.out _ HW.out) (fun hHeld => ?_)
 clear hK K
 (try simp only [pq])
 refine wpAnyT_takeL (i := 18) (oi := ⟨some 30, _, _, _, _, _⟩) (v := (.bool false)) rfl (by kernel_rfl) (by kernel_rfl) (by kernel_rfl) (by kernel_rfl) (fun _ _ _ h => h) (Or.inl ⟨by rfl, ?hg1_18⟩) (by assumption) ?rg1_18
 case hg1_18 => (intro w hSw; (try dsimp only at hSw); go_simp; first | done | rw [qt] | rw [d3] | simp [qt, d3])
 (try simp only [pq])
 refine tkL 19 31 (h := ?_)
 refine tkL 20 32 (h := ?_)
 (try simp only [pq])
 refine tyL 21 33 (hy := yieldsIf_load_row (by rfl) 35 _ rfl w.heap.size rfl (celC x) 35 (0, 0) _ (fun w hw => hw.1) Tryz.underlying35 rfl (by exact val_size)) (h := ?_)
 refine tyL 23 35 (hy := yieldsIf_load_row (by rfl) 28 _ rfl (w.heap.size + 1) rfl (trC k n t (.slice kd lk kcap) (.slice ad N cap)) 28 (0, 0) _ (fun w hw => hw.2.1) Tryz.underlying28 rfl (by exact tr_size9)) (h := ?_)
 (try simp only [pq])
 refine tkO 22 (some 34) (h := fun K hK => ?_)
 go_simp
 go_at_call 31
 (with_reducible refine (HDE.out _ (by exact HW.out)).mono ?_)
 rintro r we ⟨rfl, hb⟩
 replace HW := Lib.hid (tW HW.out hb)
 clear hb
 dsimp only
 refine hK.out _ _ (by exact HKS.out _ HW.out) (fun hHeld => ?_)
 clear hK K
 (try simp only [pq])
 refine tkO 24 (some 36) (h := fun K hK => ?_)
 go_simp
 go_at_call 44
 (with_reducible refine (HRD.out _ (by exact HW.out)).mono ?_)
 rintro r wf ⟨rfl, hb⟩
 replace HW := Lib.hid (tW HW.out hb)
 clear hb
 dsimp only
 refine hK.out _ _ (by exact HKS.out _ HW.out) (fun hHeld => ?_)
 clear hK K
 (try simp only [pq])
 refine wpAnyT_takeL (i := 25) (oi := ⟨some 37, _, _, _, _, _⟩) (v := (.bool false)) rfl (by kernel_rfl) (by kernel_rfl) (by kernel_rfl) (by kernel_rfl) (fun _ _ _ h => h) (Or.inl ⟨by rfl, ?hg1_25⟩) (by assumption) ?rg1_25
 case hg1_25 => (intro w hSw; (try dsimp only at hSw); go_simp; first | done | rw [qt] | rw [d3] | simp [qt, d3])
 (try simp only [pq])
 refine tkL 26 38 (h := ?_)
 refine tkL 27 39 (h := ?_)
 (try simp only [pq])
 refine tyL 28 40 (hy := yieldsIf_load_row (by rfl) 35 _ rfl w.heap.size rfl (celC x) 35 (0, 0) _ (fun w hw => hw.1) Tryz.underlying35 rfl (by exact val_size)) (h := ?_)
 refine tyL 30 42 (hy := yieldsIf_load_row (by rfl) 28 _ rfl (w.heap.size + 1) rfl (trC k n t (.slice kd lk kcap) (.slice ad N cap)) 28 (0, 0) _ (fun w hw => hw.2.1) Tryz.underlying28 rfl (by exact tr_size9)) (h := ?_)
 (try simp only [pq])
 refine tkO 29 (some 41) (h := fun K hK => ?_)
 go_simp
 go_at_call 30
 (with_reducible refine (HNO.out _ (by exact HW.out)).mono ?_)
 rintro r wi ⟨rfl, hb⟩
 replace HW := Lib.hid (tW HW.out hb)
 clear hb
 dsimp only
 refine hK.out _ _ (by exact HKS.out _ HW.out) (fun hHeld => ?_)
 clear hK K
 (try simp only [pq])
 refine tkO 31 (some 43) (h := fun K hK => ?_)
 go_simp
 go_at_call 25
 (with_reducible refine (HRN.out _ (by exact HW.out)).mono ?_)
 rintro r wj ⟨rfl, hb⟩
 replace HW := Lib.hid (tW HW.out hb)
 clear hb
 dsimp only
 refine hK.out _ _ (by exact HKS.out _ HW.out) (fun hHeld => ?_)
 clear hK K
 (try simp only [pq])
 refine wpAnyT_takeL (i := 32) (oi := ⟨some 44, _, _, _, _, _⟩) (v := (.bool false)) rfl (by kernel_rfl) (by kernel_rfl) (by kernel_rfl) (by kernel_rfl) (fun _ _ _ h => h) (Or.inl ⟨by rfl, ?hg1_32⟩) (by assumption) ?rg1_32
 case hg1_32 => (intro w hSw; (try dsimp only at hSw); go_simp; first | done | rw [qt] | rw [d3] | simp [qt, d3])
 (try simp only [pq])
 refine tkL 33 45 (h := ?_)
 refine tkL 34 46 (h := ?_)
 (try simp only [pq])
 refine tyL 35 47 (hy := yieldsIf_load_row (by rfl) 35 _ rfl w.heap.size rfl (celC x) 35 (0, 0) _ (fun w hw => hw.1) Tryz.underlying35 rfl (by exact val_size)) (h := ?_)
 refine tyL 37 49 (hy := yieldsIf_load_row (by rfl) 28 _ rfl (w.heap.size + 1) rfl (trC k n t (.slice kd lk kcap) (.slice ad N cap)) 28 (0, 0) _ (fun w hw => hw.2.1) Tryz.underlying28 rfl (by exact tr_size9)) (h := ?_)
 (try simp only [pq])
 refine tkO 36 (some 48) (h := fun K hK => ?_)
 go_simp
 go_at_call 28
 (with_reducible refine (HKY.out _ (by exact HW.out)).mono ?_)
 rintro r wk ⟨rfl, hb⟩
 replace HW := Lib.hid (tW HW.out hb)
 clear hb
 dsimp only
 refine hK.out _ _ (by exact HKS.out _ HW.out) (fun hHeld => ?_)
 clear hK K
 (try simp only [pq])
 refine tkO 38 (some 50) (h := fun K hK => ?_)
 go_simp
 go_at_call 45
 (with_reducible refine (HRK.out _ (by exact HW.out)).mono ?_)
 rintro r wm ⟨rfl, hb⟩
 replace HW := Lib.hid (tW HW.out hb)
 clear hb
 dsimp only
 refine hK.out _ _ (by exact HKS.out _ HW.out) (fun hHeld => ?_)
 clear hK K
 (try simp only [pq])
 refine wpAnyT_takeL (i := 39) (oi := ⟨some 51, _, _, _, _, _⟩) (v := (.bool false)) rfl (by kernel_rfl) (by kernel_rfl) (by kernel_rfl) (by kernel_rfl) (fun _ _ _ h => h) (Or.inl ⟨by rfl, ?hg1_39⟩) (by assumption) ?rg1_39
 case hg1_39 => (intro w hSw; (try dsimp only at hSw); go_simp; first | done | rw [qt] | rw [d3] | simp [qt, d3])
 (try simp only [pq])
 refine tkL 40 52 (h := ?_)
 (try simp only [pq])
 refine wpAnyT_done (by kernel_rfl) ?_ _
 clear hHeld
 have HBD := HW
 clear HW
 have HW : Hid (Below w3.heap.size w3 wm.drew) := HBD.out.trans ((drawn_below wm).mono HBD.out.size)
 clear HBD
 go_upto_region 4 with fail
 by_cases c3 : k ≤ 3
 ·have d3 : decide (k ≤ 3) = true := decide_eq_true c3
  obtain rfl : sc = #[.int .i64 k, .int .i64 n, .string t] := by rw [HSE.out.1, if_pos c3]
  obtain rfl : b = true := by rw [HSE.out.2, d3]
  clear c3
  refine wp_region_T (S := (fun V => V.heap[w.heap.size]? = some (.cells (celC x) 35 (0, 0)) ∧ V.heap[(w.heap.size + 1)]? = some (.cells (trC k n t (.slice kd lk kcap) (.slice ad N cap)) 28 (0, 0)) ∧ V.heap[Y]? = some (.cells #[.int .i64 k, .int .i64 n, .string t] 32 (0, 0)) ∧ V.cell? ⟨w.heap.size + 1, 0, none⟩ = some (.int .i64 k) ∧ V.cell? ⟨w.heap.size + 1, 4, none⟩ = some (.slice ad N cap))) [] (by kernel_rfl) (by exact HKS.out _ HW.out) (fun hHeld => ?_)
  refine tkL 0 53 (h := ?_)
  refine tkL 1 54 (h := ?_)
  (try simp only [pq])
  refine tkL 2 55 (h := ?_)
  (try simp only [pq])
  refine wpAnyT_takeL (i := 3) (oi := ⟨some 56, _, _, _, _, _⟩) (v := (.bool true)) rfl (by kernel_rfl) (by kernel_rfl) (by kernel_rfl) (by kernel_rfl) (fun _ _ _ h => h) (Or.inl ⟨by rfl, ?hg2_3⟩) (by assumption) ?rg2_3
  case hg2_3 => (intro w hSw; (try dsimp only at hSw); go_simp; first | done | rw [qt] | rw [d3] | simp [qt, d3])
  (try simp only [pq])
  refine wpAnyT_takeL (i := 4) (oi := ⟨some 57, _, _, _, _, _⟩) (v := (.bool false)) rfl (by kernel_rfl) (by kernel_rfl) (by kernel_rfl) (by kernel_rfl) (fun _ _ _ h => h) (Or.inl ⟨by rfl, ?hg2_4⟩) (by assumption) ?rg2_4
  case hg2_4 => (intro w hSw; (try dsimp only at hSw); go_simp; first | done | rw [qt] | rw [d3] | simp [qt, d3])
  (try simp only [pq])
  refine tkL 5 58 (h := ?_)
  refine tkL 6 59 (h := ?_)
  (try simp only [pq])
  refine tkL 7 60 (h := ?_)
  refine tyL 8 61 (hy := yieldsIf_load_row (by rfl) 32 _ rfl Y rfl #[.int .i64 k, .int .i64 n, .string t] 32 (0, 0) _ (fun w hw => hw.2.2.1) Tryz.underlying32 rfl (by exact sc_size9)) (h := ?_)
  (try simp only [pq])
  refine tyL 9 62 (hy := yieldsIf_load_row (by rfl) 28 _ rfl (w.heap.size + 1) rfl (trC k n t (.slice kd lk kcap) (.slice ad N cap)) 28 (0, 0) _ (fun w hw => hw.2.1) Tryz.underlying28 rfl (by exact tr_size9)) (h := ?_)
  (try simp only [pq])
  refine tkO 10 (some 63) (h := fun K hK => ?_)
  go_simp
  go_at_call 46
  (with_reducible refine (HPL.out _ (by exact HW.out)).mono ?_)
  rintro r wn ⟨rfl, hb⟩
  replace HW := Lib.hid (tW HW.out hb)
  clear hb
  dsimp only
  refine hK.out _ _ (by exact HKS.out _ HW.out) (fun hHeld => ?_)
  clear hK K
  (try simp only [pq])
  refine wpAnyT_takeL (i := 11) (oi := ⟨some 64, _, _, _, _, _⟩) (v := (.bool false)) rfl (by kernel_rfl) (by kernel_rfl) (by kernel_rfl) (by kernel_rfl) (fun _ _ _ h => h) (Or.inl ⟨by rfl, ?hg2_11⟩) (by assumption) ?rg2_11
  case hg2_11 => (intro w hSw; (try dsimp only at hSw); go_simp; first | done | rw [qt] | rw [d3] | simp [qt, d3])
  (try simp only [pq])
  refine tkL 12 65 (h := ?_)
  refine tkL 13 66 (h := ?_)
  (try simp only [pq])
  refine tkL 14 67 (h := ?_)
  refine tkL 15 68 (h := ?_)
  (try simp only [pq])
  refine tkL 16 69 (h := ?_)
  refine tkL 17 70 (h := ?_)
  (try simp only [pq])
  refine wpAnyT_takeL (i := 18) (oi := ⟨some 71, _, _, _, _, _⟩) (v := undef) rfl (by kernel_rfl) (by kernel_rfl) (by kernel_rfl) (by kernel_rfl) (fun _ _ _ h => h) (Or.inr ⟨by rfl, rfl⟩) (by assumption) ?_
  (try simp only [pq])
  refine wpAnyT_takeL (i := 19) (oi := ⟨some 72, _, _, _, _, _⟩) (v := undef) rfl (by kernel_rfl) (by kernel_rfl) (by kernel_rfl) (by kernel_rfl) (fun _ _ _ h => h) (Or.inr ⟨by rfl, rfl⟩) (by assumption) ?_
  (try simp only [pq])
  refine wpAnyT_takeL (i := 20) (oi := ⟨some 73, _, _, _, _, _⟩) (v := undef) rfl (by kernel_rfl) (by kernel_rfl) (by kernel_rfl) (by kernel_rfl) (fun _ _ _ h => h) (Or.inr ⟨by rfl, rfl⟩) (by assumption) ?_
  (try simp only [pq])
  refine tkL 21 74 (h := ?_)
  refine tkL 22 75 (h := ?_)
  (try simp only [pq])
  refine wpAnyT_done (by kernel_rfl) ?_ _
  clear hHeld
  have HBD := HW
  clear HW
  have HW : Hid (Below w3.heap.size w3 wn.drew) := HBD.out.trans ((drawn_below wn).mono HBD.out.size)
  clear HBD
  go_upto_region 6 with fail
  refine wp_region_T (S := (fun V => V.heap[w.heap.size]? = some (.cells (celC x) 35 (0, 0)) ∧ V.heap[(w.heap.size + 1)]? = some (.cells (trC k n t (.slice kd lk kcap) (.slice ad N cap)) 28 (0, 0)) ∧ V.heap[Y]? = some (.cells #[.int .i64 k, .int .i64 n, .string t] 32 (0, 0)) ∧ V.cell? ⟨w.heap.size + 1, 0, none⟩ = some (.int .i64 k) ∧ V.cell? ⟨w.heap.size + 1, 4, none⟩ = some (.slice ad N cap))) [] (by kernel_rfl) (by exact HKS.out _ HW.out) (fun hHeld => ?_)
  refine tyL 0 76 (hy := yieldsIf_load_row (by rfl) 35 _ rfl w.heap.size rfl (celC x) 35 (0, 0) _ (fun w hw => hw.1) Tryz.underlying35 rfl (by exact val_size)) (h := ?_)
  refine tyL 2 78 (hy := yieldsIf_load_row (by rfl) 28 _ rfl (w.heap.size + 1) rfl (trC k n t (.slice kd lk kcap) (.slice ad N cap)) 28 (0, 0) _ (fun w hw => hw.2.1) Tryz.underlying28 rfl (by exact tr_size9)) (h := ?_)
  (try simp only [pq])
  refine tkO 1 (some 77) (h := fun K hK => ?_)
  go_simp
  go_at_call 18
  (with_reducible refine (HVS.out _ (by exact HW.out)).mono ?_)
  rintro r wo ⟨u1, rfl, hr, hb⟩
  have HU1 := Lib.hid hr
  replace HW := Lib.hid (tW HW.out hb)
  clear hb hr
  dsimp only
  refine hK.out _ _ (by exact HKS.out _ HW.out) (fun hHeld => ?_)
  clear hK K
  (try simp only [pq])
  refine tkO 3 (some 79) (h := fun K hK => ?_)
  go_simp
  go_at_call 48
  (with_reducible refine (HRS.out _ (by exact HW.out)).mono ?_)
  rintro r wp ⟨u2, rfl, hr, hb⟩
  have HU2 := Lib.hid hr
  replace HU1 := Lib.hid (HU1.out.later hb)
  replace HW := Lib.hid (tW HW.out hb)
  clear hb hr
  dsimp only
  refine hK.out _ _ (by exact HKS.out _ HW.out) (fun hHeld => ?_)
  clear hK K
  (try simp only [pq])
  refine tkO 4 (some 80) (h := fun K hK => ?_)
  go_simp
  go_at_call 47
  (with_reducible refine (HSS.out _ _ _ HU1.out HU2.out).mono ?_)
  rintro r wq ⟨rfl, hb⟩
  replace HW := Lib.hid (tW HW.out hb)
  clear hb
  dsimp only
  refine hK.out _ _ (by exact HKS.out _ HW.out) (fun hHeld => ?_)
  clear hK K
  (try simp only [pq])
  refine tkL 5 4 (h := ?_)
  (try simp only [pq])
  refine wpAnyT_done (by kernel_rfl) ?_ _
  clear hHeld
  go_wp2_with fail
  have hb := HB1.out.trans ((tW HB3.out HW.out).mono HB1.out.size)
  go_ret
  exact ⟨rfl, hb⟩
 ·have d3 : decide (k ≤ 3) = false := decide_eq_false c3
  obtain rfl : sc = #[.int .i64 0, .int .i64 0, .string ⟨#[]⟩] := by rw [HSE.out.1, if_neg c3]
  obtain rfl : b = false := by rw [HSE.out.2, d3]
  clear c3
  refine wp_region_T (S := (fun V => V.heap[w.heap.size]? = some (.cells (celC x) 35 (0, 0)) ∧ V.heap[(w.heap.size + 1)]? = some (.cells (trC k n t (.slice kd lk kcap) (.slice ad N cap)) 28 (0, 0)) ∧ V.heap[Y]? = some (.cells #[.int .i64 0, .int .i64 0, .string ⟨#[]⟩] 32 (0, 0)) ∧ V.cell? ⟨w.heap.size + 1, 0, none⟩ = some (.int .i64 k) ∧ V.cell? ⟨w.heap.size + 1, 4, none⟩ = some (.slice ad N cap))) [] (by kernel_rfl) (by exact HKS.out _ HW.out) (fun hHeld => ?_)
  refine tkL 0 53 (h := ?_)
  refine tkL 1 54 (h := ?_)
  (try simp only [pq])
  refine tkL 2 55 (h := ?_)
  (try simp only [pq])
  refine wpAnyT_takeL (i := 3) (oi := ⟨some 56, _, _, _, _, _⟩) (v := (.bool false)) rfl (by kernel_rfl) (by kernel_rfl) (by kernel_rfl) (by kernel_rfl) (fun _ _ _ h => h) (Or.inl ⟨by rfl, ?hg4_3⟩) (by assumption) ?rg4_3
  case hg4_3 => (intro w hSw; (try dsimp only at hSw); go_simp; first | done | rw [qt] | rw [d3] | simp [qt, d3])
  (try simp only [pq])
  refine wpAnyT_takeL (i := 4) (oi := ⟨some 57, _, _, _, _, _⟩) (v := (.bool false)) rfl (by kernel_rfl) (by kernel_rfl) (by kernel_rfl) (by kernel_rfl) (fun _ _ _ h => h) (Or.inl ⟨by rfl, ?hg4_4⟩) (by assumption) ?rg4_4
  case hg4_4 => (intro w hSw; (try dsimp only at hSw); go_simp; first | done | rw [qt] | rw [d3] | simp [qt, d3])
  (try simp only [pq])
  refine tkL 5 58 (h := ?_)
  refine tkL 6 59 (h := ?_)
  (try simp only [pq])
  refine tkL 7 60 (h := ?_)
  (try simp only [pq])
  refine wpAnyT_takeL (i := 8) (oi := ⟨some 61, _, _, _, _, _⟩) (v := undef) rfl (by kernel_rfl) (by kernel_rfl) (by kernel_rfl) (by kernel_rfl) (fun _ _ _ h => h) (Or.inr ⟨by rfl, rfl⟩) (by assumption) ?_
  (try simp only [pq])
  refine wpAnyT_takeL (i := 9) (oi := ⟨some 62, _, _, _, _, _⟩) (v := undef) rfl (by kernel_rfl) (by kernel_rfl) (by kernel_rfl) (by kernel_rfl) (fun _ _ _ h => h) (Or.inr ⟨by rfl, rfl⟩) (by assumption) ?_
  (try simp only [pq])
  refine wpAnyT_takeL (i := 10) (oi := ⟨some 63, _, _, _, _, _⟩) (v := undef) rfl (by kernel_rfl) (by kernel_rfl) (by kernel_rfl) (by kernel_rfl) (fun _ _ _ h => h) (Or.inr ⟨by rfl, rfl⟩) (by assumption) ?_
  (try simp only [pq])
  refine wpAnyT_takeL (i := 11) (oi := ⟨some 64, _, _, _, _, _⟩) (v := undef) rfl (by kernel_rfl) (by kernel_rfl) (by kernel_rfl) (by kernel_rfl) (fun _ _ _ h => h) (Or.inr ⟨by rfl, rfl⟩) (by assumption) ?_
  (try simp only [pq])
  refine tkL 12 65 (h := ?_)
  refine tkL 13 66 (h := ?_)
  (try simp only [pq])
  refine tkL 14 67 (h := ?_)
  refine tkL 15 68 (h := ?_)
  (try simp only [pq])
  refine tkL 16 69 (h := ?_)
  refine tkL 17 70 (h := ?_)
  (try simp only [pq])
  refine tyL 18 71 (hy := yieldsIf_load_row (by rfl) 32 _ rfl Y rfl #[.int .i64 0, .int .i64 0, .string ⟨#[]⟩] 32 (0, 0) _ (fun w hw => hw.2.2.1) Tryz.underlying32 rfl (by exact sc_size9)) (h := ?_)
  refine tkL 19 72 (h := ?_)
  (try simp only [pq])
  refine wpAnyT_takeL (i := 20) (oi := ⟨some 73, _, _, _, _, _⟩) (v := (.bool false)) rfl (by kernel_rfl) (by kernel_rfl) (by kernel_rfl) (by kernel_rfl) (fun _ _ _ h => h) (Or.inl ⟨by rfl, ?hg4_20⟩) (by assumption) ?rg4_20
  case hg4_20 => (intro w hSw; (try dsimp only at hSw); go_simp; first | done | rw [qt] | rw [d3] | simp [qt, d3])
  (try simp only [pq])
  refine tkL 21 74 (h := ?_)
  refine tkL 22 75 (h := ?_)
  (try simp only [pq])
  refine wpAnyT_done (by kernel_rfl) ?_ _
  clear hHeld
  have HBD := HW
  clear HW
  have HW : Hid (Below w3.heap.size w3 wm.drew.drew) := HBD.out.trans ((drawn_below wm.drew).mono HBD.out.size)
  clear HBD
  go_upto_region 6 with fail
  refine wp_region_T (S := (fun V => V.heap[w.heap.size]? = some (.cells (celC x) 35 (0, 0)) ∧ V.heap[(w.heap.size + 1)]? = some (.cells (trC k n t (.slice kd lk kcap) (.slice ad N cap)) 28 (0, 0)) ∧ V.heap[Y]? = some (.cells #[.int .i64 0, .int .i64 0, .string ⟨#[]⟩] 32 (0, 0)) ∧ V.cell? ⟨w.heap.size + 1, 0, none⟩ = some (.int .i64 k) ∧ V.cell? ⟨w.heap.size + 1, 4, none⟩ = some (.slice ad N cap))) [] (by kernel_rfl) (by exact HKS.out _ HW.out) (fun hHeld => ?_)
  refine tyL 0 76 (hy := yieldsIf_load_row (by rfl) 35 _ rfl w.heap.size rfl (celC x) 35 (0, 0) _ (fun w hw => hw.1) Tryz.underlying35 rfl (by exact val_size)) (h := ?_)
  refine tyL 2 78 (hy := yieldsIf_load_row (by rfl) 28 _ rfl (w.heap.size + 1) rfl (trC k n t (.slice kd lk kcap) (.slice ad N cap)) 28 (0, 0) _ (fun w hw => hw.2.1) Tryz.underlying28 rfl (by exact tr_size9)) (h := ?_)
  (try simp only [pq])
  refine tkO 1 (some 77) (h := fun K hK => ?_)
  go_simp
  go_at_call 18
  (with_reducible refine (HVS.out _ (by exact HW.out)).mono ?_)
  rintro r wo ⟨u1, rfl, hr, hb⟩
  have HU1 := Lib.hid hr
  replace HW := Lib.hid (tW HW.out hb)
  clear hb hr
  dsimp only
  refine hK.out _ _ (by exact HKS.out _ HW.out) (fun hHeld => ?_)
  clear hK K
  (try simp only [pq])
  refine tkO 3 (some 79) (h := fun K hK => ?_)
  go_simp
  go_at_call 48
  (with_reducible refine (HRS.out _ (by exact HW.out)).mono ?_)
  rintro r wp ⟨u2, rfl, hr, hb⟩
  have HU2 := Lib.hid hr
  replace HU1 := Lib.hid (HU1.out.later hb)
  replace HW := Lib.hid (tW HW.out hb)
  clear hb hr
  dsimp only
  refine hK.out _ _ (by exact HKS.out _ HW.out) (fun hHeld => ?_)
  clear hK K
  (try simp only [pq])
  refine tkO 4 (some 80) (h := fun K hK => ?_)
  go_simp
  go_at_call 47
  (with_reducible refine (HSS.out _ _ _ HU1.out HU2.out).mono ?_)
  rintro r wq ⟨rfl, hb⟩
  replace HW := Lib.hid (tW HW.out hb)
  clear hb
  dsimp only
  refine hK.out _ _ (by exact HKS.out _ HW.out) (fun hHeld => ?_)
  clear hK K
  (try simp only [pq])
  refine tkL 5 4 (h := ?_)
  (try simp only [pq])
  refine wpAnyT_done (by kernel_rfl) ?_ _
  clear hHeld
  go_wp2_with fail
  have hb := HB1.out.trans ((tW HB3.out HW.out).mono HB1.out.size)
  go_ret
  exact ⟨rfl, hb⟩
end Go.Proofs.YtpodmgihlomglaaGreatDoor
