import Derived.Test.YtpodmgihlomglaaGreatDoorP32
import Derived.Test.YtpodmgihlomglaaGreatDoorP33
namespace Go.Proofs.YtpodmgihlomglaaGreatDoor
open Go.RowKit
set_option maxRecDepth 1000000
set_option linter.unusedSimpArgs false
theorem va_Tree (a : Tr) : TreeOf a := tr_ind (P := TreeOf) (fun k n t ks xs ih => va_Tree1 (.nd k n t ks xs) ih) a
theorem va_value (a : Tr) : RdOf a := tr_ind (P := RdOf) (fun k n t ks xs ih => va_rd1 (.nd k n t ks xs) ih) a
theorem rd_size3 : (Tryz.prog.info? 79).map (·.size) = some 3 := by kernel_rfl
set_option maxHeartbeats 8000000 in
theorem va_Of (a : Tr) (v : Value) (w : World) (s : Nat) (bb : Int) (hv : TrV w a v) (hfew : FewT 2000 a) (htxt : TxtT 3000 a) (hnod : nodT a ≤ 100000) (hs : s < 18446744073709551616) (hT : Tab6 w) :
  Calls Tryz.prog 13 #[.agg #[.int .u64 (s : Int), .int .i64 bb], v] w fun e w' => ∃ y, e = .returned (.tuple #[.agg (celC y), .int .i64 (chkT a)]) ∧ VAt (fun g => w.heap.size ≤ g) w' (if chkT a = 0 then canT a else nullT) y ∧ Below w.heap.size w w' := by
 obtain ⟨k, n, t, ks, xs⟩ := a
 have hv0 := hv
 obtain ⟨kv, xv, rfl, ht, _, _, ⟨kd, kcap, kb1, ko, rfl, k1, k2, k3⟩, ad, cap, bt, oo, rfl, h1, hmax, h2⟩ := hv.open'
 obtain ⟨A, hA⟩ : ∃ A, A = Tr.nd k n t ks xs := ⟨_, rfl⟩
 obtain ⟨lk, hlk⟩ : ∃ lk, lk = ks.length := ⟨_, rfl⟩
 obtain ⟨lx, hlx⟩ : ∃ lx, lx = xs.length := ⟨_, rfl⟩
 rw [← hA, ← hlk, ← hlx] at hv0
 rw [← hA] at hfew htxt hnod
 rw [← hA, ← hlk, ← hlx]
 obtain ⟨R, hR⟩ : ∃ R, R = (if chkT A = 0 then canT A else nullT) := ⟨_, rfl⟩
 rw [← hR]
 obtain ⟨w1, hw1⟩ : ∃ w1, ((w.alloc (.cells #[.int .u64 (s : Int), .int .i64 bb] 24)).alloc (.cells (trC k n t (.slice kd lk kcap) (.slice ad lx cap)) 28)).alloc (.cells #[.int .i64 0, .int .i64 0, .string ⟨#[]⟩, .pointer none] 35) = w1 := ⟨_, rfl⟩
 obtain ⟨hb1, hc1, hx1, hr1, hs1⟩ := three_newG hw1
 have hVL : ∀ V, Below w1.heap.size w1 V → V.heap[w1.heap.size]? = some (.cells #[.int .u64 (s : Int), .int .i64 bb, .int .i64 0] 79 (0, 0)) → Calls Tryz.prog 41 #[.pointer (some ⟨w1.heap.size, 0, none⟩), .agg (trC k n t (.slice kd lk kcap) (.slice ad lx cap)), .int .i64 1] V fun e w' => ∃ y, e = .returned (.tuple #[.agg (celC y), .int .i64 (chkT A)]) ∧ VAt (fun g => V.heap.size ≤ g) w' R y ∧ V.grownBy w' (some w1.heap.size) := fun V hV hr => by
  rw [hR]
  exact (va_value A _ V w1.heap.size s bb 1 0 (hv0.later (tW hb1 hV)) hfew htxt hnod hr hs (hT.below (tW hb1 hV)) (fun e => by have := Option.some.inj e; omega) (by omega) (by omega)).mono fun e w' ⟨y, h1, h2, _, h3⟩ => ⟨y, h1, h2, h3⟩
 have HVL := Lib.hid hVL
 have HC1 := Lib.hid hc1
 have HX1 := Lib.hid hx1
 have HR1 := Lib.hid hr1
 have HB1 := Lib.hid hb1
 have HS1 := Lib.hid hs1
 clear hVL hc1 hx1 hr1 hb1 hs1 hv hv0 hfew htxt hnod hs hT h1 h2 k1 k2 hA hlk hlx hR
 go_enter Tryz.func13, Tryz.ntmps13
 go_upto_region 1 with fail
 clear hw1
 go_wp2_with (first
  | (refine ld_if rfl 24 _ rfl w.heap.size rfl 24 _ _ _ HC1.out Tryz.underlying24 rfl api_size ?_)
  | (refine st_agg rfl 79 _ _ rfl w1.heap.size #[.int .u64 (s : Int), .int .i64 bb, .int .i64 0] rfl rfl 79 #[.int .u64 0, .int .i64 0, .int .i64 0] (heap_alloc_last _ _) rd_size3 rfl (by simp [Value.oneCell']) ?_; intro w2 h2 k2; have hb2 : Below w1.heap.size w1 w2 := (Below.newly' _ _).trans (k2.below (Nat.le_refl _)); have HX2 := Lib.hid (kW hb2 HX1.out); have HR2 := Lib.hid (kW hb2 HR1.out); have HB2 := Lib.hid hb2; have HQ2 := Lib.hid h2; clear hb2 h2 k2)
  | (refine ld_if rfl 28 _ rfl (w.heap.size + 1) rfl 28 _ _ _ HX2.out Tryz.underlying28 rfl tr_size5 ?_)
  | (go_at_call 41; (with_reducible refine (HVL.out _ HB2.out HQ2.out).mono ?_); rintro e w3 ⟨y, rfl, hy, hg⟩; have HR3 := Lib.hid ((hg.block _ (Array.getElem?_eq_some_iff.1 HR2.out).1 (fun e => by have := Option.some.inj e; have := HS1.out; omega)).trans HR2.out); have HY := Lib.hid hy; have HG := Lib.hid hg; clear hy hg)
  | (refine st_agg rfl 35 _ _ rfl (w.heap.size + 2) (celC y) rfl rfl 35 _ HR3.out val_size rfl (celC_one y) ?_; intro w9 h9 k9))
 have hs1 := HS1.out
 have hsz := HB2.out.size
 have hb3 : Below w.heap.size w w3 := (tW HB1.out HB2.out).grown HG.out (by have := HB1.out.size; omega) fun k e => by have := Option.some.inj e; omega
 refine bodyPost_ret (results_cell_row1 rfl _ _ (w.heap.size + 2) 35 _ (0, 0) _ rfl h9 Tryz.underlying35 rfl val_size) rfl ⟨y, rfl, (HY.out.imp (Kq.only k9 ?_) fun g h _ => ?_), hb3.trans (k9.below (by omega))⟩
 ·intro h
  omega
 ·omega
set_option maxHeartbeats 8000000 in
theorem va_Check (a : Tr) (v : Value) (w : World) (hv : TrV w a v) (hfew : FewT 2000 a) (htxt : TxtT 3000 a) (hnod : nodT a ≤ 100000) (hT : Tab6 w) :
  Calls Tryz.prog 15 #[v] w fun e w' => e = .returned (.int .i64 (chkT a)) ∧ Below w.heap.size w w' := by
 obtain ⟨k, n, t, ks, xs⟩ := a
 have hv0 := hv
 obtain ⟨kv, xv, rfl, ht, _, _, ⟨kd, kcap, kb1, ko, rfl, k1, k2, k3⟩, ad, cap, bt, oo, rfl, h1, hmax, h2⟩ := hv.open'
 obtain ⟨A, hA⟩ : ∃ A, A = Tr.nd k n t ks xs := ⟨_, rfl⟩
 obtain ⟨lk, hlk⟩ : ∃ lk, lk = ks.length := ⟨_, rfl⟩
 obtain ⟨lx, hlx⟩ : ∃ lx, lx = xs.length := ⟨_, rfl⟩
 rw [← hA, ← hlk, ← hlx] at hv0
 rw [← hA] at hfew htxt hnod
 rw [← hA, ← hlk, ← hlx]
 obtain ⟨w1, hw1⟩ : ∃ w1, w.alloc (.cells (trC k n t (.slice kd lk kcap) (.slice ad lx cap)) 28) = w1 := ⟨_, rfl⟩
 obtain ⟨hb1, hx1, hs1⟩ := new_below hw1
 have hOF : ∀ V, Below w1.heap.size w1 V → Calls Tryz.prog 13 #[.agg #[.int .u64 0, .int .i64 64], .agg (trC k n t (.slice kd lk kcap) (.slice ad lx cap))] V fun e w' => ∃ y, e = .returned (.tuple #[.agg (celC y), .int .i64 (chkT A)]) ∧ Below V.heap.size V w' := fun V hV =>
  (va_Of A _ V 0 64 (hv0.later (tW hb1 hV)) hfew htxt hnod (by decide) (hT.below (tW hb1 hV))).mono fun e w' ⟨y, h1, _, h3⟩ => ⟨y, h1, h3⟩
 have HOF := Lib.hid hOF
 have HX1 := Lib.hid hx1
 have HB1 := Lib.hid hb1
 clear hOF hx1 hb1 hs1 hv hv0 hfew htxt hnod hT h1 h2 k1 k2 hA hlk hlx
 go_enter Tryz.func15, Tryz.ntmps15
 go_upto_region 1 with fail
 clear hw1
 go_wp2_with (first
  | (refine ld_if rfl 28 _ rfl w.heap.size rfl 28 _ _ _ HX1.out Tryz.underlying28 rfl tr_size5 ?_)
  | (go_at_call 13; (with_reducible refine (HOF.out _ (Below.refl _ _)).mono ?_); rintro e w3 ⟨y, rfl, hb3⟩; have HB3 := Lib.hid (tW HB1.out hb3); clear hb3)
  | (refine st_agg rfl 35 _ _ rfl w3.heap.size (celC y) rfl rfl 35 #[.int .i64 0, .int .i64 0, .string ⟨#[]⟩, .pointer none] (heap_alloc_last _ _) val_size rfl (celC_one y) ?_; intro w9 h9 k9))
 have hb9 : Below w3.heap.size w3 w9 := (Below.newly' _ _).trans (k9.below (Nat.le_refl _))
 have hb := tW HB3.out hb9
 go_ret
 exact ⟨rfl, hb⟩
end Go.Proofs.YtpodmgihlomglaaGreatDoor
