import Derived.Test.YtpodmgihlomglaaGreatDoorP26
namespace Go.Proofs.YtpodmgihlomglaaGreatDoor
open Go.RowKit
set_option maxRecDepth 1000000
set_option linter.unusedSimpArgs false
theorem keyL_ks {k : Int} (hk : k ≠ 5) : ∀ (l ks : List ByteArray) {xs : List Tr}, keyL k l xs = keyL k ks xs
 | l, ks, [] => by rw [keyL, keyL]
 | l, ks, x :: r => by rw [keyL, keyL, if_neg hk, if_neg hk, keyL_ks hk l.tail ks.tail]
theorem sc_size9 : (Tryz.prog.info? 32).map (·.size) = some 3 := by kernel_rfl
set_option maxHeartbeats 8000000 in
theorem rf_Plain (w : World) (k n : Int) (t : ByteArray) (a : Option Addr) (l c : Nat) (a' : Option Addr) (l' c' : Nat) : Calls Tryz.prog 46 #[.agg (trC k n t (.slice a l c) (.slice a' l' c'))] w fun e w' => e = .returned (.agg #[.int .i64 k, .int .i64 n, .string t]) ∧ Below w.heap.size w w' := by
 obtain ⟨w1, hw1⟩ : ∃ w1, (w.alloc (.cells (trC k n t (.slice a l c) (.slice a' l' c')) 28)).alloc (.cells #[.int .i64 0, .int .i64 0, .string ⟨#[]⟩] 32) = w1 := ⟨_, rfl⟩
 obtain ⟨hb1, hx1, hr1, hs1⟩ := two_new hw1
 have cx0 : w1.cell? ⟨w.heap.size, 0, none⟩ = some (.int .i64 k) := cell_in hx1 rfl
 have cx1 : w1.cell? ⟨w.heap.size, 1, none⟩ = some (.int .i64 n) := cell_in hx1 rfl
 have cx2 : w1.cell? ⟨w.heap.size, 2, none⟩ = some (.string t) := cell_in hx1 rfl
 have HR1 := Lib.hid hr1
 have HB1 := Lib.hid hb1
 clear hx1 hr1 hb1 hs1
 go_enter Tryz.func46, Tryz.ntmps46
 go_upto_region 1 with fail
 clear hw1
 go_wp2_with (first
  | (refine st_agg rfl 32 _ _ rfl (w.heap.size + 1) #[.int .i64 k, .int .i64 n, .string t] rfl rfl 32 _ HR1.out sc_size9 rfl (by simp [Value.oneCell']) ?_; intro w8 h8 k8))
 exact bodyPost_ret (results_cell_row rfl _ _ (w.heap.size + 1) 32 _ (0, 0) _ rfl h8 Tryz.underlying32 rfl sc_size9) rfl ⟨rfl, HB1.out.trans (k8.below (by omega))⟩
set_option maxHeartbeats 8000000 in
theorem rf_Key (a : Tr) : ∀ (v : Value) (w : World), TrV w a v → ValB a → Calls Tryz.prog 45 #[v] w fun e w' => e = .returned (.string (kB a)) ∧ Below w.heap.size w w' := by
 induction a using tr_ind with
 | h k n t ks xs ih =>
  intro v w hv ha
  obtain ⟨kv, xv, rfl, ht, _, hn, ⟨kd, kcap, kb1, ko, rfl, k1, k2, k3⟩, ad, cap, bb, oo, rfl, h1, hmax, h2⟩ := hv.open'
  obtain ⟨N, hN⟩ : ∃ N, N = xs.length := ⟨_, rfl⟩
  have hN4 : N ≤ 16383 := by rw [hN]; exact ha.len
  obtain ⟨lk, hlk⟩ : ∃ lk, lk = ks.length := ⟨_, rfl⟩
  rw [← hN] at h1 ⊢
  rw [← hlk] at k1 ⊢
  have HIH := Lib.hid ih
  have HLO := Lib.hid h1
  have HLC := Lib.hid h2
  have HVB := Lib.hid ha
  have hkd := ha.kind
  simp only [Tr.k] at hkd
  clear ih h1 h2 hmax k3
  by_cases hk3 : k ≤ 3
  ·have HKB : Hid (kB (.nd k n t ks xs) = ⟨(keySc (k, n, t.data.toList)).toArray⟩) := by
    show _ = _
    unfold kB
    rw [keyT, if_pos hk3]
    rfl
   have HSK := Lib.hid (fun W => ref_Key5 k n t W hn (Nat.le_trans (txtT_iff.1 ha.2).1 (by decide)))
   have HPL := Lib.hid (fun W => rf_Plain W k n t kd lk kcap ad N cap)
   obtain ⟨w1, hw1⟩ : ∃ w1, w.alloc (.cells (trC k n t (.slice kd lk kcap) (.slice ad N cap)) 28) = w1 := ⟨_, rfl⟩
   obtain ⟨hb1, hx1, hs1⟩ := new_below hw1
   have cx0 : w1.cell? ⟨w.heap.size, 0, none⟩ = some (.int .i64 k) := cell_in hx1 rfl
   have HX1 := Lib.hid hx1
   have HW := Lib.hid hb1
   clear hb1 hx1 hs1 k1 k2 hN hlk hkd ha hv ht hn
   go_enter Tryz.func45, Tryz.ntmps45
   go_upto_region 1 with fail
   clear hw1
   go_wp2_with (first
    | (refine ld_if rfl 28 _ rfl w.heap.size rfl 28 _ _ _ HX1.out Tryz.underlying28 rfl tr_size ?_)
    | (go_at_call 46; (with_reducible refine (HPL.out _).mono ?_); rintro r V ⟨rfl, hb⟩; replace HW := Lib.hid (tW HW.out hb); clear hb)
    | (go_at_call 83; (with_reducible refine (HSK.out _).mono ?_); rintro r V ⟨rfl, hb⟩; replace HW := Lib.hid (tW HW.out hb); clear hb))
   have hb := HW.out
   go_ret
   exact ⟨by rw [HKB.out]; rfl, hb⟩
  rcases (show k = 4 ∨ k = 5 ∨ k = 6 by omega) with hk | hk | hk
  ·subst hk
   have hc0 : (⟨#[bt8 5]⟩ : ByteArray) = ⟨(bt8 (4 + 1) :: keyL 4 (ks.take 0) (xs.take 0)).toArray⟩ := by rw [List.take_zero, List.take_zero, keyL]; rfl
   have hkl : True := trivial
   have htot : (keyL 4 ks xs).length + 2 ≤ 200000000 := by
    have h := ha.key
    rw [keyT, if_neg (by decide), List.length_cons, List.length_append] at h
    simpa using h
   have HTOT := Lib.hid htot
   have HKL := Lib.hid (And.intro hkl (And.intro k1 (And.intro hN hlk)))
   have HKC := Lib.hid k2
   have HC0 := Lib.hid hc0
   obtain ⟨w1, hw1⟩ : ∃ w1, w.alloc (.cells (trC 4 n t (.slice kd lk kcap) (.slice ad N cap)) 28) = w1 := ⟨_, rfl⟩
   obtain ⟨hb1, hx1, hs1⟩ := new_below hw1
   have HXC : Hid (∀ W, Below w1.heap.size w1 W → ∀ (i : Nat) (u : Value), (trC 4 n t (.slice kd lk kcap) (.slice ad N cap))[i]? = some u → W.cell? ⟨w.heap.size, i, none⟩ = some u) := fun W hb i u hu => cell_in ((kW hb hx1)) hu
   have HB1 := Lib.hid hb1
   have cx0 : w1.cell? ⟨w.heap.size, 0, none⟩ = some (.int .i64 4) := cell_in hx1 rfl
   have hcv := cv1_run
   have hca : ∀ (w : World) (a : Addr), cv1 w a (some (.int .u8 (5 : Int))) = .ok (.string ⟨#[bt8 (4 + 1)]⟩) w := fun w a => cv1_at w a 5 (by decide) (by decide)
   clear hkl htot hc0 k1 hN hlk k2 ha hv hb1 hx1 hs1 ht
   go_enter Tryz.func45, Tryz.ntmps45
   go_upto_region 1 with fail
   clear hw1
   go_upto_region 4 with fail
   clear cx0 hcv hca
   rw [HC0.out]
   obtain ⟨wS, hwS⟩ : ∃ wS, wS = w1.alloc (.cells #[.int .u8 5] 5) := ⟨_, rfl⟩
   have HWS : Hid (Below w1.heap.size w1 wS) := by show Below _ _ _; rw [hwS]; exact Below.newly' _ _
   rw [← hwS]
   have cx4 : wS.cell? ⟨w.heap.size, 4, none⟩ = some (.slice ad N cap) := HXC.out wS HWS.out 4 _ rfl
   clear hwS
   go_wp2_with fail
   clear cx4
   go_loopw [3, 4, 5, 21] (fun s i4 p5 i wl => ∃ j : Nat, j ≤ N ∧ i = .int .i64 (j : Int) ∧ s = .string ⟨(bt8 (4 + 1) :: keyL 4 (ks.take j) (xs.take j)).toArray⟩ ∧ (∃ c, c = i4) ∧ (∃ c, c = p5) ∧ Hid (Below w1.heap.size w1 wl)) (fun _ _ _ i _ => N - (intOf i).toNat)
   case atStart => exact ⟨0, Nat.zero_le _, rfl, rfl, ⟨_, rfl⟩, ⟨_, rfl⟩, HWS.out⟩
   case round =>
    obtain ⟨j, hj, rfl, rfl, _, _, HBR⟩ := hrel
    have HB : Hid (Below w.heap.size w wr) := tW HB1.out HBR.out
    by_cases hlt : j < N
    ·have hlt' : (j : Int) < (N : Int) := by omega
     have i0 : (0 : Int) ≤ (j : Int) := by omega
     have hlx : j < xs.length := by rw [← HKL.out.2.2.1]; exact hlt
     have had : ad = some ⟨bb, oo, none⟩ := HLO.out (by omega)
     subst had
     obtain ⟨cs, c1, c2, c3⟩ := HLC.out j hlx
     have hmem := List.getElem_mem hlx
     have hsn := keyL_take (k := 4) (ks := ks) hlx
     have hle := keyL_le (k := 4) (ks := ks) (xs := xs) (j + 1)
     obtain ⟨y, hy⟩ : ∃ y, y = xs[j] := ⟨_, rfl⟩
     rw [← hy] at c3 hmem hsn
     obtain ⟨k', n', t', pa, pl, pc, qa, ql, qc, rfl⟩ := c3.cells
     have HR := Lib.hid (show wr.rangeAt bb (oo + j * 5) (trC k' n' t' (.slice pa pl pc) (.slice qa ql qc)).toList from fun i v hv => (HB.out.cell (World.block_lt_of_cell? w _ (c2 i v hv))).trans (c2 i v hv))
     have hyb := HVB.out.part hmem
     have HCL : Hid (∀ W, Below wr.heap.size wr W → Calls Tryz.prog 45 #[.agg (trC k' n' t' (.slice pa pl pc) (.slice qa ql qc))] W fun e w' => e = .returned (.string ⟨(keyT y).toArray⟩) ∧ Below W.heap.size W w') := fun W hW => HIH.out y hmem _ W (c3.later (tW HB.out hW)) hyb
     have hky := hyb.key
     obtain ⟨ky, hkd⟩ : ∃ ky, ky = keyT y := ⟨_, rfl⟩
     rw [← hkd] at hsn hky HCL
     obtain ⟨l, hl⟩ : ∃ l, l = bt8 (4 + 1) :: keyL 4 (ks.take j) (xs.take j) := ⟨_, rfl⟩
     have htot := HTOT.out
     rw [if_neg (by decide), List.nil_append] at hsn
     have hll : l.length + ky.length ≤ 200000010 := by
      rw [hsn] at hle
      rw [hl]
      simp only [List.length_append, List.length_cons] at hle htot ⊢
      omega
     have HNX : Hid (bt8 (4 + 1) :: keyL 4 (ks.take (j + 1)) (xs.take (j + 1)) = l ++ ky) := by
      show _ = _
      rw [hsn, hl]
      simp
     have HWB := Lib.hid (fun W (hb : Below wr.heap.size wr W) => tW HB.out hb)
     have HWC := Lib.hid (fun W (hb : Below wr.heap.size wr W) => tW HBR.out hb)
     rw [← hl]
     clear c1 c2 c3 hmem hsn hle hy hyb hkd hl htot
     go_upto_region 7 with (first
      | (refine ld_tr (by rfl) _ rfl bb (oo + j * 5) rfl (trC k' n' t' (.slice pa pl pc) (.slice qa ql qc)) HR.out rfl ?_)
      | (refine st_agg rfl 28 _ _ rfl wr.heap.size (trC k' n' t' (.slice pa pl pc) (.slice qa ql qc)) rfl rfl 28 (trC 0 0 ⟨#[]⟩ (.slice none 0 0) (.slice none 0 0)) (heap_alloc_last _ _) tr_size rfl (by simp [Value.oneCell']) ?_; intro w2 h2 k2))
     have hb2 : Below wr.heap.size wr w2 := (Below.newly' _ _).trans (k2.below (Nat.le_refl _))
     obtain ⟨Y, hY⟩ : ∃ Y, Y = wr.heap.size := ⟨_, rfl⟩
     have HY2 := Lib.hid h2
     have HW := Lib.hid hb2
     rw [← hY] at HY2 ⊢
     have cx0 : w2.cell? ⟨w.heap.size, 0, none⟩ = some (.int .i64 4) := HXC.out w2 (HWC.out w2 hb2) 0 _ rfl
     clear hY h2 hb2 k2
     go_wp2_with (first
      | (refine ld_if rfl 28 _ rfl Y rfl 28 _ _ _ HY2.out Tryz.underlying28 rfl tr_size ?_)
      | (go_at_call 45; (with_reducible refine (HCL.out _ HW.out).mono ?_); rintro e w4 ⟨rfl, hb⟩; replace HW := Lib.hid (tW HW.out hb); clear hb))
     go_roundw
     case rel =>
      refine ⟨j + 1, by omega, by go_num, ?_, ⟨_, rfl⟩, ⟨_, rfl⟩, HWC.out _ HW.out⟩
      rw [HNX.out]
      rw [← cat_mk]
     case measure => simp [intOf]; omega
    ·obtain rfl : j = N := by omega
     have hlt' : ¬ (j : Int) < (j : Int) := by omega
     rw [List.take_of_length_le (l := xs) (by rw [← HKL.out.2.2.1]; omega), keyL_ks (by decide) (ks.take j) ks (xs := xs)]
     obtain ⟨l, hl⟩ : ∃ l, l = bt8 (4 + 1) :: keyL 4 ks xs := ⟨_, rfl⟩
     rw [← hl]
     have hll : l.length ≤ 200000000 := by rw [hl, List.length_cons]; have := HTOT.out; omega
     have HFIN : Hid (kB (.nd 4 n t ks xs) = ⟨(l ++ [0]).toArray⟩) := by
      show _ = _
      unfold kB
      rw [keyT, if_neg (by decide), hl]
      rfl
     clear hl
     go_wp2_with fail
     go_ret
     exact ⟨by rw [HFIN.out, ← cat_mk]; rfl, HB.out⟩
  ·subst hk
   have hc0 : (⟨#[bt8 6]⟩ : ByteArray) = ⟨(bt8 (5 + 1) :: keyL 5 (ks.take 0) (xs.take 0)).toArray⟩ := by rw [List.take_zero, List.take_zero, keyL]; rfl
   have hkl : ks.length = xs.length := (ha.1.1.mapD rfl).1
   have htot : (keyL 5 ks xs).length + 2 ≤ 200000000 := by
    have h := ha.key
    rw [keyT, if_neg (by decide), List.length_cons, List.length_append] at h
    simpa using h
   have HTOT := Lib.hid htot
   have HKL := Lib.hid (And.intro hkl (And.intro k1 (And.intro hN hlk)))
   have HKC := Lib.hid k2
   have HC0 := Lib.hid hc0
   obtain ⟨w1, hw1⟩ : ∃ w1, w.alloc (.cells (trC 5 n t (.slice kd lk kcap) (.slice ad N cap)) 28) = w1 := ⟨_, rfl⟩
   obtain ⟨hb1, hx1, hs1⟩ := new_below hw1
   have HXC : Hid (∀ W, Below w1.heap.size w1 W → ∀ (i : Nat) (u : Value), (trC 5 n t (.slice kd lk kcap) (.slice ad N cap))[i]? = some u → W.cell? ⟨w.heap.size, i, none⟩ = some u) := fun W hb i u hu => cell_in ((kW hb hx1)) hu
   have HB1 := Lib.hid hb1
   have cx0 : w1.cell? ⟨w.heap.size, 0, none⟩ = some (.int .i64 5) := cell_in hx1 rfl
   have hcv := cv1_run
   have hca : ∀ (w : World) (a : Addr), cv1 w a (some (.int .u8 (6 : Int))) = .ok (.string ⟨#[bt8 (5 + 1)]⟩) w := fun w a => cv1_at w a 6 (by decide) (by decide)
   clear hkl htot hc0 k1 hN hlk k2 ha hv hb1 hx1 hs1 ht
   go_enter Tryz.func45, Tryz.ntmps45
   go_upto_region 1 with fail
   clear hw1
   go_upto_region 4 with fail
   clear cx0 hcv hca
   rw [HC0.out]
   obtain ⟨wS, hwS⟩ : ∃ wS, wS = w1.alloc (.cells #[.int .u8 6] 5) := ⟨_, rfl⟩
   have HWS : Hid (Below w1.heap.size w1 wS) := by show Below _ _ _; rw [hwS]; exact Below.newly' _ _
   rw [← hwS]
   have cx4 : wS.cell? ⟨w.heap.size, 4, none⟩ = some (.slice ad N cap) := HXC.out wS HWS.out 4 _ rfl
   clear hwS
   go_wp2_with fail
   clear cx4
   go_loopw [3, 4, 5, 21] (fun s i4 p5 i wl => ∃ j : Nat, j ≤ N ∧ i = .int .i64 (j : Int) ∧ s = .string ⟨(bt8 (5 + 1) :: keyL 5 (ks.take j) (xs.take j)).toArray⟩ ∧ (∃ c, c = i4) ∧ (∃ c, c = p5) ∧ Hid (Below w1.heap.size w1 wl)) (fun _ _ _ i _ => N - (intOf i).toNat)
   case atStart => exact ⟨0, Nat.zero_le _, rfl, rfl, ⟨_, rfl⟩, ⟨_, rfl⟩, HWS.out⟩
   case round =>
    obtain ⟨j, hj, rfl, rfl, _, _, HBR⟩ := hrel
    have HB : Hid (Below w.heap.size w wr) := tW HB1.out HBR.out
    by_cases hlt : j < N
    ·have hlt' : (j : Int) < (N : Int) := by omega
     have i0 : (0 : Int) ≤ (j : Int) := by omega
     have hlx : j < xs.length := by rw [← HKL.out.2.2.1]; exact hlt
     have had : ad = some ⟨bb, oo, none⟩ := HLO.out (by omega)
     subst had
     obtain ⟨cs, c1, c2, c3⟩ := HLC.out j hlx
     have hmem := List.getElem_mem hlx
     have hsn := keyL_take (k := 5) (ks := ks) hlx
     have hle := keyL_le (k := 5) (ks := ks) (xs := xs) (j + 1)
     obtain ⟨y, hy⟩ : ∃ y, y = xs[j] := ⟨_, rfl⟩
     rw [← hy] at c3 hmem hsn
     obtain ⟨k', n', t', pa, pl, pc, qa, ql, qc, rfl⟩ := c3.cells
     have HR := Lib.hid (show wr.rangeAt bb (oo + j * 5) (trC k' n' t' (.slice pa pl pc) (.slice qa ql qc)).toList from fun i v hv => (HB.out.cell (World.block_lt_of_cell? w _ (c2 i v hv))).trans (c2 i v hv))
     have hyb := HVB.out.part hmem
     have HCL : Hid (∀ W, Below wr.heap.size wr W → Calls Tryz.prog 45 #[.agg (trC k' n' t' (.slice pa pl pc) (.slice qa ql qc))] W fun e w' => e = .returned (.string ⟨(keyT y).toArray⟩) ∧ Below W.heap.size W w') := fun W hW => HIH.out y hmem _ W (c3.later (tW HB.out hW)) hyb
     have hky := hyb.key
     obtain ⟨ky, hkd⟩ : ∃ ky, ky = keyT y := ⟨_, rfl⟩
     rw [← hkd] at hsn hky HCL
     obtain ⟨l, hl⟩ : ∃ l, l = bt8 (5 + 1) :: keyL 5 (ks.take j) (xs.take j) := ⟨_, rfl⟩
     have htot := HTOT.out
     have hjk : j < ks.length := by rw [HKL.out.1]; exact hlx
     obtain ⟨yk, hyk⟩ : ∃ yk, yk = ks[j] := ⟨_, rfl⟩
     have hyt : yk.size ≤ 3000 := by rw [hyk]; exact (txtT_iff.1 HVB.out.2).2.1 _ (List.getElem_mem hjk)
     have hgd : ks.getD j ⟨#[]⟩ = yk := by rw [List.getD_eq_getElem?_getD, List.getElem?_eq_getElem hjk, Option.getD_some, hyk]
     rw [if_pos rfl, hgd] at hsn
     obtain ⟨kq, hkq⟩ : ∃ kq, kq = keyB yk := ⟨_, rfl⟩
     rw [← hkq] at hsn
     have hkql : kq.length ≤ 7000 := by rw [hkq]; exact Nat.le_trans (keyB_len yk) (by omega)
     have HSK : Hid (∀ W, Calls Tryz.prog 83 #[.agg #[.int .i64 3, .int .i64 0, .string yk]] W fun e w' => e = .returned (.string ⟨kq.toArray⟩) ∧ Below W.heap.size W w') := fun W => by
      rw [hkq]
      exact ref_Key5 3 0 yk W inr0 (by omega)
     have hkdd : kd = some ⟨kb1, ko, none⟩ := HKL.out.2.1 (by rw [HKL.out.2.2.2, HKL.out.1, ← HKL.out.2.2.1]; omega)
     subst hkdd
     have hks := HKC.out j hjk
     rw [← hyk] at hks
     have HKS2 : Hid (∀ W, Below w.heap.size w W → W.cell? ⟨kb1, ko + j, none⟩ = some (.string yk)) := fun W hb => (hb.cell (World.block_lt_of_cell? w _ hks)).trans hks
     have hlkN : N = lk := by rw [HKL.out.2.2.2, HKL.out.1, HKL.out.2.2.1]
     subst hlkN
     have hll : l.length + kq.length + ky.length ≤ 200000010 := by
      rw [hsn] at hle
      rw [hl]
      simp only [List.length_append, List.length_cons] at hle htot ⊢
      omega
     have HNX : Hid (bt8 (5 + 1) :: keyL 5 (ks.take (j + 1)) (xs.take (j + 1)) = l ++ kq ++ ky) := by
      show _ = _
      rw [hsn, hl]
      simp
     have HWB := Lib.hid (fun W (hb : Below wr.heap.size wr W) => tW HB.out hb)
     have HWC := Lib.hid (fun W (hb : Below wr.heap.size wr W) => tW HBR.out hb)
     rw [← hl]
     clear c1 c2 c3 hmem hsn hle hy hyb hkd hl htot hjk hyk hyt hgd hkq hks
     go_upto_region 7 with (first
      | (refine ld_tr (by rfl) _ rfl bb (oo + j * 5) rfl (trC k' n' t' (.slice pa pl pc) (.slice qa ql qc)) HR.out rfl ?_)
      | (refine st_agg rfl 28 _ _ rfl wr.heap.size (trC k' n' t' (.slice pa pl pc) (.slice qa ql qc)) rfl rfl 28 (trC 0 0 ⟨#[]⟩ (.slice none 0 0) (.slice none 0 0)) (heap_alloc_last _ _) tr_size rfl (by simp [Value.oneCell']) ?_; intro w2 h2 k2))
     have hb2 : Below wr.heap.size wr w2 := (Below.newly' _ _).trans (k2.below (Nat.le_refl _))
     obtain ⟨Y, hY⟩ : ∃ Y, Y = wr.heap.size := ⟨_, rfl⟩
     have HY2 := Lib.hid h2
     have HW := Lib.hid hb2
     rw [← hY] at HY2 ⊢
     have cx0 : w2.cell? ⟨w.heap.size, 0, none⟩ = some (.int .i64 5) := HXC.out w2 (HWC.out w2 hb2) 0 _ rfl
     have cx3 : w2.cell? ⟨w.heap.size, 3, none⟩ = some (.slice (some ⟨kb1, ko, none⟩) N kcap) := HXC.out w2 (HWC.out w2 hb2) 3 _ rfl
     have cxk : w2.cell? ⟨kb1, ko + j, none⟩ = some (.string yk) := HKS2.out w2 (HWB.out w2 hb2)
     clear hY h2 hb2 k2
     go_upto_region 9 with (first
      | (go_at_call 83; (with_reducible refine (HSK.out _).mono ?_); rintro e w3 ⟨rfl, hb⟩; have HY3 := Lib.hid ((kW hb HY2.out)); replace HW := Lib.hid (tW HW.out hb); clear hb))
     clear cx0 cx3 cxk
     go_wp2_with (first
      | (refine ld_if rfl 28 _ rfl Y rfl 28 _ _ _ HY3.out Tryz.underlying28 rfl tr_size ?_)
      | (go_at_call 45; (with_reducible refine (HCL.out _ HW.out).mono ?_); rintro e w4 ⟨rfl, hb⟩; replace HW := Lib.hid (tW HW.out hb); clear hb))
     go_roundw
     case rel =>
      refine ⟨j + 1, by omega, by go_num, ?_, ⟨_, rfl⟩, ⟨_, rfl⟩, HWC.out _ HW.out⟩
      rw [HNX.out]
      rw [← cat_mk, ← cat_mk]
     case measure => simp [intOf]; omega
    ·obtain rfl : j = N := by omega
     have hlt' : ¬ (j : Int) < (j : Int) := by omega
     rw [List.take_of_length_le (l := xs) (by rw [← HKL.out.2.2.1]; omega), List.take_of_length_le (l := ks) (by rw [HKL.out.1, ← HKL.out.2.2.1]; omega)]
     obtain ⟨l, hl⟩ : ∃ l, l = bt8 (5 + 1) :: keyL 5 ks xs := ⟨_, rfl⟩
     rw [← hl]
     have hll : l.length ≤ 200000000 := by rw [hl, List.length_cons]; have := HTOT.out; omega
     have HFIN : Hid (kB (.nd 5 n t ks xs) = ⟨(l ++ [0]).toArray⟩) := by
      show _ = _
      unfold kB
      rw [keyT, if_neg (by decide), hl]
      rfl
     clear hl
     go_wp2_with fail
     go_ret
     exact ⟨by rw [HFIN.out, ← cat_mk]; rfl, HB.out⟩
  ·subst hk
   have hc0 : (⟨#[bt8 7]⟩ : ByteArray) = ⟨(bt8 (6 + 1) :: keyL 6 (ks.take 0) (xs.take 0)).toArray⟩ := by rw [List.take_zero, List.take_zero, keyL]; rfl
   have hkl : True := trivial
   have htot : (keyL 6 ks xs).length + 2 ≤ 200000000 := by
    have h := ha.key
    rw [keyT, if_neg (by decide), List.length_cons, List.length_append] at h
    simpa using h
   have HTOT := Lib.hid htot
   have HKL := Lib.hid (And.intro hkl (And.intro k1 (And.intro hN hlk)))
   have HKC := Lib.hid k2
   have HC0 := Lib.hid hc0
   obtain ⟨w1, hw1⟩ : ∃ w1, w.alloc (.cells (trC 6 n t (.slice kd lk kcap) (.slice ad N cap)) 28) = w1 := ⟨_, rfl⟩
   obtain ⟨hb1, hx1, hs1⟩ := new_below hw1
   have HXC : Hid (∀ W, Below w1.heap.size w1 W → ∀ (i : Nat) (u : Value), (trC 6 n t (.slice kd lk kcap) (.slice ad N cap))[i]? = some u → W.cell? ⟨w.heap.size, i, none⟩ = some u) := fun W hb i u hu => cell_in ((kW hb hx1)) hu
   have HB1 := Lib.hid hb1
   have cx0 : w1.cell? ⟨w.heap.size, 0, none⟩ = some (.int .i64 6) := cell_in hx1 rfl
   have hcv := cv1_run
   have hca : ∀ (w : World) (a : Addr), cv1 w a (some (.int .u8 (7 : Int))) = .ok (.string ⟨#[bt8 (6 + 1)]⟩) w := fun w a => cv1_at w a 7 (by decide) (by decide)
   clear hkl htot hc0 k1 hN hlk k2 ha hv hb1 hx1 hs1 ht
   go_enter Tryz.func45, Tryz.ntmps45
   go_upto_region 1 with fail
   clear hw1
   go_upto_region 4 with fail
   clear cx0 hcv hca
   rw [HC0.out]
   obtain ⟨wS, hwS⟩ : ∃ wS, wS = w1.alloc (.cells #[.int .u8 7] 5) := ⟨_, rfl⟩
   have HWS : Hid (Below w1.heap.size w1 wS) := by show Below _ _ _; rw [hwS]; exact Below.newly' _ _
   rw [← hwS]
   have cx4 : wS.cell? ⟨w.heap.size, 4, none⟩ = some (.slice ad N cap) := HXC.out wS HWS.out 4 _ rfl
   clear hwS
   go_wp2_with fail
   clear cx4
   go_loopw [3, 4, 5, 21] (fun s i4 p5 i wl => ∃ j : Nat, j ≤ N ∧ i = .int .i64 (j : Int) ∧ s = .string ⟨(bt8 (6 + 1) :: keyL 6 (ks.take j) (xs.take j)).toArray⟩ ∧ (∃ c, c = i4) ∧ (∃ c, c = p5) ∧ Hid (Below w1.heap.size w1 wl)) (fun _ _ _ i _ => N - (intOf i).toNat)
   case atStart => exact ⟨0, Nat.zero_le _, rfl, rfl, ⟨_, rfl⟩, ⟨_, rfl⟩, HWS.out⟩
   case round =>
    obtain ⟨j, hj, rfl, rfl, _, _, HBR⟩ := hrel
    have HB : Hid (Below w.heap.size w wr) := tW HB1.out HBR.out
    by_cases hlt : j < N
    ·have hlt' : (j : Int) < (N : Int) := by omega
     have i0 : (0 : Int) ≤ (j : Int) := by omega
     have hlx : j < xs.length := by rw [← HKL.out.2.2.1]; exact hlt
     have had : ad = some ⟨bb, oo, none⟩ := HLO.out (by omega)
     subst had
     obtain ⟨cs, c1, c2, c3⟩ := HLC.out j hlx
     have hmem := List.getElem_mem hlx
     have hsn := keyL_take (k := 6) (ks := ks) hlx
     have hle := keyL_le (k := 6) (ks := ks) (xs := xs) (j + 1)
     obtain ⟨y, hy⟩ : ∃ y, y = xs[j] := ⟨_, rfl⟩
     rw [← hy] at c3 hmem hsn
     obtain ⟨k', n', t', pa, pl, pc, qa, ql, qc, rfl⟩ := c3.cells
     have HR := Lib.hid (show wr.rangeAt bb (oo + j * 5) (trC k' n' t' (.slice pa pl pc) (.slice qa ql qc)).toList from fun i v hv => (HB.out.cell (World.block_lt_of_cell? w _ (c2 i v hv))).trans (c2 i v hv))
     have hyb := HVB.out.part hmem
     have HCL : Hid (∀ W, Below wr.heap.size wr W → Calls Tryz.prog 45 #[.agg (trC k' n' t' (.slice pa pl pc) (.slice qa ql qc))] W fun e w' => e = .returned (.string ⟨(keyT y).toArray⟩) ∧ Below W.heap.size W w') := fun W hW => HIH.out y hmem _ W (c3.later (tW HB.out hW)) hyb
     have hky := hyb.key
     obtain ⟨ky, hkd⟩ : ∃ ky, ky = keyT y := ⟨_, rfl⟩
     rw [← hkd] at hsn hky HCL
     obtain ⟨l, hl⟩ : ∃ l, l = bt8 (6 + 1) :: keyL 6 (ks.take j) (xs.take j) := ⟨_, rfl⟩
     have htot := HTOT.out
     rw [if_neg (by decide), List.nil_append] at hsn
     have hll : l.length + ky.length ≤ 200000010 := by
      rw [hsn] at hle
      rw [hl]
      simp only [List.length_append, List.length_cons] at hle htot ⊢
      omega
     have HNX : Hid (bt8 (6 + 1) :: keyL 6 (ks.take (j + 1)) (xs.take (j + 1)) = l ++ ky) := by
      show _ = _
      rw [hsn, hl]
      simp
     have HWB := Lib.hid (fun W (hb : Below wr.heap.size wr W) => tW HB.out hb)
     have HWC := Lib.hid (fun W (hb : Below wr.heap.size wr W) => tW HBR.out hb)
     rw [← hl]
     clear c1 c2 c3 hmem hsn hle hy hyb hkd hl htot
     go_upto_region 7 with (first
      | (refine ld_tr (by rfl) _ rfl bb (oo + j * 5) rfl (trC k' n' t' (.slice pa pl pc) (.slice qa ql qc)) HR.out rfl ?_)
      | (refine st_agg rfl 28 _ _ rfl wr.heap.size (trC k' n' t' (.slice pa pl pc) (.slice qa ql qc)) rfl rfl 28 (trC 0 0 ⟨#[]⟩ (.slice none 0 0) (.slice none 0 0)) (heap_alloc_last _ _) tr_size rfl (by simp [Value.oneCell']) ?_; intro w2 h2 k2))
     have hb2 : Below wr.heap.size wr w2 := (Below.newly' _ _).trans (k2.below (Nat.le_refl _))
     obtain ⟨Y, hY⟩ : ∃ Y, Y = wr.heap.size := ⟨_, rfl⟩
     have HY2 := Lib.hid h2
     have HW := Lib.hid hb2
     rw [← hY] at HY2 ⊢
     have cx0 : w2.cell? ⟨w.heap.size, 0, none⟩ = some (.int .i64 6) := HXC.out w2 (HWC.out w2 hb2) 0 _ rfl
     clear hY h2 hb2 k2
     go_wp2_with (first
      | (refine ld_if rfl 28 _ rfl Y rfl 28 _ _ _ HY2.out Tryz.underlying28 rfl tr_size ?_)
      | (go_at_call 45; (with_reducible refine (HCL.out _ HW.out).mono ?_); rintro e w4 ⟨rfl, hb⟩; replace HW := Lib.hid (tW HW.out hb); clear hb))
     go_roundw
     case rel =>
      refine ⟨j + 1, by omega, by go_num, ?_, ⟨_, rfl⟩, ⟨_, rfl⟩, HWC.out _ HW.out⟩
      rw [HNX.out]
      rw [← cat_mk]
     case measure => simp [intOf]; omega
    ·obtain rfl : j = N := by omega
     have hlt' : ¬ (j : Int) < (j : Int) := by omega
     rw [List.take_of_length_le (l := xs) (by rw [← HKL.out.2.2.1]; omega), keyL_ks (by decide) (ks.take j) ks (xs := xs)]
     obtain ⟨l, hl⟩ : ∃ l, l = bt8 (6 + 1) :: keyL 6 ks xs := ⟨_, rfl⟩
     rw [← hl]
     have hll : l.length ≤ 200000000 := by rw [hl, List.length_cons]; have := HTOT.out; omega
     have HFIN : Hid (kB (.nd 6 n t ks xs) = ⟨(l ++ [0]).toArray⟩) := by
      show _ = _
      unfold kB
      rw [keyT, if_neg (by decide), hl]
      rfl
     clear hl
     go_wp2_with fail
     go_ret
     exact ⟨by rw [HFIN.out, ← cat_mk]; rfl, HB.out⟩
end Go.Proofs.YtpodmgihlomglaaGreatDoor
