import Derived.Test.YtpodmgihlomglaaGreatDoorP31
namespace Go.Proofs.YtpodmgihlomglaaGreatDoor
open Go.RowKit
set_option maxRecDepth 1000000
set_option linter.unusedSimpArgs false
set_option maxHeartbeats 8000000 in
theorem va_rd1 (a : Tr) (ih : ∀ y ∈ a.xs, RdOf y) : RdOf a := by
 obtain ⟨k, n, t, ks, xs⟩ := a
 intro v w rb s bb d m hv hfew htxt hnod hrb hs hT hne hm9 hd9
 have hv0 := hv
 obtain ⟨kv, xv, rfl, ht, _, _, ⟨kd, kcap, kb1, ko, rfl, k1, k2, k3⟩, ad, cap, bt, oo, rfl, h1, hmax, h2⟩ := hv.open'
 have hrl := (Array.getElem?_eq_some_iff.1 hrb).1
 have hn3 : Nums3 w rb := ⟨_, _, _, _, _, _, _, _, hrb⟩
 have hrng := trV_rng _ _ hv
 have hxl := len_nodL xs
 rw [nodT] at hnod
 obtain ⟨L, hL⟩ : ∃ L, L = lookT (.nd k n t ks xs) d m := ⟨_, rfl⟩
 rw [← hL]
 rw [lookT] at hL
 obtain ⟨lk, hlk⟩ : ∃ lk, lk = ks.length := ⟨_, rfl⟩
 obtain ⟨lx, hlx⟩ : ∃ lx, lx = xs.length := ⟨_, rfl⟩
 rw [← hlk] at hv0
 rw [← hlx] at hv0 hmax
 rw [← hlk, ← hlx]
 have HLK := Lib.hid (And.intro hlk hlx)
 clear hlk hlx
 have HCK := Lib.hid (fun V (hg : w.grownBy V (some rb)) => va_checkAlone (.nd k n t ks xs) _ V (hv0.but hg hn3) (Nat.le_trans (fewT_iff.1 hfew).1 (by decide)))
 have HPL := Lib.hid (fun W => va_plainOf k n t (.slice kd lk kcap) (.slice ad lx cap) W)
 obtain ⟨w1, hw1⟩ : ∃ w1, (w.alloc (.cells (trC k n t (.slice kd lk kcap) (.slice ad lx cap)) 28)).alloc (.cells #[.int .i64 0, .int .i64 0, .string ⟨#[]⟩, .pointer none] 35) = w1 := ⟨_, rfl⟩
 obtain ⟨hb1, hx1, hr1, hs1⟩ := two_new hw1
 have HX1 := Lib.hid hx1
 have HR1 := Lib.hid hr1
 have HRB1 := Lib.hid ((hb1.block _ hrl).trans hrb)
 have HB1 := Lib.hid hb1
 have HS1 := Lib.hid hs1
 have HRL := Lib.hid hrl
 have hm0 : (m : Int) ≤ 100000 := by omega
 have HM1 : Hid (((m + 1 : Nat) : Int) = (m : Int) + 1) := by show _ = _; omega
 have hd0 : (d : Int) ≤ 1000 := by omega
 have crb := cell_in HRB1.out (j := 2) (v := .int .i64 (m : Int)) rfl
 by_cases c1 : 64 < d
 ·rw [if_pos c1] at hL
  subst hL
  have c1' : (64 : Int) < (d : Int) := by omega
  show Calls _ _ _ _ fun e w' => ∃ y, e = .returned (.tuple #[.agg (celC y), .int .i64 7]) ∧ VAt (fun g => w.heap.size ≤ g) w' nullT y ∧ w'.heap[rb]? = some (.cells #[.int .u64 (s : Int), .int .i64 bb, .int .i64 ((m + 1 : Nat) : Int)] 79 (0, 0)) ∧ w.grownBy w' (some rb)
  clear hv hv0 hfew htxt hnod hrb hT hne h1 h2 k1 k2 hx1 hr1 hb1 hs1 hrng hrl hn3 ih HCK HPL
  go_enter Tryz.func41, Tryz.ntmps41
  go_upto_region 1 with fail
  clear hw1
  go_wp2_with (first
   | (refine st_cell rfl 3 _ _ rfl rb 2 _ rfl rfl rfl 79 _ HRB1.out int_size1 (show 2 < 3 by omega) ?_; intro w2 h2 k2; have HX2 := Lib.hid (k2.other HX1.out (fun e => by have h := HRL.out; omega)); have HR2 := Lib.hid (k2.other HR1.out (fun e => by have h := HRL.out; omega)); have HRB2 : Hid (w2.heap[rb]? = some (.cells #[.int .u64 (s : Int), .int .i64 bb, .int .i64 ((m + 1 : Nat) : Int)] 79 (0, 0))) := (by show _ = _; rw [HM1.out]; exact h2); have HG2 := Lib.hid (grown_trans (grown_of HB1.out (some rb)) k2.by_); have HS2 : Hid (w2.heap.size = w.heap.size + 2) := k2.size.trans HS1.out; have crb := cell_in HRB2.out (j := 2) (v := .int .i64 ((m + 1 : Nat) : Int)) rfl; clear h2 k2)
   | (refine st_agg rfl 35 _ _ rfl (w.heap.size + 1) #[.int .i64 0, .int .i64 0, .string ⟨#[]⟩, .pointer none] rfl rfl 35 _ HR2.out val_size rfl (by simp [Value.oneCell']) ?_; intro w9 h9 k9))
  have hrl := HRL.out
  exact bodyPost_ret (results_cell_row1 rfl _ _ (w.heap.size + 1) 35 _ (0, 0) _ rfl h9 Tryz.underlying35 rfl val_size) rfl ⟨zeroV, rfl, vAt_null _ _, k9.other HRB2.out (by omega), grown_new HG2.out k9 (by omega)⟩
 rw [if_neg c1] at hL
 have c1' : ¬ (64 : Int) < (d : Int) := by omega
 by_cases c2 : 16384 < m + 1
 ·rw [if_pos c2] at hL
  subst hL
  have c2' : (16384 : Int) < ((m + 1 : Nat) : Int) := by omega
  show Calls _ _ _ _ fun e w' => ∃ y, e = .returned (.tuple #[.agg (celC y), .int .i64 8]) ∧ VAt (fun g => w.heap.size ≤ g) w' nullT y ∧ w'.heap[rb]? = some (.cells #[.int .u64 (s : Int), .int .i64 bb, .int .i64 ((m + 1 : Nat) : Int)] 79 (0, 0)) ∧ w.grownBy w' (some rb)
  clear hv hv0 hfew htxt hnod hrb hT hne h1 h2 k1 k2 hx1 hr1 hb1 hs1 hrng hrl hn3 ih HCK HPL
  go_enter Tryz.func41, Tryz.ntmps41
  go_upto_region 1 with fail
  clear hw1
  go_wp2_with (first
   | (refine st_cell rfl 3 _ _ rfl rb 2 _ rfl rfl rfl 79 _ HRB1.out int_size1 (show 2 < 3 by omega) ?_; intro w2 h2 k2; have HX2 := Lib.hid (k2.other HX1.out (fun e => by have h := HRL.out; omega)); have HR2 := Lib.hid (k2.other HR1.out (fun e => by have h := HRL.out; omega)); have HRB2 : Hid (w2.heap[rb]? = some (.cells #[.int .u64 (s : Int), .int .i64 bb, .int .i64 ((m + 1 : Nat) : Int)] 79 (0, 0))) := (by show _ = _; rw [HM1.out]; exact h2); have HG2 := Lib.hid (grown_trans (grown_of HB1.out (some rb)) k2.by_); have HS2 : Hid (w2.heap.size = w.heap.size + 2) := k2.size.trans HS1.out; have crb := cell_in HRB2.out (j := 2) (v := .int .i64 ((m + 1 : Nat) : Int)) rfl; clear h2 k2)
   | (refine st_agg rfl 35 _ _ rfl (w.heap.size + 1) #[.int .i64 0, .int .i64 0, .string ⟨#[]⟩, .pointer none] rfl rfl 35 _ HR2.out val_size rfl (by simp [Value.oneCell']) ?_; intro w9 h9 k9))
  have hrl := HRL.out
  exact bodyPost_ret (results_cell_row1 rfl _ _ (w.heap.size + 1) 35 _ (0, 0) _ rfl h9 Tryz.underlying35 rfl val_size) rfl ⟨zeroV, rfl, vAt_null _ _, k9.other HRB2.out (by omega), grown_new HG2.out k9 (by omega)⟩
 rw [if_neg c2] at hL
 have c2' : ¬ (16384 : Int) < ((m + 1 : Nat) : Int) := by omega
 obtain ⟨o, ho⟩ : ∃ o, o = ownT (.nd k n t ks xs) := ⟨_, rfl⟩
 rw [← ho] at HCK hL
 by_cases c3 : o = 0
 case neg =>
  rw [if_pos c3] at hL
  subst hL
  show Calls _ _ _ _ fun e w' => ∃ y, e = .returned (.tuple #[.agg (celC y), .int .i64 o]) ∧ VAt (fun g => w.heap.size ≤ g) w' (if o = 0 then canT (.nd k n t ks xs) else nullT) y ∧ w'.heap[rb]? = some (.cells #[.int .u64 (s : Int), .int .i64 bb, .int .i64 ((m + 1 : Nat) : Int)] 79 (0, 0)) ∧ w.grownBy w' (some rb)
  rw [if_neg c3]
  clear hv hv0 hfew htxt hnod hrb hT hne h1 h2 k1 k2 hx1 hr1 hb1 hs1 hrng hrl hn3 ih HPL ho
  go_enter Tryz.func41, Tryz.ntmps41
  go_upto_region 1 with fail
  clear hw1
  go_wp2_with (first
   | (refine st_cell rfl 3 _ _ rfl rb 2 _ rfl rfl rfl 79 _ HRB1.out int_size1 (show 2 < 3 by omega) ?_; intro w2 h2 k2; have HX2 := Lib.hid (k2.other HX1.out (fun e => by have h := HRL.out; omega)); have HR2 := Lib.hid (k2.other HR1.out (fun e => by have h := HRL.out; omega)); have HRB2 : Hid (w2.heap[rb]? = some (.cells #[.int .u64 (s : Int), .int .i64 bb, .int .i64 ((m + 1 : Nat) : Int)] 79 (0, 0))) := (by show _ = _; rw [HM1.out]; exact h2); have HG2 := Lib.hid (grown_trans (grown_of HB1.out (some rb)) k2.by_); have HS2 : Hid (w2.heap.size = w.heap.size + 2) := k2.size.trans HS1.out; have crb := cell_in HRB2.out (j := 2) (v := .int .i64 ((m + 1 : Nat) : Int)) rfl; clear h2 k2)
   | (refine ld_if rfl 28 _ rfl w.heap.size rfl 28 _ _ _ HX2.out Tryz.underlying28 rfl tr_size5 ?_)
   | (go_at_call 78; (with_reducible refine (HCK.out _ HG2.out).mono ?_); rintro e w3 ⟨rfl, hb3⟩; have HX3 := Lib.hid (kW hb3 HX2.out); have HR3 := Lib.hid (kW hb3 HR2.out); have HRB3 := Lib.hid (kW hb3 HRB2.out); have HG3 := Lib.hid (grown_trans HG2.out (grown_of hb3 _)); have HS3 : Hid (w.heap.size + 2 ≤ w3.heap.size) := Nat.le_trans (Nat.le_of_eq HS2.out.symm) hb3.size; clear hb3)
   | (refine st_agg rfl 35 _ _ rfl (w.heap.size + 1) #[.int .i64 0, .int .i64 0, .string ⟨#[]⟩, .pointer none] rfl rfl 35 _ HR3.out val_size rfl (by simp [Value.oneCell']) ?_; intro w9 h9 k9))
  have hrl := HRL.out
  exact bodyPost_ret (results_cell_row1 rfl _ _ (w.heap.size + 1) 35 _ (0, 0) _ rfl h9 Tryz.underlying35 rfl val_size) rfl ⟨zeroV, rfl, vAt_null _ _, k9.other HRB3.out (by omega), grown_new HG3.out k9 (by omega)⟩
 have hown : ownT (.nd k n t ks xs) = 0 := by rw [← ho]; exact c3
 rw [c3] at HCK
 rw [if_neg (fun h => h c3)] at hL
 clear c3 ho o
 by_cases h3 : k ≤ 3
 ·obtain ⟨hks, hxs⟩ : ks = [] ∧ xs = [] := by
   have h := own_ok.1 hown
   simp only [Tr.k, Tr.n, Tr.t, Tr.ks, Tr.xs] at h
   rcases h with h | ⟨_, _, h | h | h⟩
   ·exact h.2.2.2
   all_goals omega
  subst hks hxs
  have hL2 : L = (m + 1, 0) := by
   rw [hL, lookL, if_neg (by simp), if_neg (by rintro ⟨h, _⟩; omega)]
  subst hL2
  have hcan : canT (.nd k n t [] []) = .nd k n t [] [] := by rw [canT, if_neg (by omega), if_neg (by omega), canL]
  show Calls _ _ _ _ fun e w' => ∃ y, e = .returned (.tuple #[.agg (celC y), .int .i64 0]) ∧ VAt (fun g => w.heap.size ≤ g) w' (canT (.nd k n t [] [])) y ∧ w'.heap[rb]? = some (.cells #[.int .u64 (s : Int), .int .i64 bb, .int .i64 ((m + 1 : Nat) : Int)] 79 (0, 0)) ∧ w.grownBy w' (some rb)
  rw [hcan]
  have h34 : k < 4 := by omega
  clear hv hv0 hfew htxt hnod hrb hT hne h1 h2 k1 k2 hx1 hr1 hb1 hs1 hrng hrl hn3 ih hown hL hcan
  go_enter Tryz.func41, Tryz.ntmps41
  go_upto_region 1 with fail
  clear hw1
  go_wp2_with (first
   | (refine st_cell rfl 3 _ _ rfl rb 2 _ rfl rfl rfl 79 _ HRB1.out int_size1 (show 2 < 3 by omega) ?_; intro w2 h2 k2; have HX2 := Lib.hid (k2.other HX1.out (fun e => by have h := HRL.out; omega)); have HR2 := Lib.hid (k2.other HR1.out (fun e => by have h := HRL.out; omega)); have HRB2 : Hid (w2.heap[rb]? = some (.cells #[.int .u64 (s : Int), .int .i64 bb, .int .i64 ((m + 1 : Nat) : Int)] 79 (0, 0))) := (by show _ = _; rw [HM1.out]; exact h2); have HG2 := Lib.hid (grown_trans (grown_of HB1.out (some rb)) k2.by_); have HS2 : Hid (w2.heap.size = w.heap.size + 2) := k2.size.trans HS1.out; have crb := cell_in HRB2.out (j := 2) (v := .int .i64 ((m + 1 : Nat) : Int)) rfl; clear h2 k2)
   | (refine ld_if rfl 28 _ rfl w.heap.size rfl 28 _ _ _ HX2.out Tryz.underlying28 rfl tr_size5 ?_)
   | (go_at_call 78; (with_reducible refine (HCK.out _ HG2.out).mono ?_); rintro e w3 ⟨rfl, hb3⟩; have HX3 := Lib.hid (kW hb3 HX2.out); have HR3 := Lib.hid (kW hb3 HR2.out); have HRB3 := Lib.hid (kW hb3 HRB2.out); have HG3 := Lib.hid (grown_trans HG2.out (grown_of hb3 _)); have HS3 : Hid (w.heap.size + 2 ≤ w3.heap.size) := Nat.le_trans (Nat.le_of_eq HS2.out.symm) hb3.size; have ck3 := cell_in HX3.out (j := 0) (v := .int .i64 k) rfl; clear hb3)
   | (refine ld_if rfl 28 _ rfl w.heap.size rfl 28 _ _ _ HX3.out Tryz.underlying28 rfl tr_size5 ?_)
   | (go_at_call 79; (with_reducible refine (HPL.out _).mono ?_); rintro e w4 ⟨rfl, hb4⟩; have HR4 := Lib.hid (kW hb4 HR3.out); have HRB4 := Lib.hid (kW hb4 HRB3.out); have HG4 := Lib.hid (grown_trans HG3.out (grown_of hb4 _)); clear hb4)
   | (refine st_agg rfl 35 _ _ rfl (w.heap.size + 1) (celC ⟨k, n, t, none⟩) rfl rfl 35 _ HR4.out val_size rfl (celC_one _) ?_; intro w9 h9 k9))
  have hrl := HRL.out
  exact bodyPost_ret (results_cell_row1 rfl _ _ (w.heap.size + 1) 35 _ (0, 0) _ rfl h9 Tryz.underlying35 rfl val_size) rfl ⟨⟨k, n, t, none⟩, rfl, vAt_leaf _ _ (a := .nd k n t [] []) h3, k9.other HRB4.out (by omega), grown_new HG4.out k9 (by omega)⟩
 exact va_rd2 k n t ks xs ih (.slice kd lk kcap) ad lx cap w rb s bb d m L hv0 hfew htxt (by omega) hrb hs hT hne hm9 hd9 hown (by omega) hL (by omega) (by omega) HLK.out.2
end Go.Proofs.YtpodmgihlomglaaGreatDoor
