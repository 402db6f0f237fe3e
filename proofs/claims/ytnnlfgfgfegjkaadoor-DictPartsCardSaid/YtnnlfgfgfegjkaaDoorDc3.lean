/- Package dict: only, Between, Meet, Less. (written by tools/gen10/dc3.py) -/
import Derived.Test.YtnnlfgfgfegjkaaDoorDc2
namespace Go.Proofs.YtnnlfgfgfegjkaaDoor
open Go.RowKit
set_option maxRecDepth 1000000
set_option linter.unusedSimpArgs false

abbrev mapZ : Array Value := #[.int .u64 0, .int .i64 0, .int .i64 0, .int .u32 0, .slice none 0 0, .slice none 0 0]
set_option maxHeartbeats 4000000 in
theorem dc_only (w : World) (s : Nat) (hss : s < 18446744073709551616) (n : Int) (L : List Ent) (c : Array Value) (h : ML w s n L c) (hL : Rise L) (hn : L.length ≤ 40000) (hS : ∀ e ∈ L, e.1.size ≤ 9223372036854775800) (hT : Tab6 w)
    (p : Ent → Bool) (fnum : Nat) (lb : Array Value) (hent : ∀ args w, (callFunc fnum args).run Tryd.prog w = .ok (.enter fnum args) w)
    (hkeep : ∀ W, Below w.heap.size w W → ∀ e ∈ L, Calls Tryd.prog fnum (#[.string e.1] ++ lb) W fun r W' => r = .returned (.bool (p e)) ∧ Below W.heap.size W W') :
    Calls Tryd.prog 58 #[.agg c, .func (.func fnum) #[] lb] w fun r w' => ∃ c', r = .returned (.agg c') ∧ ML w' s n (L.filter p) c' ∧ Below w.heap.size w w' := by
  obtain ⟨w0, hw0⟩ : ∃ w0, (w.alloc (.cells c 36)).alloc (.cells mapZ 36) = w0 := ⟨_, rfl⟩
  obtain ⟨hb0, hx, hr, hs0⟩ := two_newG hw0
  obtain ⟨N, hN⟩ : ∃ N, N = L.length := ⟨_, rfl⟩
  have HMA := Lib.hid (fun W (hb : Below w.heap.size w W) => h.later hb)
  have HKS := Lib.hid (fun W (hb : Below w.heap.size w W) => ml_Keys W s n L c (h.later hb) hL (Nat.le_trans hn (by omega)) (hT.below hb))
  have HTB := Lib.hid (fun W (hb : Below w.heap.size w W) => hT.below hb)
  have HRL := Lib.hid hL
  have HSS := Lib.hid hS
  have HKP := Lib.hid hkeep
  have HNL : Hid (N = L.length ∧ N ≤ 40000) := ⟨hN, by omega⟩
  have HSZ := Lib.hid h.size
  have HOC := Lib.hid h.one
  have HX := Lib.hid hx
  have HR := Lib.hid hr
  have HB := Lib.hid hb0
  have hn4 : (N : Int) ≤ 40000 := by omega
  obtain ⟨X, hX⟩ : ∃ X, X = w0.heap.size := ⟨_, rfl⟩
  have HD : Hid (X = w.heap.size + 2) := by show _ = _; omega
  clear h hL hn hS hT hkeep hb0 hx hr hs0 hN
  go_enter Tryd.func58, Tryd.ntmps58
  go_upto_region 1 with fail
  clear hw0
  go_upto_region 2 with (first
    | (refine ld_if (by rfl) 36 _ rfl w.heap.size rfl 36 c _ _ HX.out Tryd.underlying36 rfl (by rw [HSZ.out]; exact map_size) ?_)
    | (refine st_agg rfl 36 _ _ rfl w0.heap.size c rfl rfl 36 mapZ (heap_alloc_last w0 _) (by rw [HSZ.out]; exact map_size) (by rw [HSZ.out]; rfl) HOC.out ?_
       intro w1 h1 k1
       have hb1 : Below w0.heap.size w0 w1 := (Below.newly' w0 _).trans (k1.below (Nat.le_refl _))
       replace HX := Lib.hid ((hb1.block _ (Array.getElem?_eq_some_iff.1 HX.out).1).trans HX.out)
       replace HR := Lib.hid ((hb1.block _ (Array.getElem?_eq_some_iff.1 HR.out).1).trans HR.out)
       replace HB := Lib.hid (HB.out.trans (hb1.mono HB.out.size))
       have HM : Hid (MB w1 s n (onlyE L p 0) X) := by show MB _ _ _ _ _; rw [only_zero, hX]; exact ⟨c, h1, HMA.out _ HB.out⟩
       clear h1 k1 hb1))
  rw [← hX]
  clear hX
  go_wp2_with (first
    | (refine ld_if (by rfl) 36 _ rfl w.heap.size rfl 36 c _ _ HX.out Tryd.underlying36 rfl (by rw [HSZ.out]; exact map_size) ?_)
    | (go_at_call 45; (with_reducible refine (HKS.out _ HB.out).mono ?_); rintro r w2 ⟨vk, rfl, hk2, hb⟩; replace HX := Lib.hid ((hb.block _ (Array.getElem?_eq_some_iff.1 HX.out).1).trans HX.out); replace HR := Lib.hid ((hb.block _ (Array.getElem?_eq_some_iff.1 HR.out).1).trans HR.out); replace HM := Lib.hid (HM.out.later hb); replace HB := Lib.hid (HB.out.trans (hb.mono HB.out.size)); have HK := Lib.hid hk2.lsS; obtain ⟨ak, ck, hvk, _⟩ := hk2.lsS.shape; rw [keysE_len, ← HNL.out.1] at hvk; subst hvk; clear hk2 hb))
  go_loopw [12] (fun i wl => ∃ j : Nat, i = .int .i64 (j : Int) ∧ j ≤ N ∧ Hid (MB wl s n (onlyE L p j) X) ∧ Hid (LsS wl (.slice ak N ck) (keysE L)) ∧ Hid (wl.heap[w.heap.size + 1]? = some (.cells mapZ 36 (0, 0))) ∧ Hid (Below w.heap.size w wl)) (fun i _ => N - (intOf i).toNat)
  case atStart => exact ⟨0, rfl, Nat.zero_le _, HM, HK, HR, HB⟩
  case round =>
    clear HM HK HR HB HX
    obtain ⟨j, rfl, hj, HM, HK, HR, HB⟩ := hrel
    by_cases hlt : j < N
    · have hlt' : (j : Int) < N := by omega
      have hjL : j < L.length := by rw [← HNL.out.1]; exact hlt
      obtain ⟨g, cp, e1, hcell⟩ := HK.out.cell (j := j) (by rw [keysE_len]; exact hjL)
      simp only [Value.slice.injEq] at e1
      obtain ⟨rfl, hdr, rfl⟩ := e1
      clear hdr
      have hkj : (keysE L)[j]'(by rw [keysE_len]; exact hjL) = L[j].1 := by unfold keysE; rw [List.getElem_map]
      rw [hkj] at hcell
      have HLT := Lib.hid hlt
      have HCL := Lib.hid hcell
      cases hp : p L[j] with
      | true =>
        have hk := fun W (hb : Below w.heap.size w W) => HKP.out W hb L[j] (List.getElem_mem hjL)
        rw [hp] at hk
        have HKJ := Lib.hid hk
        have HEA := Lib.hid (only_keep hjL hp)
        obtain ⟨⟨ky, xy⟩, hky⟩ : ∃ e, e = L[j] := ⟨_, rfl⟩
        rw [← hky] at HKJ hcell
        clear hk hp hky hkj hjL hlt HCL
        go_wp2_with fail
        (with_reducible refine (HKJ.out _ HB.out).mono ?_)
        rintro r w2 ⟨rfl, hb⟩
        replace HR := Lib.hid ((hb.block _ (Array.getElem?_eq_some_iff.1 HR.out).1).trans HR.out)
        replace HM := Lib.hid (HM.out.later hb)
        replace HK := Lib.hid (HK.out.later hb)
        replace HB := Lib.hid (HB.out.trans (hb.mono HB.out.size))
        clear hb
        go_wp2_with fail
        go_roundw
        case rel => exact ⟨j + 1, by simp, by have := HLT.out; omega, by rw [HEA.out]; exact HM, HK, HR, HB⟩
        case measure => have := HLT.out; simp [intOf]; omega
      | false =>
        have hk := fun W (hb : Below w.heap.size w W) => HKP.out W hb L[j] (List.getElem_mem hjL)
        rw [hp] at hk
        have HKJ := Lib.hid hk
        have HEA := Lib.hid (only_cut HRL.out hjL hp)
        have hsz := HSS.out _ (List.getElem_mem hjL)
        obtain ⟨⟨ky, xy⟩, hky⟩ : ∃ e, e = L[j] := ⟨_, rfl⟩
        rw [← hky] at HKJ hcell HEA hsz
        have HSY : Hid (ky.size ≤ 9223372036854775800) := hsz
        clear hk hp hky hkj hjL hlt HCL hsz
        go_wp2_with fail
        (with_reducible refine (HKJ.out _ HB.out).mono ?_)
        rintro r w2 ⟨rfl, hb⟩
        replace HR := Lib.hid ((hb.block _ (Array.getElem?_eq_some_iff.1 HR.out).1).trans HR.out)
        replace HM := Lib.hid (HM.out.later hb)
        replace HK := Lib.hid (HK.out.later hb)
        replace HB := Lib.hid (HB.out.trans (hb.mono HB.out.size))
        clear hb
        obtain ⟨cm, hXm, hmm⟩ := HM.out
        have HXM := Lib.hid hXm
        have HZM := Lib.hid hmm.size
        have HCT := Lib.hid (ml_Cut w2 s hss n (onlyE L p j) cm ky (by have := HSY.out; omega) hmm (only_rise HRL.out p j) (by have := only_len L p j; have := HNL.out; omega) (HTB.out _ HB.out))
        clear hXm hmm
        go_wp2_with (first
          | (refine ld_if (by rfl) 36 _ rfl X rfl 36 cm _ _ HXM.out Tryd.underlying36 rfl (by rw [HZM.out]; exact map_size) ?_)
          | (go_at_call 66; (with_reducible refine HCT.out.mono ?_); rintro r w3 ⟨c3, rfl, hm3, hb⟩; replace HR := Lib.hid ((hb.block _ (Array.getElem?_eq_some_iff.1 HR.out).1).trans HR.out); replace HXM := Lib.hid ((hb.block _ (Array.getElem?_eq_some_iff.1 HXM.out).1).trans HXM.out); replace HK := Lib.hid (HK.out.later hb); replace HB := Lib.hid (HB.out.trans (hb.mono HB.out.size)); have HM3 := Lib.hid hm3; have HZ3 := Lib.hid hm3.size; clear hm3 hb)
          | (refine st_agg rfl 36 _ _ rfl X c3 rfl rfl 36 _ HXM.out (by rw [HZ3.out]; exact map_size) (by rw [HZM.out, HZ3.out]) HM3.out.one ?_; intro w4 h4 k4; replace HR := Lib.hid (k4.other HR.out (by have := HD.out; omega)); replace HK := Lib.hid (HK.out.but k4 HXM.out (by decide)); replace HB := Lib.hid (HB.out.trans (k4.below (by have := HD.out; omega))); replace HM : Hid (MB w4 s n (onlyE L p (j + 1)) X) := by (rw [← HEA.out]; exact MB.wrote h4 k4 HXM.out HM3.out)))
        go_roundw
        case rel => exact ⟨j + 1, by simp, by have := HLT.out; omega, HM, HK, HR, HB⟩
        case measure => have := HLT.out; simp [intOf]; omega
    · obtain rfl : j = N := by omega
      rw [HNL.out.1, only_all] at HM
      obtain ⟨cm, hXm, hmm⟩ := HM.out
      have HXM := Lib.hid hXm
      have HMM := Lib.hid hmm
      have HZM := Lib.hid hmm.size
      clear hXm hmm
      go_wp2_with (first
        | (refine ld_if (by rfl) 36 _ rfl X rfl 36 cm _ _ HXM.out Tryd.underlying36 rfl (by rw [HZM.out]; exact map_size) ?_)
        | (refine st_agg rfl 36 _ _ rfl (w.heap.size + 1) cm rfl rfl 36 mapZ HR.out (by rw [HZM.out]; exact map_size) (by rw [HZM.out]; rfl) HMM.out.one ?_; intro w4 h4 k4))
      exact bodyPost_ret (results_cell_row rfl _ _ (w.heap.size + 1) 36 _ (0, 0) _ rfl h4 Tryd.underlying36 rfl (by rw [HZM.out]; exact map_size)) rfl ⟨cm, rfl, HMM.out.but k4 HR.out (by decide), HB.out.trans (k4.below (by omega))⟩
set_option maxHeartbeats 2000000 in
theorem dc_meet1 (w : World) (s : Nat) (hss : s < 18446744073709551616) (n : Int) (B : List Ent) (X : Nat) (k : ByteArray) (hk : k.size ≤ 9223372036854775800) (h : MB w s n B X) (hB : Rise B) (hn : B.length ≤ 40000) :
    Calls Tryd.prog 59 #[.string k, .pointer (some ⟨X, 0, none⟩)] w fun r w' => r = .returned (.bool ((getE B k).isSome)) ∧ Below w.heap.size w w' := by
  obtain ⟨c, hX, hm⟩ := h
  have HX := Lib.hid hX
  have HZ := Lib.hid hm.size
  have HH := Lib.hid (dc_has w s hss n B c k hk hm hB hn)
  obtain ⟨i, hi⟩ : ∃ i, i = (getE B k).isSome := ⟨_, rfl⟩
  rw [← hi] at HH ⊢
  clear hX hm hB hn hk hi
  go_enter Tryd.func59, Tryd.ntmps59
  go_wp2_with (first
    | (refine ld_if (by rfl) 36 _ rfl X rfl 36 c _ _ HX.out Tryd.underlying36 rfl (by rw [HZ.out]; exact map_size) ?_)
    | (go_at_call 57; (with_reducible refine HH.out.mono ?_); rintro r w2 ⟨rfl, hb2⟩; have HB2 := Lib.hid hb2; clear hb2))
  go_ret
  exact ⟨rfl, HB2.out⟩
set_option maxHeartbeats 2000000 in
theorem dc_less1 (w : World) (s : Nat) (hss : s < 18446744073709551616) (n : Int) (B : List Ent) (X : Nat) (k : ByteArray) (hk : k.size ≤ 9223372036854775800) (h : MB w s n B X) (hB : Rise B) (hn : B.length ≤ 40000) :
    Calls Tryd.prog 61 #[.string k, .pointer (some ⟨X, 0, none⟩)] w fun r w' => r = .returned (.bool (!(getE B k).isSome)) ∧ Below w.heap.size w w' := by
  obtain ⟨c, hX, hm⟩ := h
  have HX := Lib.hid hX
  have HZ := Lib.hid hm.size
  have HH := Lib.hid (dc_has w s hss n B c k hk hm hB hn)
  obtain ⟨i, hi⟩ : ∃ i, i = (getE B k).isSome := ⟨_, rfl⟩
  rw [← hi] at HH ⊢
  clear hX hm hB hn hk hi
  go_enter Tryd.func61, Tryd.ntmps61
  go_wp2_with (first
    | (refine ld_if (by rfl) 36 _ rfl X rfl 36 c _ _ HX.out Tryd.underlying36 rfl (by rw [HZ.out]; exact map_size) ?_)
    | (go_at_call 57; (with_reducible refine HH.out.mono ?_); rintro r w2 ⟨rfl, hb2⟩; have HB2 := Lib.hid hb2; clear hb2))
  go_ret
  exact ⟨rfl, HB2.out⟩
/-- From lo on, below hi. -/
def betE (lo hi : ByteArray) (e : Ent) : Bool := decide (¬ kb e.1 < kb lo) && decide (kb e.1 < kb hi)
theorem order_le (a b : ByteArray) : (orderS (kb a) (kb b) ≤ 0) ↔ ¬ kb b < kb a := by
  have h1 := orderS_less (kb a) (kb b)
  have h2 := orderS_zero (kb a) (kb b)
  have hr := orderS_range (kb a) (kb b)
  rcases tri a b with h | h | h
  · have : orderS (kb a) (kb b) < 0 := by have := h1.2 h; omega
    exact ⟨fun _ => lt_asym h, fun _ => by omega⟩
  · subst h
    have : orderS (kb a) (kb a) = 0 := by first | exact h2.2 rfl | omega
    exact ⟨fun _ => lt_irrefl_l _, fun _ => by omega⟩
  · constructor
    · intro hle
      exfalso
      rcases Int.lt_or_eq_of_le hle with h3 | h3
      · have : kb a < kb b := h1.1 (by omega)
        exact lt_asym h this
      · have : kb a = kb b := by first | exact h2.1 h3 | exact (orderS_zero ..).1 h3
        exact lt_ne h (kb_inj this.symm)
    · intro h3; exact absurd h h3
set_option maxHeartbeats 2000000 in
theorem dc_between1 (w : World) (lo hi : ByteArray) (X Y : Nat) (k : ByteArray) (x : Int) (hX : w.cell? ⟨X, 0, none⟩ = some (.string lo)) (hY : w.cell? ⟨Y, 0, none⟩ = some (.string hi)) :
    Calls Tryd.prog 62 #[.string k, .pointer (some ⟨X, 0, none⟩), .pointer (some ⟨Y, 0, none⟩)] w fun r w' => r = .returned (.bool (betE lo hi (k, x))) ∧ Below w.heap.size w w' := by
  have HO := Lib.hid (fun w => q_Order lo k w)
  have HO2 := Lib.hid (fun w => q_Order k hi w)
  have e1 : decide (orderS lo.data.toList k.data.toList ≤ 0) = decide (¬ kb k < kb lo) := decide_eq_decide.2 (order_le lo k)
  have e2 : decide (orderS k.data.toList hi.data.toList < 0) = decide (kb k < kb hi) := decide_eq_decide.2 (order_lt k hi)
  obtain ⟨p, hp⟩ : ∃ p, p = orderS lo.data.toList k.data.toList := ⟨_, rfl⟩
  obtain ⟨q, hq⟩ : ∃ q, q = orderS k.data.toList hi.data.toList := ⟨_, rfl⟩
  rw [← hp] at HO e1
  rw [← hq] at HO2 e2
  have HE : Hid (betE lo hi (k, x) = (decide (p ≤ 0) && decide (q < 0))) := by show _ = _; unfold betE; rw [e1, e2]
  clear e1 e2 hp hq
  by_cases h1 : p ≤ 0
  · have HE2 : Hid (betE lo hi (k, x) = decide (q < 0)) := by show _ = _; rw [HE.out, decide_eq_true h1, Bool.true_and]
    rw [HE2.out]
    clear HE HE2
    go_enter Tryd.func62, Tryd.ntmps62
    go_wp2_with (first
      | (go_at_call 63; (with_reducible refine (HO.out _).mono ?_); rintro r w1 ⟨rfl, hw⟩; obtain rfl := hw)
      | (go_at_call 63; (with_reducible refine (HO2.out _).mono ?_); rintro r w1 ⟨rfl, hw⟩; obtain rfl := hw))
    go_ret
    exact ⟨rfl, Below.refl _ _⟩
  · have h1' : ¬ p ≤ 0 := h1
    have HE2 : Hid (betE lo hi (k, x) = false) := by show _ = _; rw [HE.out, decide_eq_false h1, Bool.false_and]
    rw [HE2.out]
    clear HE HE2
    go_enter Tryd.func62, Tryd.ntmps62
    go_wp2_with (first
      | (go_at_call 63; (with_reducible refine (HO.out _).mono ?_); rintro r w1 ⟨rfl, hw⟩; obtain rfl := hw))
    go_ret
    exact ⟨rfl, Below.refl _ _⟩
set_option maxHeartbeats 4000000 in
theorem dc_Meet (w : World) (s : Nat) (hss : s < 18446744073709551616) (n : Int) (A : List Ent) (ca : Array Value) (s2 : Nat) (hss2 : s2 < 18446744073709551616) (n2 : Int) (B : List Ent) (cb : Array Value)
    (ha : ML w s n A ca) (hb : ML w s2 n2 B cb) (hA : Rise A) (hB : Rise B) (hn : A.length ≤ 40000) (hm : B.length ≤ 40000) (hS : ∀ e ∈ A, e.1.size ≤ 9223372036854775800) (hT : Tab6 w) :
    Calls Tryd.prog 27 #[.agg ca, .agg cb] w fun r w' => ∃ c', r = .returned (.agg c') ∧ ML w' s n (A.filter (hasE B)) c' ∧ Below w.heap.size w w' := by
  obtain ⟨w0, hw0⟩ : ∃ w0, ((w.alloc (.cells ca 36)).alloc (.cells cb 36)).alloc (.cells mapZ 36) = w0 := ⟨_, rfl⟩
  obtain ⟨hb0, hx, hy, hz, hs0⟩ := three_newG hw0
  have hmb : MB w0 s2 n2 B (w.heap.size + 1) := ⟨cb, hy, hb.later hb0⟩
  have HON := Lib.hid (dc_only w0 s hss n A ca (ha.later hb0) hA hn hS (hT.below hb0) (hasE B) 59 #[.pointer (some ⟨w.heap.size + 1, 0, none⟩)] (enters_of Tryd.func59 (by kernel_rfl) rfl)
    (fun W hW e he => dc_meet1 W s2 hss2 n2 B (w.heap.size + 1) e.1 (hS e he) (hmb.later hW) hB hm))
  have HX := Lib.hid hx
  have HR : Hid (w0.heap[w.heap.size + 1 + 1]? = some (.cells mapZ 36 (0, 0))) := hz
  have HB := Lib.hid hb0
  have HZA := Lib.hid ha.size
  clear ha hb hA hB hn hm hS hT hb0 hx hy hz hmb hs0
  go_enter Tryd.func27, Tryd.ntmps27
  go_upto_region 1 with fail
  clear hw0
  go_wp2_with (first
    | (refine ld_if (by rfl) 36 _ rfl w.heap.size rfl 36 ca _ _ HX.out Tryd.underlying36 rfl (by rw [HZA.out]; exact map_size) ?_)
    | (go_at_call 58; (with_reducible refine HON.out.mono ?_); rintro r w2 ⟨c2, rfl, hm2, hb⟩; replace HR := Lib.hid ((hb.block _ (Array.getElem?_eq_some_iff.1 HR.out).1).trans HR.out); replace HB := Lib.hid (HB.out.trans (hb.mono HB.out.size)); have HM2 := Lib.hid hm2; have HZ2 := Lib.hid hm2.size; clear hm2 hb)
    | (refine st_agg rfl 36 _ _ rfl (w.heap.size + 1 + 1) c2 rfl rfl 36 mapZ HR.out (by rw [HZ2.out]; exact map_size) (by rw [HZ2.out]; rfl) HM2.out.one ?_; intro w4 h4 k4))
  exact bodyPost_ret (results_cell_row rfl _ _ (w.heap.size + 1 + 1) 36 _ (0, 0) _ rfl h4 Tryd.underlying36 rfl (by rw [HZ2.out]; exact map_size)) rfl ⟨c2, rfl, HM2.out.but k4 HR.out (by decide), HB.out.trans (k4.below (by omega))⟩
set_option maxHeartbeats 4000000 in
theorem dc_Less (w : World) (s : Nat) (hss : s < 18446744073709551616) (n : Int) (A : List Ent) (ca : Array Value) (s2 : Nat) (hss2 : s2 < 18446744073709551616) (n2 : Int) (B : List Ent) (cb : Array Value)
    (ha : ML w s n A ca) (hb : ML w s2 n2 B cb) (hA : Rise A) (hB : Rise B) (hn : A.length ≤ 40000) (hm : B.length ≤ 40000) (hS : ∀ e ∈ A, e.1.size ≤ 9223372036854775800) (hT : Tab6 w) :
    Calls Tryd.prog 29 #[.agg ca, .agg cb] w fun r w' => ∃ c', r = .returned (.agg c') ∧ ML w' s n (A.filter (fun e => !hasE B e)) c' ∧ Below w.heap.size w w' := by
  obtain ⟨w0, hw0⟩ : ∃ w0, ((w.alloc (.cells ca 36)).alloc (.cells cb 36)).alloc (.cells mapZ 36) = w0 := ⟨_, rfl⟩
  obtain ⟨hb0, hx, hy, hz, hs0⟩ := three_newG hw0
  have hmb : MB w0 s2 n2 B (w.heap.size + 1) := ⟨cb, hy, hb.later hb0⟩
  have HON := Lib.hid (dc_only w0 s hss n A ca (ha.later hb0) hA hn hS (hT.below hb0) (fun e => !hasE B e) 61 #[.pointer (some ⟨w.heap.size + 1, 0, none⟩)] (enters_of Tryd.func61 (by kernel_rfl) rfl)
    (fun W hW e he => dc_less1 W s2 hss2 n2 B (w.heap.size + 1) e.1 (hS e he) (hmb.later hW) hB hm))
  have HX := Lib.hid hx
  have HR : Hid (w0.heap[w.heap.size + 1 + 1]? = some (.cells mapZ 36 (0, 0))) := hz
  have HB := Lib.hid hb0
  have HZA := Lib.hid ha.size
  clear ha hb hA hB hn hm hS hT hb0 hx hy hz hmb hs0
  go_enter Tryd.func29, Tryd.ntmps29
  go_upto_region 1 with fail
  clear hw0
  go_wp2_with (first
    | (refine ld_if (by rfl) 36 _ rfl w.heap.size rfl 36 ca _ _ HX.out Tryd.underlying36 rfl (by rw [HZA.out]; exact map_size) ?_)
    | (go_at_call 58; (with_reducible refine HON.out.mono ?_); rintro r w2 ⟨c2, rfl, hm2, hb⟩; replace HR := Lib.hid ((hb.block _ (Array.getElem?_eq_some_iff.1 HR.out).1).trans HR.out); replace HB := Lib.hid (HB.out.trans (hb.mono HB.out.size)); have HM2 := Lib.hid hm2; have HZ2 := Lib.hid hm2.size; clear hm2 hb)
    | (refine st_agg rfl 36 _ _ rfl (w.heap.size + 1 + 1) c2 rfl rfl 36 mapZ HR.out (by rw [HZ2.out]; exact map_size) (by rw [HZ2.out]; rfl) HM2.out.one ?_; intro w4 h4 k4))
  exact bodyPost_ret (results_cell_row rfl _ _ (w.heap.size + 1 + 1) 36 _ (0, 0) _ rfl h4 Tryd.underlying36 rfl (by rw [HZ2.out]; exact map_size)) rfl ⟨c2, rfl, HM2.out.but k4 HR.out (by decide), HB.out.trans (k4.below (by omega))⟩
set_option maxHeartbeats 4000000 in
theorem dc_Between (w : World) (s : Nat) (hss : s < 18446744073709551616) (n : Int) (A : List Ent) (ca : Array Value) (lo hi : ByteArray)
    (ha : ML w s n A ca) (hA : Rise A) (hn : A.length ≤ 40000) (hS : ∀ e ∈ A, e.1.size ≤ 9223372036854775800) (hT : Tab6 w) :
    Calls Tryd.prog 31 #[.agg ca, .string lo, .string hi] w fun r w' => ∃ c', r = .returned (.agg c') ∧ ML w' s n (A.filter (betE lo hi)) c' ∧ Below w.heap.size w w' := by
  obtain ⟨w3, hw3⟩ : ∃ w3, ((w.alloc (.cells ca 36)).alloc (.cells #[.string lo] 9)).alloc (.cells #[.string hi] 9) = w3 := ⟨_, rfl⟩
  obtain ⟨hb3, hx3, hy3, hz3, hs3⟩ := three_newG hw3
  obtain ⟨w0, hw0⟩ : ∃ w0, w3.alloc (.cells mapZ 36) = w0 := ⟨_, rfl⟩
  obtain ⟨hb4, hr, hs4⟩ := new_below hw0
  have hx := (hb4.block _ (Array.getElem?_eq_some_iff.1 hx3).1).trans hx3
  have hy := (hb4.block _ (Array.getElem?_eq_some_iff.1 hy3).1).trans hy3
  have hz := (hb4.block _ (Array.getElem?_eq_some_iff.1 hz3).1).trans hz3
  have hb0 : Below w.heap.size w w0 := hb3.trans (hb4.mono hb3.size)
  have HON := Lib.hid (dc_only w0 s hss n A ca (ha.later hb0) hA hn hS (hT.below hb0) (betE lo hi) 62 #[.pointer (some ⟨w.heap.size + 1, 0, none⟩), .pointer (some ⟨w.heap.size + 1 + 1, 0, none⟩)] (enters_of Tryd.func62 (by kernel_rfl) rfl)
    (fun W hW e he => dc_between1 W lo hi (w.heap.size + 1) (w.heap.size + 1 + 1) e.1 e.2 (cell_in ((hW.block _ (Array.getElem?_eq_some_iff.1 hy).1).trans hy) rfl) (cell_in ((hW.block _ (Array.getElem?_eq_some_iff.1 hz).1).trans hz) rfl)))
  have HX := Lib.hid hx
  have HR : Hid (w0.heap[w.heap.size + 1 + 1 + 1]? = some (.cells mapZ 36 (0, 0))) := by show _ = _; rw [show w.heap.size + 1 + 1 + 1 = w3.heap.size by omega]; exact hr
  have HB := Lib.hid hb0
  have HZA := Lib.hid ha.size
  rw [← hw3] at hw0
  clear ha hA hn hS hT hb0 hx hy hz hr hs3 hs4 hx3 hy3 hz3 hb3 hb4 hw3
  go_enter Tryd.func31, Tryd.ntmps31
  go_upto_region 1 with fail
  clear hw0
  go_wp2_with (first
    | (refine ld_if (by rfl) 36 _ rfl w.heap.size rfl 36 ca _ _ HX.out Tryd.underlying36 rfl (by rw [HZA.out]; exact map_size) ?_)
    | (go_at_call 58; (with_reducible refine HON.out.mono ?_); rintro r w2 ⟨c2, rfl, hm2, hb⟩; replace HR := Lib.hid ((hb.block _ (Array.getElem?_eq_some_iff.1 HR.out).1).trans HR.out); replace HB := Lib.hid (HB.out.trans (hb.mono HB.out.size)); have HM2 := Lib.hid hm2; have HZ2 := Lib.hid hm2.size; clear hm2 hb)
    | (refine st_agg rfl 36 _ _ rfl (w.heap.size + 1 + 1 + 1) c2 rfl rfl 36 mapZ HR.out (by rw [HZ2.out]; exact map_size) (by rw [HZ2.out]; rfl) HM2.out.one ?_; intro w4 h4 k4))
  exact bodyPost_ret (results_cell_row rfl _ _ (w.heap.size + 1 + 1 + 1) 36 _ (0, 0) _ rfl h4 Tryd.underlying36 rfl (by rw [HZ2.out]; exact map_size)) rfl ⟨c2, rfl, HM2.out.but k4 HR.out (by decide), HB.out.trans (k4.below (by omega))⟩
end Go.Proofs.YtnnlfgfgfegjkaaDoor
