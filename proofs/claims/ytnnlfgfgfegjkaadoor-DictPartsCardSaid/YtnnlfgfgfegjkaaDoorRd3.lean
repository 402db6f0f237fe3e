/- The document's differences: Alike, Changes, Same; whether two numbers are the same, as the laws ask. (written by tools/gen10/rd3.py) -/
import Derived.Test.YtnnlfgfgfegjkaaDoorRd2
import Derived.Test.YtnnlfgfgfegjkaaDoorDc5
import Derived.Deep.QuietTactic
import Derived.BigQuiet
namespace Go.Proofs.YtnnlfgfgfegjkaaDoor
open Go.RowKit
set_option maxRecDepth 1000000
set_option linter.unusedSimpArgs false

/-- Is what is left of two numbers by another one the same (0: are they)? -/
def alikeI (b x y : Int) : Bool := if b = 0 then x == y else x.tmod b == y.tmod b
theorem alikeI_comm (b x y : Int) : alikeI b x y = alikeI b y x := by
  unfold alikeI
  split <;> exact Bool.beq_comm ..
def sameI (x y : Int) : Bool := x == y
set_option maxHeartbeats 2000000 in
theorem rf_Alike (x y b : Int) (w : World) : Calls Tryd.prog 35 #[.int .i64 x, .int .i64 y, .int .i64 b] w fun r w' => r = .returned (.bool (alikeI b x y)) ∧ Below w.heap.size w w' := by
  by_cases h : b = 0
  · subst h
    have e : alikeI 0 x y = (x == y) := rfl
    rw [e]
    clear e
    go_enter Tryd.func35, Tryd.ntmps35
    go_wp2_with fail
    go_ret
    exact ⟨rfl, Below.refl _ _⟩
  · have e : alikeI b x y = (x.tmod b == y.tmod b) := if_neg h
    have hb : (b == 0) = false := beq_eq_false_iff_ne.2 h
    rw [e]
    clear e
    go_enter Tryd.func35, Tryd.ntmps35
    go_wp2_with fail
    go_quiet (fail)
    go_wp2_with fail
    go_ret
    exact ⟨rfl, Below.drewMany (Below.refl _ _) _⟩
set_option maxHeartbeats 2000000 in
theorem lw_equal (x y : Int) (w : World) : Calls Tryd.prog 43 #[.int .i64 x, .int .i64 y] w fun r w' => r = .returned (.bool (sameI x y)) ∧ Below w.heap.size w w' := by
  unfold sameI
  go_enter Tryd.func43, Tryd.ntmps43
  go_wp2_with fail
  go_ret
  exact ⟨rfl, Below.refl _ _⟩
set_option maxHeartbeats 2000000 in
theorem lw_by (x y b : Int) (X : Nat) (w : World) (h : w.cell? ⟨X, 0, none⟩ = some (.int .i64 b)) : Calls Tryd.prog 34 #[.int .i64 x, .int .i64 y, .pointer (some ⟨X, 0, none⟩)] w fun r w' => r = .returned (.bool (alikeI b x y)) ∧ Below w.heap.size w w' := by
  have HA := Lib.hid (fun w => rf_Alike x y b w)
  obtain ⟨t, ht⟩ : ∃ t, t = alikeI b x y := ⟨_, rfl⟩
  rw [← ht] at HA ⊢
  clear ht
  go_enter Tryd.func34, Tryd.ntmps34
  go_wp2_with (go_at_call 35; (with_reducible refine (HA.out _).mono ?_); rintro r w2 ⟨rfl, hb⟩; have HB := Lib.hid hb; clear hb)
  go_ret
  exact ⟨rfl, HB.out⟩
set_option maxHeartbeats 8000000 in
theorem rf_Changes (w : World) (ca cb : Array Value) (A B : List Ent) (b : Int) (ha : RefM w ca A) (hb : RefM w cb B) (hA : Rise A) (hB : Rise B) (hSA : Short A) (hSB : Short B) (hn : A.length + B.length ≤ 40000) :
    Calls Tryd.prog 38 #[.agg ca, .agg cb, .int .i64 b] w fun r w' => ∃ v, r = .returned v ∧ RowsOwn w.heap.size 74 5 v ((difE (alikeI b) A B).map chgC) w' ∧ Below w.heap.size w w' := by
  obtain ⟨w0, hw0⟩ : ∃ w0, (w.alloc (.cells ca 40)).alloc (.cells cb 40) = w0 := ⟨_, rfl⟩
  obtain ⟨hb0, hx, hy, hs0⟩ := two_newG hw0
  obtain ⟨w1, hw1⟩ : ∃ w1, w0.alloc (.cells #[] 74) = w1 := ⟨_, rfl⟩
  obtain ⟨hb1, hz, hs1⟩ := new_below hw1
  have HUN := Lib.hid (fun W (h : Below w.heap.size w W) => rf_Union W ca cb A B (ha.later h) (hb.later h) hB hSA hSB (by omega) (by omega))
  have HGA := Lib.hid (fun W (h : Below w.heap.size w W) k => ref_Get9 W ca A k (ha.later h) hA hSA (by omega))
  have HGB := Lib.hid (fun W (h : Below w.heap.size w W) k => ref_Get9 W cb B k (hb.later h) hB hSB (by omega))
  have HAK := Lib.hid (fun x y w => rf_Alike x y b w)
  have HZA := Lib.hid ha.size
  have HZB := Lib.hid hb.size
  have HXA := Lib.hid ((hb1.block _ (Array.getElem?_eq_some_iff.1 hx).1).trans hx)
  have HXB := Lib.hid ((hb1.block _ (Array.getElem?_eq_some_iff.1 hy).1).trans hy)
  have hbw := hb0.trans (hb1.mono hb0.size)
  have HB := Lib.hid hbw
  have HRO : Hid (RowsOwn (w.heap.size + 2) 74 5 (.slice (some ⟨w0.heap.size, 0, none⟩) 0 0) ((([] : List Chg)).map chgC) w1) := rows_empty (by omega) (by omega) hz
  have hul := uni_len hB A
  obtain ⟨K, hK⟩ : ∃ K, K = keysE (uniE A B) := ⟨_, rfl⟩
  obtain ⟨N, hN⟩ : ∃ N, N = K.length := ⟨_, rfl⟩
  have HNK : Hid (N = K.length ∧ N ≤ 40000 ∧ K = keysE (uniE A B)) := ⟨hN, by rw [hN, hK, keysE_len]; omega, hK⟩
  have hn4 : (N : Int) ≤ 40000 := by have := HNK.out.2.1; omega
  have HW0 : Hid (w0.heap.size = w.heap.size + 2) := by show _ = _; omega
  clear ha hb hA hB hSA hSB hn hb0 hx hy hs0 hb1 hz hs1 hbw hul hK hN
  go_enter Tryd.func38, Tryd.ntmps38
  go_upto_region 2 with fail
  try rw [hw1]
  clear hw0 hw1
  go_wp2_with (first
    | (refine ld_if (by rfl) 40 _ rfl w.heap.size rfl 40 ca _ _ HXA.out Tryd.underlying40 rfl (by rw [HZA.out]; exact refm_size) ?_)
    | (refine ld_if (by rfl) 40 _ rfl (w.heap.size + 1) rfl 40 cb _ _ HXB.out Tryd.underlying40 rfl (by rw [HZB.out]; exact refm_size) ?_)
    | (go_at_call 26; (with_reducible refine (HUN.out _ HB.out).mono ?_); rintro r w2 ⟨c2, rfl, hm2, hb⟩; replace HXA := Lib.hid ((hb.block _ (Array.getElem?_eq_some_iff.1 HXA.out).1).trans HXA.out); replace HXB := Lib.hid ((hb.block _ (Array.getElem?_eq_some_iff.1 HXB.out).1).trans HXB.out); replace HRO := Lib.hid (HRO.out.later hb); replace HB := Lib.hid (HB.out.trans (hb.mono HB.out.size)); obtain ⟨kv, xv, rfl, hk2, hx2⟩ := hm2; have HKU := Lib.hid hk2; obtain ⟨ak, ck, hvk, _⟩ := hk2.shape; rw [← HNK.out.2.2, ← HNK.out.1] at hvk; subst hvk; obtain ⟨ax, cx, hvx, _⟩ := hx2.shape; subst hvx; have hfd : ∀ W : World, (Instr.field 40 (.agg #[.slice ak N ck, .slice ax (valsE (uniE A B)).length cx]) 0).run Tryd.prog W = .ok (.slice ak N ck) W := fun _ => by kernel_rfl
       clear hk2 hx2 hb))
  clear hfd
  have HTK : Hid (TK 9 w2 w2) := TK.refl _ _
  rw [← HNK.out.2.2] at HKU
  go_loopw [7, 20] (fun v7 i wl => ∃ j : Nat, i = .int .i64 (j : Int) ∧ j ≤ N ∧ Hid (wl.heap[w.heap.size]? = some (.cells ca 40 (0, 0))) ∧ Hid (wl.heap[w.heap.size + 1]? = some (.cells cb 40 (0, 0))) ∧ Hid (RowsOwn (w.heap.size + 2) 74 5 v7 ((chgsE (alikeI b) A B (K.take j)).map chgC) wl) ∧ Hid (TK 9 w2 wl) ∧ Hid (Below w.heap.size w wl)) (fun _ i _ => N - (intOf i).toNat)
  case atStart => exact ⟨0, rfl, Nat.zero_le _, HXA, HXB, HRO, HTK, HB⟩
  case round =>
    clear HXA HXB HRO HTK HB
    obtain ⟨j, rfl, hj, HXA, HXB, HRO, HTK, HB⟩ := hrel
    by_cases hlt : j < N
    · have hlt' : (j : Int) < (N : Int) := by omega
      have hjL : j < K.length := by rw [← HNK.out.1]; exact hlt
      obtain ⟨g1, d1, e1, hc1⟩ := (HKU.out.tk HTK.out).cell hjL
      rw [← HNK.out.1] at e1
      simp only [Value.slice.injEq] at e1
      obtain ⟨rfl, hd1, rfl⟩ := e1
      have hct := chgs_take (alikeI b) A B hjL
      have HOL : Hid (((chgsE (alikeI b) A B (K.take j)).map chgC).length ≤ 100000) := by show _ ≤ _; rw [List.length_map]; have h := chgs_len (alikeI b) A B (K.take j); rw [List.length_take] at h; have := HNK.out.2.1; omega
      obtain ⟨ky, hky⟩ : ∃ e, e = K[j] := ⟨_, rfl⟩
      rw [← hky] at hc1 hct
      have hg1 := fun W h => HGA.out W h ky
      have hg2 := fun W h => HGB.out W h ky
      unfold chgE at hct
      obtain ⟨D, hD⟩ : ∃ D, D = chgsE (alikeI b) A B (K.take j) := ⟨_, rfl⟩
      rw [← hD] at hct HRO HOL
      obtain ⟨xa, hxa⟩ : ∃ x, x = (getE A ky).getD 0 := ⟨_, rfl⟩
      obtain ⟨ia, hia⟩ : ∃ x, x = (getE A ky).isSome := ⟨_, rfl⟩
      obtain ⟨xb, hxb⟩ : ∃ x, x = (getE B ky).getD 0 := ⟨_, rfl⟩
      obtain ⟨ib, hib⟩ : ∃ x, x = (getE B ky).isSome := ⟨_, rfl⟩
      rw [← hxa, ← hia] at hg1 hct
      rw [← hxb, ← hib] at hg2 hct
      have HG1 := Lib.hid hg1
      have HG2 := Lib.hid hg2
      have HEA := Lib.hid hct
      have HLT := Lib.hid hlt
      clear hd1 hky hD hxa hia hxb hib hg1 hg2 hct hjL hlt
      cases ia with
      | false =>
        have HE2 : Hid (chgsE (alikeI b) A B (K.take (j + 1)) = D ++ [(ky, false, ib, xa, xb)]) := by
          show _ = _
          rw [HEA.out]
          simp [isChg]
        go_wp2_with (first
          | (refine ld_if (by rfl) 40 _ rfl w.heap.size rfl 40 ca _ _ HXA.out Tryd.underlying40 rfl (by rw [HZA.out]; exact refm_size) ?_)
          | (refine ld_if (by rfl) 40 _ rfl (w.heap.size + 1) rfl 40 cb _ _ HXB.out Tryd.underlying40 rfl (by rw [HZB.out]; exact refm_size) ?_)
          | (go_at_call 65; (with_reducible refine (HG1.out _ HB.out).mono ?_); rintro r w3 ⟨rfl, hb⟩; replace HXA := Lib.hid ((hb.block _ (Array.getElem?_eq_some_iff.1 HXA.out).1).trans HXA.out); replace HXB := Lib.hid ((hb.block _ (Array.getElem?_eq_some_iff.1 HXB.out).1).trans HXB.out); replace HRO := Lib.hid (HRO.out.later hb); replace HTK := Lib.hid (HTK.out.trans (TK.below hb)); replace HB := Lib.hid (HB.out.trans (hb.mono HB.out.size)); clear hb)
          | (go_at_call 65; (with_reducible refine (HG2.out _ HB.out).mono ?_); rintro r w3 ⟨rfl, hb⟩; replace HXA := Lib.hid ((hb.block _ (Array.getElem?_eq_some_iff.1 HXA.out).1).trans HXA.out); replace HXB := Lib.hid ((hb.block _ (Array.getElem?_eq_some_iff.1 HXB.out).1).trans HXB.out); replace HRO := Lib.hid (HRO.out.later hb); replace HTK := Lib.hid (HTK.out.trans (TK.below hb)); replace HB := Lib.hid (HB.out.trans (hb.mono HB.out.size)); clear hb)
          | (refine bs_list rfl 64 74 _ rfl (chgC (ky, false, ib, xa, xb)) 5 (.agg chgZ) rfl rfl (by decide) (by decide) Tryd.underlying64 rfl ?_; intro w6 h6 hb6 hs6; replace HXA := Lib.hid ((hb6.block _ (Array.getElem?_eq_some_iff.1 HXA.out).1).trans HXA.out); replace HXB := Lib.hid ((hb6.block _ (Array.getElem?_eq_some_iff.1 HXB.out).1).trans HXB.out); replace HRO := Lib.hid (HRO.out.later hb6); replace HTK := Lib.hid (HTK.out.trans (TK.below hb6)); replace HB := Lib.hid (HB.out.trans (hb6.mono HB.out.size)); have HG6 := Lib.hid h6; clear h6 hb6 hs6)
          | (refine rows_list rfl (z := .agg chgZ) (by_ := 40) 64 74 _ _ rfl rfl HRO.out _ rfl HG6.out rfl (chgC_one _) Tryd.underlying64 rfl rfl (by decide) HOL.out (by decide) ?_; intro v7n w7 hr7 hg7; replace HXA := Lib.hid (HRO.out.keeps hg7 (by omega) HXA.out); replace HXB := Lib.hid (HRO.out.keeps hg7 (by omega) HXB.out); replace HTK := Lib.hid (HTK.out.trans (rows_tk HRO.out hg7 (by decide))); replace HB := Lib.hid (HB.out.trans (HRO.out.below hg7 (by omega) HB.out.size)); replace HRO := Lib.hid hr7; clear hr7 hg7))
        go_roundw
        case rel =>
          refine ⟨j + 1, by simp, by have := HLT.out; omega, HXA, HXB, ?_, HTK, HB⟩
          show RowsOwn _ _ _ _ _ _
          rw [HE2.out, List.map_append]
          exact HRO.out
        case measure => have := HLT.out; simp [intOf]; omega
      | true =>
        cases ib with
        | false =>
          have HE2 : Hid (chgsE (alikeI b) A B (K.take (j + 1)) = D ++ [(ky, true, false, xa, xb)]) := by
            show _ = _
            rw [HEA.out]
            simp [isChg]
          go_wp2_with (first
            | (refine ld_if (by rfl) 40 _ rfl w.heap.size rfl 40 ca _ _ HXA.out Tryd.underlying40 rfl (by rw [HZA.out]; exact refm_size) ?_)
            | (refine ld_if (by rfl) 40 _ rfl (w.heap.size + 1) rfl 40 cb _ _ HXB.out Tryd.underlying40 rfl (by rw [HZB.out]; exact refm_size) ?_)
            | (go_at_call 65; (with_reducible refine (HG1.out _ HB.out).mono ?_); rintro r w3 ⟨rfl, hb⟩; replace HXA := Lib.hid ((hb.block _ (Array.getElem?_eq_some_iff.1 HXA.out).1).trans HXA.out); replace HXB := Lib.hid ((hb.block _ (Array.getElem?_eq_some_iff.1 HXB.out).1).trans HXB.out); replace HRO := Lib.hid (HRO.out.later hb); replace HTK := Lib.hid (HTK.out.trans (TK.below hb)); replace HB := Lib.hid (HB.out.trans (hb.mono HB.out.size)); clear hb)
            | (go_at_call 65; (with_reducible refine (HG2.out _ HB.out).mono ?_); rintro r w3 ⟨rfl, hb⟩; replace HXA := Lib.hid ((hb.block _ (Array.getElem?_eq_some_iff.1 HXA.out).1).trans HXA.out); replace HXB := Lib.hid ((hb.block _ (Array.getElem?_eq_some_iff.1 HXB.out).1).trans HXB.out); replace HRO := Lib.hid (HRO.out.later hb); replace HTK := Lib.hid (HTK.out.trans (TK.below hb)); replace HB := Lib.hid (HB.out.trans (hb.mono HB.out.size)); clear hb)
            | (refine bs_list rfl 64 74 _ rfl (chgC (ky, true, false, xa, xb)) 5 (.agg chgZ) rfl rfl (by decide) (by decide) Tryd.underlying64 rfl ?_; intro w6 h6 hb6 hs6; replace HXA := Lib.hid ((hb6.block _ (Array.getElem?_eq_some_iff.1 HXA.out).1).trans HXA.out); replace HXB := Lib.hid ((hb6.block _ (Array.getElem?_eq_some_iff.1 HXB.out).1).trans HXB.out); replace HRO := Lib.hid (HRO.out.later hb6); replace HTK := Lib.hid (HTK.out.trans (TK.below hb6)); replace HB := Lib.hid (HB.out.trans (hb6.mono HB.out.size)); have HG6 := Lib.hid h6; clear h6 hb6 hs6)
            | (refine rows_list rfl (z := .agg chgZ) (by_ := 40) 64 74 _ _ rfl rfl HRO.out _ rfl HG6.out rfl (chgC_one _) Tryd.underlying64 rfl rfl (by decide) HOL.out (by decide) ?_; intro v7n w7 hr7 hg7; replace HXA := Lib.hid (HRO.out.keeps hg7 (by omega) HXA.out); replace HXB := Lib.hid (HRO.out.keeps hg7 (by omega) HXB.out); replace HTK := Lib.hid (HTK.out.trans (rows_tk HRO.out hg7 (by decide))); replace HB := Lib.hid (HB.out.trans (HRO.out.below hg7 (by omega) HB.out.size)); replace HRO := Lib.hid hr7; clear hr7 hg7))
          go_roundw
          case rel =>
            refine ⟨j + 1, by simp, by have := HLT.out; omega, HXA, HXB, ?_, HTK, HB⟩
            show RowsOwn _ _ _ _ _ _
            rw [HE2.out, List.map_append]
            exact HRO.out
          case measure => have := HLT.out; simp [intOf]; omega
        | true =>
          cases hav : alikeI b xa xb with
          | false =>
            have HE2 : Hid (chgsE (alikeI b) A B (K.take (j + 1)) = D ++ [(ky, true, true, xa, xb)]) := by
              show _ = _
              rw [HEA.out]
              simp [isChg, hav]
            have hal := fun w => HAK.out xa xb w
            rw [hav] at hal
            have HAL := Lib.hid hal
            clear hal hav
            go_wp2_with (first
              | (refine ld_if (by rfl) 40 _ rfl w.heap.size rfl 40 ca _ _ HXA.out Tryd.underlying40 rfl (by rw [HZA.out]; exact refm_size) ?_)
              | (refine ld_if (by rfl) 40 _ rfl (w.heap.size + 1) rfl 40 cb _ _ HXB.out Tryd.underlying40 rfl (by rw [HZB.out]; exact refm_size) ?_)
              | (go_at_call 65; (with_reducible refine (HG1.out _ HB.out).mono ?_); rintro r w3 ⟨rfl, hb⟩; replace HXA := Lib.hid ((hb.block _ (Array.getElem?_eq_some_iff.1 HXA.out).1).trans HXA.out); replace HXB := Lib.hid ((hb.block _ (Array.getElem?_eq_some_iff.1 HXB.out).1).trans HXB.out); replace HRO := Lib.hid (HRO.out.later hb); replace HTK := Lib.hid (HTK.out.trans (TK.below hb)); replace HB := Lib.hid (HB.out.trans (hb.mono HB.out.size)); clear hb)
              | (go_at_call 65; (with_reducible refine (HG2.out _ HB.out).mono ?_); rintro r w3 ⟨rfl, hb⟩; replace HXA := Lib.hid ((hb.block _ (Array.getElem?_eq_some_iff.1 HXA.out).1).trans HXA.out); replace HXB := Lib.hid ((hb.block _ (Array.getElem?_eq_some_iff.1 HXB.out).1).trans HXB.out); replace HRO := Lib.hid (HRO.out.later hb); replace HTK := Lib.hid (HTK.out.trans (TK.below hb)); replace HB := Lib.hid (HB.out.trans (hb.mono HB.out.size)); clear hb)
              | (go_at_call 35; (with_reducible refine (HAL.out _).mono ?_); rintro r w3 ⟨rfl, hb⟩; replace HXA := Lib.hid ((hb.block _ (Array.getElem?_eq_some_iff.1 HXA.out).1).trans HXA.out); replace HXB := Lib.hid ((hb.block _ (Array.getElem?_eq_some_iff.1 HXB.out).1).trans HXB.out); replace HRO := Lib.hid (HRO.out.later hb); replace HTK := Lib.hid (HTK.out.trans (TK.below hb)); replace HB := Lib.hid (HB.out.trans (hb.mono HB.out.size)); clear hb)
              | (refine bs_list rfl 64 74 _ rfl (chgC (ky, true, true, xa, xb)) 5 (.agg chgZ) rfl rfl (by decide) (by decide) Tryd.underlying64 rfl ?_; intro w6 h6 hb6 hs6; replace HXA := Lib.hid ((hb6.block _ (Array.getElem?_eq_some_iff.1 HXA.out).1).trans HXA.out); replace HXB := Lib.hid ((hb6.block _ (Array.getElem?_eq_some_iff.1 HXB.out).1).trans HXB.out); replace HRO := Lib.hid (HRO.out.later hb6); replace HTK := Lib.hid (HTK.out.trans (TK.below hb6)); replace HB := Lib.hid (HB.out.trans (hb6.mono HB.out.size)); have HG6 := Lib.hid h6; clear h6 hb6 hs6)
              | (refine rows_list rfl (z := .agg chgZ) (by_ := 40) 64 74 _ _ rfl rfl HRO.out _ rfl HG6.out rfl (chgC_one _) Tryd.underlying64 rfl rfl (by decide) HOL.out (by decide) ?_; intro v7n w7 hr7 hg7; replace HXA := Lib.hid (HRO.out.keeps hg7 (by omega) HXA.out); replace HXB := Lib.hid (HRO.out.keeps hg7 (by omega) HXB.out); replace HTK := Lib.hid (HTK.out.trans (rows_tk HRO.out hg7 (by decide))); replace HB := Lib.hid (HB.out.trans (HRO.out.below hg7 (by omega) HB.out.size)); replace HRO := Lib.hid hr7; clear hr7 hg7))
            go_roundw
            case rel =>
              refine ⟨j + 1, by simp, by have := HLT.out; omega, HXA, HXB, ?_, HTK, HB⟩
              show RowsOwn _ _ _ _ _ _
              rw [HE2.out, List.map_append]
              exact HRO.out
            case measure => have := HLT.out; simp [intOf]; omega
          | true =>
            have HE2 : Hid (chgsE (alikeI b) A B (K.take (j + 1)) = D ++ []) := by
              show _ = _
              rw [HEA.out]
              simp [isChg, hav]
            have hal := fun w => HAK.out xa xb w
            rw [hav] at hal
            have HAL := Lib.hid hal
            clear hal hav
            go_wp2_with (first
              | (refine ld_if (by rfl) 40 _ rfl w.heap.size rfl 40 ca _ _ HXA.out Tryd.underlying40 rfl (by rw [HZA.out]; exact refm_size) ?_)
              | (refine ld_if (by rfl) 40 _ rfl (w.heap.size + 1) rfl 40 cb _ _ HXB.out Tryd.underlying40 rfl (by rw [HZB.out]; exact refm_size) ?_)
              | (go_at_call 65; (with_reducible refine (HG1.out _ HB.out).mono ?_); rintro r w3 ⟨rfl, hb⟩; replace HXA := Lib.hid ((hb.block _ (Array.getElem?_eq_some_iff.1 HXA.out).1).trans HXA.out); replace HXB := Lib.hid ((hb.block _ (Array.getElem?_eq_some_iff.1 HXB.out).1).trans HXB.out); replace HRO := Lib.hid (HRO.out.later hb); replace HTK := Lib.hid (HTK.out.trans (TK.below hb)); replace HB := Lib.hid (HB.out.trans (hb.mono HB.out.size)); clear hb)
              | (go_at_call 65; (with_reducible refine (HG2.out _ HB.out).mono ?_); rintro r w3 ⟨rfl, hb⟩; replace HXA := Lib.hid ((hb.block _ (Array.getElem?_eq_some_iff.1 HXA.out).1).trans HXA.out); replace HXB := Lib.hid ((hb.block _ (Array.getElem?_eq_some_iff.1 HXB.out).1).trans HXB.out); replace HRO := Lib.hid (HRO.out.later hb); replace HTK := Lib.hid (HTK.out.trans (TK.below hb)); replace HB := Lib.hid (HB.out.trans (hb.mono HB.out.size)); clear hb)
              | (go_at_call 35; (with_reducible refine (HAL.out _).mono ?_); rintro r w3 ⟨rfl, hb⟩; replace HXA := Lib.hid ((hb.block _ (Array.getElem?_eq_some_iff.1 HXA.out).1).trans HXA.out); replace HXB := Lib.hid ((hb.block _ (Array.getElem?_eq_some_iff.1 HXB.out).1).trans HXB.out); replace HRO := Lib.hid (HRO.out.later hb); replace HTK := Lib.hid (HTK.out.trans (TK.below hb)); replace HB := Lib.hid (HB.out.trans (hb.mono HB.out.size)); clear hb))
            go_roundw
            case rel =>
              refine ⟨j + 1, by simp, by have := HLT.out; omega, HXA, HXB, ?_, HTK, HB⟩
              show RowsOwn _ _ _ _ _ _
              rw [HE2.out, List.append_nil]
              exact HRO.out
            case measure => have := HLT.out; simp [intOf]; omega
    · obtain rfl : j = N := by omega
      rw [HNK.out.1, List.take_length, HNK.out.2.2] at HRO
      go_wp2_with fail
      go_ret
      exact ⟨_, rfl, HRO.out.low (by omega), HB.out⟩
theorem neq_chg (c : Chg) (w : World) : (binOp .neq 74 (.agg (chgC c)) (.agg (chgC c))).run Tryd.prog w = .ok (.bool false) w := by
  have hu : Tryd.prog.underlying 74 = some (.struct (Tryd.prog.fieldsOf 74)) := by kernel_rfl
  have hp : Tryd.prog.stoodInHeld 74 = false := by kernel_rfl
  rw [run_neq_struct, run_equalIn_agg w 9999 _ _ _ hu hp]
  simp [Program.fieldsOf, Tryd.underlying74, Op.eqFields, go_sem]
set_option maxHeartbeats 4000000 in
theorem rf_Same (w : World) (va vb : Value) (l : List Chg) (ha : ChL 74 w va l) (hb : ChL 74 w vb l) (hn : l.length ≤ 100000) :
    Calls Tryd.prog 36 #[va, vb] w fun r w' => r = .returned (.bool true) ∧ Below w.heap.size w w' := by
  have HA := Lib.hid ha
  have HB := Lib.hid hb
  obtain ⟨a1, c1, rfl, _⟩ := ha.shape
  obtain ⟨a2, c2, rfl, _⟩ := hb.shape
  obtain ⟨N, hN⟩ : ∃ N, N = l.length := ⟨_, rfl⟩
  rw [← hN] at HA HB ⊢
  have hn4 : (N : Int) ≤ 100000 := by omega
  have HNL : Hid (N = l.length) := hN
  clear ha hb hN hn
  go_enter Tryd.func36, Tryd.ntmps36
  go_wp2_with fail
  go_loopw [13] (fun i wl => ∃ j : Nat, i = .int .i64 (j : Int) ∧ j ≤ N ∧ Hid (Below w.heap.size w wl)) (fun i _ => N - (intOf i).toNat)
  case atStart => exact ⟨0, rfl, Nat.zero_le _, Below.refl _ _⟩
  case round =>
    obtain ⟨j, rfl, hj, HBJ⟩ := hrel
    by_cases hlt : j < N
    · have hlt' : (j : Int) < (N : Int) := by omega
      have i0 : (0 : Int) ≤ (j : Int) := by omega
      have hjL : j < l.length := by rw [← HNL.out]; exact hlt
      obtain ⟨g1, d1, e1, hr1⟩ := HA.out.row hjL
      obtain ⟨g2, d2, e2, hr2⟩ := HB.out.row hjL
      simp only [Value.slice.injEq] at e1 e2
      obtain ⟨rfl, hd1, rfl⟩ := e1
      obtain ⟨rfl, hd2, rfl⟩ := e2
      obtain ⟨x, hx⟩ : ∃ x, x = l[j] := ⟨_, rfl⟩
      rw [← hx] at hr1 hr2
      have HR1 := Lib.hid hr1
      have HR2 := Lib.hid hr2
      have HLT := Lib.hid hlt
      clear hd1 hd2 hx hr1 hr2 hjL hlt
      go_upto_region 6 with fail
      have hnc := fun W => neq_chg x W
      have HKS : Hid (∀ V, Below w.heap.size w V → V.rangeAt g1 (j * 5) (chgC x).toList ∧ V.rangeAt g2 (j * 5) (chgC x).toList) := fun V hV => ⟨rangeAt_later HR1.out hV, rangeAt_later HR2.out hV⟩
      have HW : Hid (Below w.heap.size w wr.drew) := HBJ.out.trans ((drawn_below wr).mono HBJ.out.size)
      refine wp_region_T (S := (fun V => V.rangeAt g1 (j * 5) (chgC x).toList ∧ V.rangeAt g2 (j * 5) (chgC x).toList)) [] (by kernel_rfl) (by exact HKS.out _ HW.out) (fun hHeld => ?_)
      refine wpAnyT_take (i := 0) (oi := ⟨some 16, _, _, _, _, _⟩) (v := ?vg1_0) rfl (by kernel_rfl) (by kernel_rfl) (by kernel_rfl) (by kernel_rfl) (fun _ _ _ h => h) (Or.inl ⟨by rfl, ?hg1_0⟩) (by assumption) ?rg1_0
      case hg1_0 => (intro w hSw; (try dsimp only at hSw); first | (go_simp; done) | (go_simp; with_reducible rfl))
      (try simp only [Act.put, List.setIfInBounds_toArray, List.set_cons_zero, List.set_cons_succ])
      refine wpAnyT_take (i := 1) (oi := ⟨some 17, _, _, _, _, _⟩) (v := ?vg1_1) rfl (by kernel_rfl) (by kernel_rfl) (by kernel_rfl) (by kernel_rfl) (fun _ _ _ h => h) (Or.inl ⟨by rfl, ?hg1_1⟩) (by assumption) ?rg1_1
      case hg1_1 => (intro w hSw; (try dsimp only at hSw); first | (go_simp; done) | (go_simp; with_reducible rfl))
      (try simp only [Act.put, List.setIfInBounds_toArray, List.set_cons_zero, List.set_cons_succ])
      refine wpAnyT_take (i := 2) (oi := ⟨some 18, _, _, _, _, _⟩) (v := ?vg1_2) rfl (by kernel_rfl) (by kernel_rfl) (by kernel_rfl) (by kernel_rfl) (fun _ _ _ h => h) (Or.inl ⟨by rfl, ?hg1_2⟩) (by assumption) ?rg1_2
      case hg1_2 => (intro w hSw; (try dsimp only at hSw); first | (go_simp; done) | (go_simp; with_reducible rfl))
      (try simp only [Act.put, List.setIfInBounds_toArray, List.set_cons_zero, List.set_cons_succ])
      refine wpAnyT_take (i := 3) (oi := ⟨some 19, _, _, _, _, _⟩) (v := _) rfl (by kernel_rfl) (by kernel_rfl) (by kernel_rfl) (by kernel_rfl) (fun _ _ _ h => h) (yieldsIf_arr (by rfl) 74 _ rfl g1 (j * 5) rfl (chgC x) _ (fun w hw => hw.1) Tryd.underlying74 rfl (by exact chg2_size)) (by assumption) ?_
      (try simp only [Act.put, List.setIfInBounds_toArray, List.set_cons_zero, List.set_cons_succ])
      refine wpAnyT_take (i := 4) (oi := ⟨some 20, _, _, _, _, _⟩) (v := ?vg1_4) rfl (by kernel_rfl) (by kernel_rfl) (by kernel_rfl) (by kernel_rfl) (fun _ _ _ h => h) (Or.inl ⟨by rfl, ?hg1_4⟩) (by assumption) ?rg1_4
      case hg1_4 => (intro w hSw; (try dsimp only at hSw); first | (go_simp; done) | (go_simp; with_reducible rfl))
      (try simp only [Act.put, List.setIfInBounds_toArray, List.set_cons_zero, List.set_cons_succ])
      refine wpAnyT_take (i := 5) (oi := ⟨some 21, _, _, _, _, _⟩) (v := ?vg1_5) rfl (by kernel_rfl) (by kernel_rfl) (by kernel_rfl) (by kernel_rfl) (fun _ _ _ h => h) (Or.inl ⟨by rfl, ?hg1_5⟩) (by assumption) ?rg1_5
      case hg1_5 => (intro w hSw; (try dsimp only at hSw); first | (go_simp; done) | (go_simp; with_reducible rfl))
      (try simp only [Act.put, List.setIfInBounds_toArray, List.set_cons_zero, List.set_cons_succ])
      refine wpAnyT_take (i := 6) (oi := ⟨some 22, _, _, _, _, _⟩) (v := ?vg1_6) rfl (by kernel_rfl) (by kernel_rfl) (by kernel_rfl) (by kernel_rfl) (fun _ _ _ h => h) (Or.inl ⟨by rfl, ?hg1_6⟩) (by assumption) ?rg1_6
      case hg1_6 => (intro w hSw; (try dsimp only at hSw); first | (go_simp; done) | (go_simp; with_reducible rfl))
      (try simp only [Act.put, List.setIfInBounds_toArray, List.set_cons_zero, List.set_cons_succ])
      refine wpAnyT_take (i := 7) (oi := ⟨some 23, _, _, _, _, _⟩) (v := _) rfl (by kernel_rfl) (by kernel_rfl) (by kernel_rfl) (by kernel_rfl) (fun _ _ _ h => h) (yieldsIf_arr (by rfl) 74 _ rfl g2 (j * 5) rfl (chgC x) _ (fun w hw => hw.2) Tryd.underlying74 rfl (by exact chg2_size)) (by assumption) ?_
      (try simp only [Act.put, List.setIfInBounds_toArray, List.set_cons_zero, List.set_cons_succ])
      refine wpAnyT_take (i := 8) (oi := ⟨some 24, _, _, _, _, _⟩) (v := ?vg1_8) rfl (by kernel_rfl) (by kernel_rfl) (by kernel_rfl) (by kernel_rfl) (fun _ _ _ h => h) (Or.inl ⟨by rfl, ?hg1_8⟩) (by assumption) ?rg1_8
      case hg1_8 => (intro w hSw; (try dsimp only at hSw); first | (go_simp; done) | (go_simp; with_reducible rfl))
      (try simp only [Act.put, List.setIfInBounds_toArray, List.set_cons_zero, List.set_cons_succ])
      refine wpAnyT_done (by kernel_rfl) ?_ _
      clear hHeld HKS hnc
      go_wp2_with fail
      go_roundw
      case rel => exact ⟨j + 1, by simp, by have := HLT.out; omega, HW⟩
      case measure => have := HLT.out; simp [intOf]; omega
    · obtain rfl : j = N := by omega
      go_wp2_with fail
      go_ret
      exact ⟨rfl, HBJ.out⟩
end Go.Proofs.YtnnlfgfgfegjkaaDoor
