/- Law LexWords. (written by tools/gen13/law13.py) -/
import Derived.Test.YtgdlkaoadlipmaaGreatDoorLaw13N
import Derived.Test.YtgdlkaoadlipmaaGreatDoorLexP
import Derived.Test.YtgdlkaoadlipmaaGreatDoorLexS
import Derived.Handy
import Derived.Deep.Cut
namespace Go.Proofs.YtgdlkaoadlipmaaGreatDoor
open Go.RowKit
set_option maxRecDepth 1000000
set_option linter.unusedSimpArgs false

/-- v is a list that reads as these tokens, with numbers as they may be. -/
def TiG (w : World) (v : Value) (l : List TokI) : Prop := TiL w v l ∧ ∀ x ∈ l, InR x.n
theorem sg_cut {w : World} {g : Nat} (h : SgAt w g) : CutS (fun _ => True) w (.slice (some ⟨g, 0, none⟩) 23 23) signsB := by
  refine ⟨_, 23, rfl, by decide, rfl, .inr ⟨g, 0, rfl, trivial, World.block_lt_of_cell? w _ (h 0 (by decide)), fun j u hu => ?_⟩⟩
  have hl : (en enS signsB).length = 23 := rfl
  have hj : j < 23 := by have := (List.getElem?_eq_some_iff.1 hu).1; rw [hl] at this; exact this
  rw [Nat.zero_add, h j hj, ← hu, enS_at]
  unfold signsB
  rw [List.getElem?_map, List.getElem?_eq_getElem (show j < signsS.length from hj)]
  rfl
theorem prnI_len (x : TokI) (h : x.t.size ≤ 300) (hn : InR x.n) : (prnI x).length ≤ 1202 := by
  unfold prnI
  split
  · rw [len_bytes]; omega
  · split
    · exact Nat.le_trans (Lib.itoa_length_le x.n hn.1 hn.2) (by decide)
    · split
      · have := quote_len x.t.data.toList; rw [len_bytes] at this; omega
      · simp
theorem joinI_len (B : Nat) : ∀ l : List TokI, (∀ x ∈ l, (prnI x).length ≤ B) → (joinI l).length ≤ l.length * (B + 1)
  | [], _ => Nat.zero_le _
  | [x], h => by have := h x List.mem_cons_self; simp only [joinI, List.length_cons, List.length_nil]; omega
  | x :: y :: l, h => by
    have h1 := h x List.mem_cons_self
    have h2 := joinI_len B (y :: l) (fun z hz => h z (List.mem_cons_of_mem _ hz))
    rw [joinI, List.length_append, List.length_cons, show (x :: y :: l).length = (y :: l).length + 1 from rfl, Nat.add_mul]
    omega
theorem bytes_ext {a b : ByteArray} (h : a.data.toList = b.data.toList) : a = b := by
  obtain ⟨⟨x⟩⟩ := a
  obtain ⟨⟨y⟩⟩ := b
  simp only at h
  rw [h]
set_option maxHeartbeats 2000000 in
theorem lexWords_walk (c : Int) (v : Value) (l : List TokI) (hc : (Lit.int .u8 c).wf = true) (w : World) (hv : TiG w v l) (hT : T13 w) (hP : Tab w) :
    Calls Tryz.prog 3 #[.int .u8 c, v] w fun e w' => e = .returned (.bool true) ∧ Below w.heap.size w w' := by
  have HLV := Lib.hid (fun W (hb : Below w.heap.size w W) => lw_live13 W (hT.below hb))
  have HT := Lib.hid hT
  have HP := Lib.hid hP
  have HW : Hid (Below w.heap.size w w) := Below.refl _ _
  clear hT hP
  obtain ⟨b, rfl⟩ : ∃ b : UInt8, c = (b.toNat : Int) := by
    have h2 := Bool.and_eq_true_iff.1 (show (decide (IntKind.u8.min ≤ c) && decide (c ≤ IntKind.u8.max)) = true from hc)
    have h3 : (0 : Int) ≤ c := of_decide_eq_true h2.1
    have h4 : c ≤ 255 := of_decide_eq_true h2.2
    exact ⟨UInt8.ofNat c.toNat, by rw [UInt8.toNat_ofNat_of_lt' (by simp only [UInt8.size]; omega)]; omega⟩
  have HV := Lib.hid hv.1
  have HIN := Lib.hid hv.2
  obtain ⟨ad, cap, g, oo, rfl, hmax, ha, hr⟩ := hv.1
  obtain ⟨N, hN⟩ : ∃ N, N = l.length := ⟨_, rfl⟩
  rw [← hN] at HV ⊢
  have HNL := Lib.hid hN
  have HA := Lib.hid ha
  have HRR := Lib.hid (fun W (hb : Below w.heap.size w W) j (hj : j < l.length) => rangeAt_later (hr j hj) hb)
  clear hN ha hr hmax hc hv
  by_cases hs : N ≤ 100
  case neg =>
    have hs' : (100 : Int) < (N : Int) := by omega
    clear hs
    go_enter Tryz.func3, Tryz.ntmps3
    go_wp2_with (first
      | (go_at_call 4; (with_reducible refine (HLV.out _ HW.out).mono ?_); rintro r V ⟨rfl, hb⟩; replace HW := Lib.hid (HW.out.trans (hb.mono HW.out.size)); clear hb))
    go_ret
    exact ⟨rfl, HW.out⟩
  have hs' : (N : Int) ≤ 100 := by omega
  go_enter Tryz.func3, Tryz.ntmps3
  go_wp2_with (first
    | (go_at_call 4; (with_reducible refine (HLV.out _ HW.out).mono ?_); rintro r V ⟨rfl, hb⟩; replace HW := Lib.hid (HW.out.trans (hb.mono HW.out.size)); clear hb))
  go_loopw [17] (fun i W => ∃ j : Nat, j ≤ N ∧ i = .int .i64 (j : Int) ∧ (∀ q (h : q < l.length), q < j → (l[q]).t.size ≤ 300) ∧ Below w.heap.size w W) (fun i _ => N - (intOf i).toNat)
  case atStart => exact ⟨0, Nat.zero_le _, rfl, fun q _ h => absurd h (Nat.not_lt_zero _), HW.out⟩
  case round =>
    obtain ⟨j, hj, rfl, hq, hw⟩ := hrel
    replace HW := Lib.hid hw
    have HQ := Lib.hid hq
    clear hw hq
    by_cases hlt : j < N
    case neg =>
      obtain rfl : j = N := by omega
      have hall : ∀ x ∈ l, x.t.size ≤ 300 := fun x hx => by
        obtain ⟨q, hq, rfl⟩ := List.getElem_of_mem hx
        exact HQ.out q hq (by rw [HNL.out]; exact hq)
      have hjl : (joinI l).length ≤ 200000 := by
        have h1 := joinI_len 1202 l (fun x hx => prnI_len x (hall x hx) (HIN.out x hx))
        rw [← HNL.out] at h1
        have : j * 1203 ≤ 100 * 1203 := Nat.mul_le_mul_right _ hs
        omega
      have HVJ : Hid (TiL w (.slice ad j cap) l) := HV.out
      obtain ⟨bk, hbk⟩ : ∃ bk, bk = blkS b := ⟨_, rfl⟩
      have HB1 : Hid (∀ W, Calls Tryz.prog 5 #[.int .u8 (b.toNat : Int)] W fun e w' => e = .returned (.bool bk) ∧ Below W.heap.size W w') := fun W => by rw [hbk]; exact lx_Blank b W
      have HB2 : Hid (∀ W, Calls Tryz.prog 6 #[.int .u8 (b.toNat : Int)] W fun e w' => e = .returned (.bool bk) ∧ W = w') := fun W => by rw [hbk]; exact rf_Blank b W
      have HS1 := Lib.hid (fun W (hb : Below w.heap.size w W) => lx_Signs W (HT.out.below hb).sg)
      have HS2 := Lib.hid (fun W => rf_Signs W)
      have HP1 := Lib.hid (fun W (hb : Below w.heap.size w W) => lx_Print W _ l (HT.out.below hb) (HP.out.below hb) (HVJ.out.later hb) hjl (fun x hx => ⟨Nat.le_trans (hall x hx) (by decide), HIN.out x hx⟩))
      have HP2 := Lib.hid (fun W (hb : Below w.heap.size w W) => rf_Print W _ l (HVJ.out.later hb) hjl (fun x hx => ⟨Nat.le_trans (hall x hx) (by decide), HIN.out x hx⟩))
      have hbb : (bk == bk) = true := by cases bk <;> rfl
      clear hall hjl hbk HQ
      go_upto_region 9 with fail
      go_wp2_with (first
        | (go_at_call 5; (with_reducible refine (HB1.out _).mono ?_); rintro r V1 ⟨rfl, hb⟩; replace HW := Lib.hid (HW.out.trans (hb.mono HW.out.size)); clear hb)
        | (go_at_call 6; (with_reducible refine (HB2.out _).mono ?_); rintro r V2 ⟨rfl, rfl⟩)
        | (go_at_call 8; (with_reducible refine (HS1.out _ HW.out).mono ?_); rintro r V3 ⟨sv, rfl, hsv, hb⟩; have HSV := Lib.hid hsv; replace HW := Lib.hid (HW.out.trans (hb.mono HW.out.size)); clear hb hsv)
        | (go_at_call 9; (with_reducible refine (HS2.out _).mono ?_); rintro r V4 ⟨sg, rfl, hsg, hb⟩; have HWD := Lib.hid (rf_Words13 sv _ signsB V4 (CutS.later HSV.out hb) (sg_cut hsg) (by decide)); replace HW := Lib.hid (HW.out.trans (hb.mono HW.out.size)); clear hb hsg)
        | (go_at_call 7; (with_reducible refine HWD.out.mono ?_); rintro r V5 ⟨rfl, hb⟩; replace HW := Lib.hid (HW.out.trans (hb.mono HW.out.size)); clear hb)
        | (go_at_call 10; (with_reducible refine (HP1.out _ HW.out).mono ?_); rintro r V6 ⟨S1, rfl, hS1, hb⟩; have HE1 := Lib.hid hS1; replace HW := Lib.hid (HW.out.trans (hb.mono HW.out.size)); clear hb hS1)
        | (go_at_call 11; (with_reducible refine (HP2.out _ HW.out).mono ?_); rintro r V7 ⟨S2, rfl, hS2, hb⟩; obtain rfl := bytes_ext (hS2.trans HE1.out.symm); replace HW := Lib.hid (HW.out.trans (hb.mono HW.out.size)); clear hb hS2))
      go_ret
      exact ⟨by simp, HW.out⟩
    have hlt' : (j : Int) < (N : Int) := by omega
    have i0 : (0 : Int) ≤ (j : Int) := by omega
    have hjl : j < l.length := by rw [← HNL.out]; exact hlt
    obtain rfl := HA.out (by omega)
    have hr := HRR.out wr HW.out j hjl
    obtain ⟨x, hx⟩ : ∃ x, x = l[j] := ⟨_, rfl⟩
    rw [← hx] at hr
    obtain ⟨xk, xa, xe, xn, xt⟩ := x
    have HR := Lib.hid hr
    have HLT := Lib.hid hlt
    have HXJ : Hid (xt.size ≤ 300 → ∀ q (h : q < l.length), q < j + 1 → (l[q]).t.size ≤ 300) := fun h0 q h1 h2 => by
      rcases Nat.lt_or_ge q j with h3 | h3
      · exact HQ.out q h1 h3
      · obtain rfl : q = j := by omega
        rw [← hx]; exact h0
    clear hr hx hjl hlt
    by_cases hx3 : (300 : Int) < (xt.size : Int)
    case pos =>
      go_wp2_with (first
        | (refine ld_tk (by rfl) _ rfl g (oo + j * 5) rfl (tiC ⟨xk, xa, xe, xn, xt⟩) HR.out rfl ?_)
        | (refine st_agg rfl 25 _ _ rfl wr.heap.size (tiC ⟨xk, xa, xe, xn, xt⟩) rfl rfl 25 (tokC ⟨0, 0, 0, 0, []⟩) (heap_alloc_last _ _) tok_size rfl (by simp [Value.oneCell', tiC]) ?_; intro w8 h8 k8; have HW8 := Lib.hid (HW.out.trans (((Below.newly' _ _).trans (k8.below (Nat.le_refl _))).mono HW.out.size)); have c4 := cell_in h8 (j := 4) (v := .string xt) rfl; clear k8 h8))
      go_ret
      exact ⟨rfl, HW8.out⟩
    go_wp2_with (first
      | (refine ld_tk (by rfl) _ rfl g (oo + j * 5) rfl (tiC ⟨xk, xa, xe, xn, xt⟩) HR.out rfl ?_)
      | (refine st_agg rfl 25 _ _ rfl wr.heap.size (tiC ⟨xk, xa, xe, xn, xt⟩) rfl rfl 25 (tokC ⟨0, 0, 0, 0, []⟩) (heap_alloc_last _ _) tok_size rfl (by simp [Value.oneCell', tiC]) ?_; intro w8 h8 k8; have HW8 := Lib.hid (HW.out.trans (((Below.newly' _ _).trans (k8.below (Nat.le_refl _))).mono HW.out.size)); have c4 := cell_in h8 (j := 4) (v := .string xt) rfl; clear k8 h8))
    go_roundw
    case rel => exact ⟨j + 1, by have := HLT.out; omega, by go_num, HXJ.out (by omega), HW8.out⟩
    case measure => have := HLT.out; simp [intOf]; omega
end Go.Proofs.YtgdlkaoadlipmaaGreatDoor
