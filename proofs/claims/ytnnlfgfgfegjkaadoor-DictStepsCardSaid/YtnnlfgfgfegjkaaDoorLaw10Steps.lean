/- Layer 10's law DictSteps. (written by tools/gen10/steps.py) -/
import Derived.Test.YtnnlfgfgfegjkaaDoorLaw10B
namespace Go.Proofs.YtnnlfgfgfegjkaaDoor
open Go.RowKit
set_option maxRecDepth 1000000
set_option linter.unusedSimpArgs false

def nameE (L : List Ent) (j : Nat) : ByteArray := ((L[j]?).map (·.1)).getD ⟨#[]⟩
def thingE (L : List Ent) (j : Nat) : Int := ((L[j]?).map (·.2)).getD 0
theorem ans_name (L : List Ent) (j : Nat) : ansE (placeE L (j : Int)) = .tuple #[.string (nameE L j), .int .i64 (thingE L j), .bool (decide (j < L.length))] := by
  rw [place_nat]
  unfold nameE thingE
  by_cases h : j < L.length
  · rw [List.getElem?_eq_getElem h, decide_eq_true h]; rfl
  · rw [List.getElem?_eq_none (by omega), decide_eq_false h]; rfl
theorem name_in {L : List Ent} {j : Nat} (h : j < L.length) : nameE L j = L[j].1 := by
  unfold nameE
  rw [List.getElem?_eq_getElem h]
  rfl
set_option maxHeartbeats 8000000 in
theorem dictSteps_of (s : Nat) (n : Int) (va : Value) (l : List Ent) (w : World) (hss : s < 18446744073709551616) (hl : Prs w va l) (hT : Tab6 w) :
    Calls Tryd.prog 10 #[.agg #[.int .u64 (s : Int), .int .i64 n], va] w fun e w' => e = .returned (.bool true) ∧ Below w.heap.size w w' := by
  have HTB := Lib.hid (fun W (h : Below w.heap.size w W) => hT.below h)
  have HFEW := Lib.hid (fun W (h : Below w.heap.size w W) => few10 va l W (hl.later h))
  obtain ⟨w0, hw0⟩ : ∃ w0, w.alloc (.cells #[.int .u64 (s : Int), .int .i64 n] 24) = w0 := ⟨_, rfl⟩
  obtain ⟨hb0, hx0, hs0⟩ := new_below hw0
  have HC := Lib.hid hx0
  have HB := Lib.hid hb0
  clear hT hb0 hx0 hs0
  by_cases hf1 : few10B l = true
  case neg =>
    rw [show few10B l = false by simpa using hf1] at HFEW
    clear hl
    go_enter Tryd.func10, Tryd.ntmps10
    go_upto_region 1 with fail
    clear hw0
    go_wp2_with (first
      | (go_at_call 11; (with_reducible refine (live10 _ (HTB.out _ HB.out)).mono ?_); rintro e w1 ⟨rfl, hb⟩; replace HC := Lib.hid ((hb.block _ (Array.getElem?_eq_some_iff.1 HC.out).1).trans HC.out); replace HB := Lib.hid (HB.out.trans (hb.mono HB.out.size)); clear hb)
      | (go_at_call 12; (with_reducible refine (HFEW.out _ HB.out).mono ?_); rintro e w1 ⟨rfl, hb⟩; replace HC := Lib.hid ((hb.block _ (Array.getElem?_eq_some_iff.1 HC.out).1).trans HC.out); replace HB := Lib.hid (HB.out.trans (hb.mono HB.out.size)); clear hb))
    go_ret
    exact ⟨rfl, HB.out⟩
  have HF := Lib.hid (few10_prs hf1)
  rw [hf1] at HFEW
  have HMD := Lib.hid (fun W (h : Below w.heap.size w W) => made10 W s hss n va l (hl.later h) HF.out.1 (by have := HF.out.2; omega) (HTB.out _ h))
  clear hl hf1
  go_enter Tryd.func10, Tryd.ntmps10
  go_upto_region 1 with fail
  clear hw0
  go_upto_region 4 with (first
    | (go_at_call 11; (with_reducible refine (live10 _ (HTB.out _ HB.out)).mono ?_); rintro e w1 ⟨rfl, hb⟩; replace HC := Lib.hid ((hb.block _ (Array.getElem?_eq_some_iff.1 HC.out).1).trans HC.out); replace HB := Lib.hid (HB.out.trans (hb.mono HB.out.size)); clear hb)
    | (go_at_call 12; (with_reducible refine (HFEW.out _ HB.out).mono ?_); rintro e w1 ⟨rfl, hb⟩; replace HC := Lib.hid ((hb.block _ (Array.getElem?_eq_some_iff.1 HC.out).1).trans HC.out); replace HB := Lib.hid (HB.out.trans (hb.mono HB.out.size)); clear hb)
    | (refine ld_if (by rfl) 24 _ rfl w.heap.size rfl 24 _ _ _ HC.out Tryd.underlying24 rfl (by exact api_size) ?_)
    | (go_at_call 13; (with_reducible refine (HMD.out _ HB.out).mono ?_); rintro e wm ⟨cm, cw, rfl, hm, hw, hb⟩; replace HC := Lib.hid ((hb.block _ (Array.getElem?_eq_some_iff.1 HC.out).1).trans HC.out); replace HB := Lib.hid (HB.out.trans (hb.mono HB.out.size)); have HMA := Lib.hid hm; have HWA := Lib.hid hw; have HZM := Lib.hid hm.size; have HZW := Lib.hid hw.size; have HLW : Hid (w.heap.size + 1 ≤ wm.heap.size) := (by show _ ≤ _; have h0 := (Array.getElem?_eq_some_iff.1 HC.out).1; omega); clear hm hw hb)
    | (refine st_agg rfl 36 _ _ rfl wm.heap.size cm rfl rfl 36 mapZ (two_newG rfl).2.1 (by rw [HZM.out]; exact map_size) (by rw [HZM.out]; rfl) HMA.out.one ?_; intro w4 h4 k4; have hb4 : Below wm.heap.size wm w4 := (two_newG rfl).1.trans (k4.below (Nat.le_refl _)); have HY : Hid (w4.heap[wm.heap.size + 1]? = some (.cells refZ 40 (0, 0))) := k4.other (two_newG rfl).2.2.1 (by omega); replace HC := Lib.hid ((hb4.block _ (Array.getElem?_eq_some_iff.1 HC.out).1).trans HC.out); replace HB := Lib.hid (HB.out.trans (hb4.mono HB.out.size)); have HM : Hid (MB w4 s n (uniE l []) wm.heap.size) := ⟨cm, h4, HMA.out.later hb4⟩; replace HWA := Lib.hid (HWA.out.later hb4); clear h4 k4 hb4)
    | (refine st_agg rfl 40 _ _ rfl (wm.heap.size + 1) cw rfl rfl 40 refZ HY.out (by rw [HZW.out]; exact refm_size) (by rw [HZW.out]; rfl) HWA.out.one ?_; intro w5 h5 k5; have hlw : w.heap.size + 1 ≤ wm.heap.size := HLW.out; replace HC := Lib.hid (k5.other HC.out (by omega)); replace HM := Lib.hid (HM.out.only k5 HY.out (by omega) (by decide)); replace HB := Lib.hid (HB.out.trans (k5.below (by omega))); have HN : Hid (RB w5 (uniE l []) (wm.heap.size + 1)) := RB.wrote h5 k5 HY.out HWA.out; clear h5 k5 hlw))
  obtain ⟨cm, hxm, hmm⟩ := HM.out
  obtain ⟨cn, hxn, hmn⟩ := HN.out
  have HXM := Lib.hid hxm
  have HXN := Lib.hid hxn
  have HML := Lib.hid hmm
  have HRL := Lib.hid hmn
  have HZM := Lib.hid hmm.size
  have HZN := Lib.hid hmn.size
  clear hxm hxn hmm hmn HM HN
  have HRI := Lib.hid (uni_rise Rise.nil l)
  have HSH := Lib.hid (short_uni (A := l) (fun e he => HF.out.1 e he) short_nil)
  have HLN : Hid ((uniE l []).length ≤ 80) := by show _ ≤ _; have h := uni_len Rise.nil l; rw [List.length_nil] at h; have := HF.out.2; omega
  obtain ⟨D, hD⟩ : ∃ D, D = uniE l [] := ⟨_, rfl⟩
  rw [← hD] at HML HRL HRI HSH HLN
  clear hD HRL HXN HZN HC
  have HSS : Hid (∀ e ∈ D, e.1.size ≤ 9223372036854775800) := fun e he => by have := HSH.out e he; omega
  have HKY := Lib.hid (fun W (h : ML W s n D cm) hT => ml_Keys W s n D cm h HRI.out (by have := HLN.out; omega) hT)
  have hfi := fun W (h : ML W s n D cm) hT => dc_First W s hss n D cm h HRI.out (by have := HLN.out; omega) HSS.out hT
  have hln := fun W (h : ML W s n D cm) W' => ml_Len W s n D cm h W'
  rw [show (0 : Int) = ((0 : Nat) : Int) from rfl, ans_name] at hfi
  obtain ⟨N, hN⟩ : ∃ N, N = D.length := ⟨_, rfl⟩
  rw [← hN] at hfi hln
  have HFI := Lib.hid hfi
  have HLE := Lib.hid hln
  have HN : Hid (N = D.length ∧ N ≤ 80) := ⟨hN, by have := HLN.out; omega⟩
  have hn8 : (N : Int) ≤ 80 := by have := HN.out.2; omega
  clear hfi hln hN
  go_wp2_with (first
    | (refine ld_if (by rfl) 36 _ rfl wm.heap.size rfl 36 cm _ _ HXM.out Tryd.underlying36 rfl (by rw [HZM.out]; exact map_size) ?_)
    | (go_at_call 45; (with_reducible refine (HKY.out _ HML.out (HTB.out _ HB.out)).mono ?_); rintro e w6 ⟨vk, rfl, hk, hb⟩; replace HXM := Lib.hid ((hb.block _ (Array.getElem?_eq_some_iff.1 HXM.out).1).trans HXM.out); replace HML := Lib.hid (HML.out.later hb); replace HB := Lib.hid (HB.out.trans (hb.mono HB.out.size)); have HK := Lib.hid hk.lsS; obtain ⟨ak, ck, hvk, _⟩ := hk.lsS.shape; rw [keysE_len, ← HN.out.1] at hvk; subst hvk; clear hk hb)
    | (go_at_call 22; (with_reducible refine (HFI.out _ HML.out (HTB.out _ HB.out)).mono ?_); rintro e w1 ⟨rfl, hb⟩; replace HXM := Lib.hid ((hb.block _ (Array.getElem?_eq_some_iff.1 HXM.out).1).trans HXM.out); replace HML := Lib.hid (HML.out.later hb); replace HK := Lib.hid (HK.out.later hb); replace HB := Lib.hid (HB.out.trans (hb.mono HB.out.size)); clear hb))
  go_loopw [8, 10, 43] (fun kv tv i wl => ∃ j : Nat, i = .int .i64 (j : Int) ∧ j ≤ N ∧ kv = .string (nameE D j) ∧ tv = .bool (decide (j < N)) ∧ Hid (wl.heap[wm.heap.size]? = some (.cells cm 36 (0, 0))) ∧ Hid (ML wl s n D cm) ∧ Hid (LsS wl (.slice ak N ck) (keysE D)) ∧ Hid (Below w.heap.size w wl)) (fun _ _ i _ => N - (intOf i).toNat)
  case atStart => exact ⟨0, rfl, Nat.zero_le _, rfl, rfl, HXM, HML, HK, HB⟩
  case round =>
    clear HXM HML HK HB
    obtain ⟨j, rfl, hj, rfl, rfl, HXM, HML, HK, HB⟩ := hrel
    by_cases hlt : j < N
    · have hlt' : (j : Int) < N := by omega
      have i0 : (0 : Int) ≤ (j : Int) := by omega
      have hjL : j < D.length := by rw [← HN.out.1]; exact hlt
      obtain ⟨g1, d1, e1, hc1⟩ := HK.out.cell (j := j) (by rw [keysE_len]; exact hjL)
      simp only [Value.slice.injEq] at e1
      obtain ⟨rfl, hd1, rfl⟩ := e1
      have hkj : (keysE D)[j]'(by rw [keysE_len]; exact hjL) = D[j].1 := by unfold keysE; rw [List.getElem_map]
      rw [hkj] at hc1
      have hat := fun W (h : ML W s n D cm) hT => dc_At W s hss n D cm (j : Int) h HRI.out (by have := HLN.out; omega) HSS.out hT
      have hrk := fun W (h : ML W s n D cm) hT => dc_Rank W s n D cm D[j].1 h HRI.out (by have := HLN.out; omega) hT
      have hpv := fun W (h : ML W s n D cm) hT => dc_Prev W s hss n D cm D[j].1 h HRI.out (by have := HLN.out; omega) HSS.out hT
      have hnx := fun W (h : ML W s n D cm) hT => dc_Next W s hss n D cm D[j].1 (by have := HSH.out _ (List.getElem_mem hjL); omega) h HRI.out (by have := HLN.out; omega) HSS.out hT
      rw [ans_in hjL] at hat
      rw [bel_own HRI.out hjL] at hrk hpv
      rw [len_behind HRI.out, bel_own HRI.out hjL, get_own HRI.out hjL, Option.isSome_some, if_pos rfl, ans_name, ← HN.out.1] at hnx
      have hnj := name_in hjL
      have hdj : decide (j < N) = true := decide_eq_true hlt
      rw [hdj, hnj]
      have HCP : Hid (∀ (h : 0 < j), ∃ x y, ansE (placeE D ((j : Int) - 1)) = .tuple #[.string x, .int .i64 y, .bool true] ∧ wr.cell? ⟨g1, j - 1, none⟩ = some (.string x)) := fun h => by
        have hj1 : j - 1 < D.length := by omega
        have e2 := ans_in hj1
        rw [show ((j - 1 : Nat) : Int) = (j : Int) - 1 by omega] at e2
        obtain ⟨g', d', e', h'⟩ := HK.out.cell (j := j - 1) (by rw [keysE_len]; exact hj1)
        simp only [Value.slice.injEq, Option.some.injEq, Addr.mk.injEq] at e'
        refine ⟨_, _, e2, ?_⟩
        rw [e'.1.1, h']
        simp [keysE]
      have HPZ : Hid (j = 0 → ansE (placeE D ((j : Int) - 1)) = .tuple #[.string ⟨#[]⟩, .int .i64 0, .bool false]) := fun h => by
        rw [place_neg D (by omega)]
        rfl
      obtain ⟨⟨ky, xy⟩, hky⟩ : ∃ e, e = D[j] := ⟨_, rfl⟩
      rw [← hky] at hc1 hat hrk hpv hnx ⊢
      simp only at hc1 hat hrk hpv hnx
      have HAT := Lib.hid hat
      have HRK := Lib.hid hrk
      have HNX := Lib.hid hnx
      have HLT := Lib.hid hlt
      have q0 : (ky.toList == ky.toList) = true := beq_self_eq_true _
      have q0' : (ky.toList != ky.toList) = false := bne_self_eq_false _
      clear hd1 hkj hat hrk hnx hnj hdj hky hjL hlt
      by_cases hz : j = 0
      · rw [HPZ.out hz] at hpv
        have HPV := Lib.hid hpv
        have hzi : ¬ (0 : Int) < (j : Int) := by omega
        have HZ0 := Lib.hid hz
        clear hz hpv HCP HPZ
        go_wp2_with (first
          | (refine ld_if (by rfl) 36 _ rfl wm.heap.size rfl 36 cm _ _ HXM.out Tryd.underlying36 rfl (by rw [HZM.out]; exact map_size) ?_)
          | (go_at_call 18; (with_reducible refine (HAT.out _ HML.out (HTB.out _ HB.out)).mono ?_); rintro e w1 ⟨rfl, hb⟩; replace HXM := Lib.hid ((hb.block _ (Array.getElem?_eq_some_iff.1 HXM.out).1).trans HXM.out); replace HML := Lib.hid (HML.out.later hb); replace HK := Lib.hid (HK.out.later hb); replace HB := Lib.hid (HB.out.trans (hb.mono HB.out.size)); clear hb)
          | (go_at_call 20; (with_reducible refine (HRK.out _ HML.out (HTB.out _ HB.out)).mono ?_); rintro e w1 ⟨rfl, hb⟩; replace HXM := Lib.hid ((hb.block _ (Array.getElem?_eq_some_iff.1 HXM.out).1).trans HXM.out); replace HML := Lib.hid (HML.out.later hb); replace HK := Lib.hid (HK.out.later hb); replace HB := Lib.hid (HB.out.trans (hb.mono HB.out.size)); clear hb)
          | (go_at_call 16; (with_reducible refine (HPV.out _ HML.out (HTB.out _ HB.out)).mono ?_); rintro e w1 ⟨rfl, hb⟩; replace HXM := Lib.hid ((hb.block _ (Array.getElem?_eq_some_iff.1 HXM.out).1).trans HXM.out); replace HML := Lib.hid (HML.out.later hb); replace HK := Lib.hid (HK.out.later hb); replace HB := Lib.hid (HB.out.trans (hb.mono HB.out.size)); clear hb)
          | (go_at_call 14; (with_reducible refine (HNX.out _ HML.out (HTB.out _ HB.out)).mono ?_); rintro e w1 ⟨rfl, hb⟩; replace HXM := Lib.hid ((hb.block _ (Array.getElem?_eq_some_iff.1 HXM.out).1).trans HXM.out); replace HML := Lib.hid (HML.out.later hb); replace HK := Lib.hid (HK.out.later hb); replace HB := Lib.hid (HB.out.trans (hb.mono HB.out.size)); clear hb))
        go_roundw
        case rel => exact ⟨j + 1, by simp [HZ0.out], by have := HLT.out; omega, by simp [HZ0.out], by simp [HZ0.out], HXM, HML, HK, HB⟩
        case measure => have := HLT.out; simp [intOf]; omega
      · obtain ⟨pk, px, hpe, hpc⟩ := HCP.out (by omega)
        rw [hpe] at hpv
        have HPV := Lib.hid hpv
        have HPC := Lib.hid hpc
        have hzi : (0 : Int) < (j : Int) := by omega
        have hji : (j : Int) - 1 < (N : Int) := by omega
        have hj0 : (0 : Int) ≤ (j : Int) - 1 := by omega
        have htn : ((j : Int) - 1).toNat = j - 1 := by omega
        have q1' : (pk.toList != pk.toList) = false := bne_self_eq_false _
        clear hz hpv hpe hpc HCP HPZ
        go_wp2_with (first
          | (refine ld_if (by rfl) 36 _ rfl wm.heap.size rfl 36 cm _ _ HXM.out Tryd.underlying36 rfl (by rw [HZM.out]; exact map_size) ?_)
          | (go_at_call 18; (with_reducible refine (HAT.out _ HML.out (HTB.out _ HB.out)).mono ?_); rintro e w1 ⟨rfl, hb⟩; replace HXM := Lib.hid ((hb.block _ (Array.getElem?_eq_some_iff.1 HXM.out).1).trans HXM.out); replace HML := Lib.hid (HML.out.later hb); replace HK := Lib.hid (HK.out.later hb); replace HB := Lib.hid (HB.out.trans (hb.mono HB.out.size)); replace HPC := Lib.hid ((hb.cell (World.block_lt_of_cell? _ _ HPC.out)).trans HPC.out); clear hb)
          | (go_at_call 20; (with_reducible refine (HRK.out _ HML.out (HTB.out _ HB.out)).mono ?_); rintro e w1 ⟨rfl, hb⟩; replace HXM := Lib.hid ((hb.block _ (Array.getElem?_eq_some_iff.1 HXM.out).1).trans HXM.out); replace HML := Lib.hid (HML.out.later hb); replace HK := Lib.hid (HK.out.later hb); replace HB := Lib.hid (HB.out.trans (hb.mono HB.out.size)); replace HPC := Lib.hid ((hb.cell (World.block_lt_of_cell? _ _ HPC.out)).trans HPC.out); clear hb)
          | (go_at_call 16; (with_reducible refine (HPV.out _ HML.out (HTB.out _ HB.out)).mono ?_); rintro e w1 ⟨rfl, hb⟩; replace HXM := Lib.hid ((hb.block _ (Array.getElem?_eq_some_iff.1 HXM.out).1).trans HXM.out); replace HML := Lib.hid (HML.out.later hb); replace HK := Lib.hid (HK.out.later hb); replace HB := Lib.hid (HB.out.trans (hb.mono HB.out.size)); have hpc := (hb.cell (World.block_lt_of_cell? _ _ HPC.out)).trans HPC.out; clear hb)
          | (go_at_call 14; (with_reducible refine (HNX.out _ HML.out (HTB.out _ HB.out)).mono ?_); rintro e w1 ⟨rfl, hb⟩; replace HXM := Lib.hid ((hb.block _ (Array.getElem?_eq_some_iff.1 HXM.out).1).trans HXM.out); replace HML := Lib.hid (HML.out.later hb); replace HK := Lib.hid (HK.out.later hb); replace HB := Lib.hid (HB.out.trans (hb.mono HB.out.size)); clear hb))
        go_roundw
        case rel => exact ⟨j + 1, by simp, by have := HLT.out; omega, rfl, rfl, HXM, HML, HK, HB⟩
        case measure => have := HLT.out; simp [intOf]; omega
    · obtain rfl : j = N := by omega
      have hdj : decide (j < j) = false := decide_eq_false (Nat.lt_irrefl _)
      rw [hdj]
      go_wp2_with (first
        | (refine ld_if (by rfl) 36 _ rfl wm.heap.size rfl 36 cm _ _ HXM.out Tryd.underlying36 rfl (by rw [HZM.out]; exact map_size) ?_)
        | (go_at_call 47; (with_reducible refine (HLE.out _ HML.out _).mono ?_); rintro e w6 ⟨rfl, hb⟩; replace HB := Lib.hid (HB.out.trans (hb.mono HB.out.size)); clear hb))
      go_ret
      exact ⟨rfl, HB.out⟩
theorem dictSteps_walk (s : Nat) (n : Int) (va : Value) (l : List Ent) (hss : s < 18446744073709551616) (w : World) (hl : Prs w va l) (hT : Tab6 w) :
    Calls Tryd.prog 10 #[.agg #[.int .u64 (s : Int), .int .i64 n], va] w fun e w' => e = .returned (.bool true) ∧ Below w.heap.size w w' := dictSteps_of s n va l w hss hl hT
end Go.Proofs.YtnnlfgfgfegjkaaDoor
