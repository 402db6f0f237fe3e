/- Package lex: how tokens are printed. (written by tools/gen13/lexp.py) -/
import Derived.Test.YtgdlkaoadlipmaaDoorLex
import Derived.Test.YtgdlkaoadlipmaaDoorRef13P
import Derived.Test.YtgdlkaoadlipmaaDoorFault3
import Derived.Test.YtgdlkaoadlipmaaDoorPkG
import Derived.Test.YtgdlkaoadlipmaaDoorQt2
namespace Go.Proofs.YtgdlkaoadlipmaaDoor
open Go.RowKit
set_option maxRecDepth 1000000
set_option linter.unusedSimpArgs false

theorem lx_keeps {B b k : Nat} {V W : World} {cs : Array Value} {T : TypeId} {fr : Nat × Nat} (h : Keeps B b V W) (hk : V.heap[k]? = some (.cells cs T fr)) (hkb : k ≠ b) (hT : T ≠ 5) : W.heap[k]? = some (.cells cs T fr) :=
  h.2 k _ hk (fun e => hkb (Option.some.inj e)) (fun c fz e => by cases e; exact hT rfl)
theorem tiC_one (x : TokI) : (tiC x).all (·.oneCell') = true := by simp [tiC, Value.oneCell']
set_option maxHeartbeats 2000000 in
theorem lx_printed (x : TokI) (w : World) (hE : Esc w) (hP : Tab w) (hx : x.t.size ≤ 20000 ∧ InR x.n) : Calls Tryd.prog 38 #[.agg (tiC x)] w fun e w' => ∃ S : ByteArray, e = .returned (.string S) ∧ S.data.toList = prnI x ∧ Below w.heap.size w w' := by
  obtain ⟨xk, xa, xe, xn, xt⟩ := x
  obtain ⟨hx1, hx2⟩ := hx
  dsimp only at hx1 hx2
  obtain ⟨w1, hw1⟩ : ∃ w1, w1 = w.alloc (.cells (tiC ⟨xk, xa, xe, xn, xt⟩) 24) := ⟨_, rfl⟩
  have hb1 : Below w.heap.size w w1 := by rw [hw1]; exact Below.newly' _ _
  have h1 : w1.heap[w.heap.size]? = some (.cells (tiC ⟨xk, xa, xe, xn, xt⟩) 24 (0, 0)) := by rw [hw1]; exact heap_alloc_last _ _
  have d0 := cell_in h1 (j := 0) (v := .int .i64 xk) rfl
  have d3 := cell_in h1 (j := 3) (v := .int .i64 xn) rfl
  have d4 := cell_in h1 (j := 4) (v := .string xt) rfl
  have HDG := Lib.hid (num_Digits xn w1 hx2 (hP.below hb1))
  have HQU := Lib.hid (q_Quote xt w1 hx1 (hE.below hb1))
  have HB := Lib.hid hb1
  clear hE hP hx1 hx2 hb1 h1
  by_cases c1 : xk = 1
  case pos =>
    have HPR : Hid (prnI ⟨xk, xa, xe, xn, xt⟩ = xt.data.toList) := if_pos (.inl c1)
    have hk1 : (xk == 1) = true := beq_iff_eq.2 c1
    clear c1
    go_enter Tryd.func38, Tryd.ntmps38
    go_upto_region 1 with fail
    rw [← hw1]
    clear hw1
    go_wp2_with fail
    go_ret
    exact ⟨_, rfl, by rw [HPR.out], HB.out⟩
  by_cases c2 : xk = 2
  case pos =>
    have HPR : Hid (prnI ⟨xk, xa, xe, xn, xt⟩ = xt.data.toList) := if_pos (.inr c2)
    have hk1 : (xk == 1) = false := beq_eq_false_iff_ne.2 c1
    have hk2 : (xk == 2) = true := beq_iff_eq.2 c2
    clear c1 c2
    go_enter Tryd.func38, Tryd.ntmps38
    go_upto_region 1 with fail
    rw [← hw1]
    clear hw1
    go_wp2_with fail
    go_ret
    exact ⟨_, rfl, by rw [HPR.out], HB.out⟩
  by_cases c3 : xk = 3
  case pos =>
    have HPR : Hid (prnI ⟨xk, xa, xe, xn, xt⟩ = Lib.itoa xn) := (if_neg (fun h => h.elim c1 c2)).trans (if_pos c3)
    have hk1 : (xk == 1) = false := beq_eq_false_iff_ne.2 c1
    have hk2 : (xk == 2) = false := beq_eq_false_iff_ne.2 c2
    have hk3 : (xk == 3) = true := beq_iff_eq.2 c3
    clear c1 c2 c3
    go_enter Tryd.func38, Tryd.ntmps38
    go_upto_region 1 with fail
    rw [← hw1]
    clear hw1
    go_wp2_with (go_at_call 49; refine HDG.out.mono ?_; rintro r V ⟨rfl, hb⟩; replace HB := Lib.hid (HB.out.trans (hb.mono HB.out.size)); clear hb)
    go_ret
    exact ⟨_, rfl, by rw [HPR.out], HB.out⟩
  by_cases c4 : xk = 4
  case pos =>
    have HPR : Hid (prnI ⟨xk, xa, xe, xn, xt⟩ = quoteS xt.data.toList) := (if_neg (fun h => h.elim c1 c2)).trans ((if_neg c3).trans (if_pos c4))
    have hk1 : (xk == 1) = false := beq_eq_false_iff_ne.2 c1
    have hk2 : (xk == 2) = false := beq_eq_false_iff_ne.2 c2
    have hk3 : (xk == 3) = false := beq_eq_false_iff_ne.2 c3
    have hk4 : (xk == 4) = true := beq_iff_eq.2 c4
    clear c1 c2 c3 c4
    go_enter Tryd.func38, Tryd.ntmps38
    go_upto_region 1 with fail
    rw [← hw1]
    clear hw1
    go_wp2_with (go_at_call 50; refine HQU.out.mono ?_; rintro r V ⟨rfl, hb⟩; replace HB := Lib.hid (HB.out.trans (hb.mono HB.out.size)); clear hb)
    go_ret
    exact ⟨_, rfl, by rw [HPR.out], HB.out⟩
  have HPR : Hid (prnI ⟨xk, xa, xe, xn, xt⟩ = []) := (if_neg (fun h => h.elim c1 c2)).trans ((if_neg c3).trans (if_neg c4))
  have hk1 : (xk == 1) = false := beq_eq_false_iff_ne.2 c1
  have hk2 : (xk == 2) = false := beq_eq_false_iff_ne.2 c2
  have hk3 : (xk == 3) = false := beq_eq_false_iff_ne.2 c3
  have hk4 : (xk == 4) = false := beq_eq_false_iff_ne.2 c4
  clear c1 c2 c3 c4
  go_enter Tryd.func38, Tryd.ntmps38
  go_upto_region 1 with fail
  rw [← hw1]
  clear hw1
  go_wp2_with fail
  go_ret
  exact ⟨_, rfl, by rw [HPR.out], HB.out⟩
set_option maxHeartbeats 4000000 in
theorem lx_Print (w : World) (v : Value) (l : List TokI) (hT : T13 w) (hP : Tab w) (hv : TiL w v l) (hl : (joinI l).length ≤ 200000) (ht : ∀ x ∈ l, x.t.size ≤ 3000 ∧ InR x.n) : Calls Tryd.prog 17 #[v] w fun e w' => ∃ S : ByteArray, e = .returned (.string S) ∧ S.data.toList = joinI l ∧ Below w.heap.size w w' := by
  obtain ⟨oa, c, b, oo, rfl, hll, ha, hr⟩ := hv
  obtain ⟨N, hN⟩ : ∃ N, N = l.length := ⟨_, rfl⟩
  rw [← hN] at hll ha ⊢
  have HN := Lib.hid hN
  have HA := Lib.hid ha
  have HRW := Lib.hid hr
  have HTX := Lib.hid ht
  have HL := Lib.hid hl
  have HT := Lib.hid hT
  have HP := Lib.hid hP
  have hN' : (N : Int) ≤ 9223372036854775807 := by have := hll; unfold maxLen at this; omega
  clear hN ha hr ht hl hT hP hll
  go_enter Tryd.func17, Tryd.ntmps17
  go_wp2_with fail
  go_loopw [8] (fun i W => ∃ j : Nat, j ≤ N ∧ i = .int .i64 (j : Int) ∧ Tx w W (joinI (l.take j))) (fun i _ => N - (intOf i).toNat)
  case atStart => exact ⟨0, Nat.zero_le _, rfl, by rw [List.take_zero]; exact Tx.start w⟩
  case round =>
    obtain ⟨j, hj, rfl, htx⟩ := hrel
    by_cases hlt : j < N
    case neg =>
      obtain rfl : j = N := by omega
      rw [HN.out, List.take_of_length_le (Nat.le_refl _)] at htx
      have HTS := Lib.hid htx
      have HST := Lib.hid (bld_String w.heap.size w.heap.size _ _ htx.bld htx.le)
      clear htx
      go_wp2_with (go_at_call 39; refine HST.out.mono ?_; rintro r V ⟨rfl, hb⟩; have HB := Lib.hid hb; clear hb)
      go_ret
      exact ⟨_, rfl, rfl, HTS.out.below.trans HB.out⟩
    have hlt' : (j : Int) < N := by omega
    have hjl : j < l.length := by rw [← HN.out]; exact hlt
    obtain rfl := HA.out (by omega)
    have hrj := rangeAt_later (HRW.out j hjl) htx.below
    have hxt := HTX.out _ (List.getElem_mem hjl)
    have hst := joinI_step l hjl
    have hrm := joinI_room l hjl
    obtain ⟨x, hx⟩ : ∃ x, x = l[j] := ⟨_, rfl⟩
    rw [← hx] at hrj hxt hst hrm
    have HRJ := Lib.hid hrj
    have HST := Lib.hid hst
    have HPD := Lib.hid (fun W (hb : Below w.heap.size w W) => lx_printed x W (HT.out.below hb).1 (HP.out.below hb) ⟨by omega, hxt.2⟩)
    have HTW := Lib.hid htx
    have HJL : Hid ((joinI (l.take j)).length + 1 + (prnI x).length ≤ 200001) := by have := HL.out; show _ ≤ _; omega
    obtain ⟨t0, ht0⟩ : ∃ t, t = joinI (l.take j) := ⟨_, rfl⟩
    rw [← ht0] at HTW HJL HST
    have HZ : Hid (j = 0 → t0 = []) := fun e => by rw [ht0, e]; rfl
    have hwr : w.heap.size < wr.heap.size := HTW.out.bld.lt
    clear hrj hxt hst hrm hx htx hjl ht0
    have HLT := Lib.hid hlt
    by_cases hj0 : 0 < j
    case pos =>
      have hj0' : (0 : Int) < j := by omega
      go_wp2_with (first
        | (refine ld_tk (by rfl) _ rfl b (oo + j * 5) rfl (tiC x) HRJ.out rfl ?_)
        | (refine st_agg rfl 24 _ _ rfl wr.heap.size (tiC x) rfl rfl 24 (tokC ⟨0, 0, 0, 0, []⟩) (heap_alloc_last _ _) tok_size rfl (tiC_one x) ?_; intro w8 h8 k8; have HT8 := Lib.hid (HTW.out.more ((Below.newly' wr _).trans (k8.below (Nat.le_refl _)))); have H8 := Lib.hid h8; clear h8 k8)
        | (go_at_call 36; refine (bld_put w.heap.size w.heap.size t0 32 w8 HT8.out.bld (by have := HJL.out; omega) HT8.out.le).mono ?_; rintro r V ⟨rfl, hbl, hk⟩; have HT9 := Lib.hid (HT8.out.wrote hk hbl); have H9 := Lib.hid (lx_keeps hk H8.out (Nat.ne_of_gt hwr) (by decide)); clear hbl hk)
        | (refine ld_if rfl 24 _ rfl wr.heap.size rfl 24 _ _ _ H9.out Tryd.underlying24 rfl tok_size ?_)
        | (go_at_call 38; refine (HPD.out _ HT9.out.below).mono ?_; rintro r V2 ⟨S, rfl, hS, hb⟩; have HTA := Lib.hid (HT9.out.more hb); have HS := Lib.hid hS; have HSZ := Lib.hid (show S.size = (prnI x).length from (len_bytes S).symm.trans (congrArg List.length hS)); clear hb hS)
        | (go_at_call 37; refine (bld_write w.heap.size w.heap.size (t0 ++ [32]) S V2 HTA.out.bld (by have := HJL.out; have := HSZ.out; (try simp only [List.length_append, List.length_cons, List.length_nil]); omega) HTA.out.le).mono ?_; rintro r V3 ⟨rfl, hbl, hk⟩; have HTB := Lib.hid (HTA.out.wrote hk hbl); clear hbl hk))
      go_roundw
      case rel =>
        refine ⟨j + 1, by have := HLT.out; omega, by go_num, ?_⟩
        have h := HTB.out
        rw [HS.out] at h
        rw [HST.out]
        rw [if_neg (by omega)]
        exact h
      case measure => have := HLT.out; simp [intOf]; omega
    have hj0' : ¬ (0 : Int) < j := by omega
    have HT0 : Hid (t0 = []) := HZ.out (by omega)
    go_wp2_with (first
      | (refine ld_tk (by rfl) _ rfl b (oo + j * 5) rfl (tiC x) HRJ.out rfl ?_)
      | (refine st_agg rfl 24 _ _ rfl wr.heap.size (tiC x) rfl rfl 24 (tokC ⟨0, 0, 0, 0, []⟩) (heap_alloc_last _ _) tok_size rfl (tiC_one x) ?_; intro w8 h8 k8; have HT8 := Lib.hid (HTW.out.more ((Below.newly' wr _).trans (k8.below (Nat.le_refl _)))); have H8 := Lib.hid h8; clear h8 k8)
      | (refine ld_if rfl 24 _ rfl wr.heap.size rfl 24 _ _ _ H8.out Tryd.underlying24 rfl tok_size ?_)
      | (go_at_call 38; refine (HPD.out _ HT8.out.below).mono ?_; rintro r V2 ⟨S, rfl, hS, hb⟩; have HTA := Lib.hid (HT8.out.more hb); have HS := Lib.hid hS; have HSZ := Lib.hid (show S.size = (prnI x).length from (len_bytes S).symm.trans (congrArg List.length hS)); clear hb hS)
      | (go_at_call 37; refine (bld_write w.heap.size w.heap.size t0 S V2 HTA.out.bld (by have := HJL.out; have := HSZ.out; (try simp only [List.length_append, List.length_cons, List.length_nil]); omega) HTA.out.le).mono ?_; rintro r V3 ⟨rfl, hbl, hk⟩; have HTB := Lib.hid (HTA.out.wrote hk hbl); clear hbl hk))
    go_roundw
    case rel =>
      refine ⟨j + 1, by have := HLT.out; omega, by go_num, ?_⟩
      have h := HTB.out
      rw [HS.out] at h
      rw [HST.out]
      rw [if_pos (by omega)]
      rw [HT0.out] at h
      exact h
    case measure => have := HLT.out; simp [intOf]; omega
end Go.Proofs.YtgdlkaoadlipmaaDoor
