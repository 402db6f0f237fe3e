/- Law LexBack. (written by tools/gen13/law13.py) -/
import Derived.Test.YtgdlkaoadlipmaaDoorLaw13N
import Derived.Test.YtgdlkaoadlipmaaDoorLexRoom
import Derived.Test.YtgdlkaoadlipmaaDoorLexP
import Derived.Handy
import Derived.Deep.QuietTactic
import Derived.Deep.Cut
namespace Go.Proofs.YtgdlkaoadlipmaaDoor
open Go.RowKit
set_option maxRecDepth 1000000
set_option linter.unusedSimpArgs false

set_option maxHeartbeats 2000000 in
theorem lexBack_walk (s : ByteArray) (_ : s.size ≤ maxLen) (w : World) (hT : T13 w) (hP : Tab w) :
    Calls Tryd.prog 6 #[.string s] w fun e w' => e = .returned (.bool true) ∧ Below w.heap.size w w' := by
  have HLV := Lib.hid (fun W (hb : Below w.heap.size w W) => lw_live13 W (hT.below hb))
  have HT := Lib.hid hT
  have HP := Lib.hid hP
  have HW : Hid (Below w.heap.size w w) := Below.refl _ _
  clear hT hP
  by_cases hs : s.size ≤ 3000
  case neg =>
    have hs' : (3000 : Int) < s.size := by omega
    clear hs
    go_enter Tryd.func6, Tryd.ntmps6
    go_wp2_with (first
      | (go_at_call 8; (with_reducible refine (HLV.out _ HW.out).mono ?_); rintro r V ⟨rfl, hb⟩; replace HW := Lib.hid (HW.out.trans (hb.mono HW.out.size)); clear hb))
    go_ret
    exact ⟨rfl, HW.out⟩
  have hs' : (s.size : Int) ≤ 3000 := by omega
  have HAL := Lib.hid (fun W (hb : Below w.heap.size w W) => lx_All s W (HT.out.below hb) (by omega))
  have hbk := all_back s.data.toList
  have hrm := all_room s.data.toList
  have hgd := lex_good s.data.toList (s.data.toList.length + 1) 0
  obtain ⟨G, hG⟩ : ∃ G, G = allS s.data.toList := ⟨_, rfl⟩
  rw [← hG] at HAL hbk hrm
  rw [show lexS s.data.toList (s.data.toList.length + 1) 0 = G from hG.symm] at hgd
  rw [len_bytes] at hrm
  obtain ⟨ts, en, ec⟩ := G
  dsimp only at HAL hbk hrm hgd
  have hrt : ∀ t ∈ ts, t.t.length ≤ 3000 := fun t ht => Nat.le_trans (hrm.2 t ht) (by omega)
  have hrl : (joinI (ts.map Tok.i)).length ≤ 12000 := by have := hrm.1; omega
  have HBK := Lib.hid hbk
  have HRT := Lib.hid hrt
  have HRL := Lib.hid hrl
  have HGD := Lib.hid hgd
  clear hG hs hbk hrm hrt hrl hgd
  go_enter Tryd.func6, Tryd.ntmps6
  go_upto_region 4 with (first
    | (go_at_call 8; (with_reducible refine (HLV.out _ HW.out).mono ?_); rintro r V ⟨rfl, hb⟩; replace HW := Lib.hid (HW.out.trans (hb.mono HW.out.size)); clear hb)
    | (go_at_call 12; (with_reducible refine (HAL.out _ HW.out).mono ?_); rintro r V ⟨v, E, rfl, hv, hE, hb⟩; have HV := Lib.hid hv; have HE := Lib.hid hE; replace HW := Lib.hid (HW.out.trans (hb.mono HW.out.size)); clear hb hv hE))
  rcases HE.out with ⟨h0, hn⟩ | ⟨h0, l0, hch, _⟩
  case inr =>
    obtain ⟨u, x, hux⟩ := hch.iface
    subst hux
    clear HE HV hch
    go_wp2_with fail
    go_ret
    exact ⟨rfl, HW.out⟩
  subst hn
  obtain ⟨us, hus, hmap⟩ := HBK.out h0
  have HPR := Lib.hid (lx_Print V v (ts.map Tok.i) (HT.out.below HW.out) (HP.out.below HW.out) HV.out.ti (Nat.le_trans HRL.out (by decide)) (fun x hx => by
    obtain ⟨t, ht, rfl⟩ := List.mem_map.1 hx
    refine ⟨by have := HRT.out t ht; show (List.toArray t.t).size ≤ 3000; rw [List.size_toArray]; exact this, ?_⟩
    rcases HGD.out t ht with h | h | h | h
    · show InR t.n; rw [show t.n = 0 from h.2.1]; decide
    · show InR t.n; rw [show t.n = 0 from h.2.1]; decide
    · exact h.2.1
    · show InR t.n; rw [show t.n = 0 from h.2]; decide))
  have HJ : Hid (allS (joinI (ts.map Tok.i)) = (us, 0, 0)) := by show _ = _; rw [joinI_i]; exact hus
  have HMP : Hid (us.length = ts.length ∧ ∀ j (h1 : j < ts.length) (h2 : j < us.length), us[j].k = ts[j].k ∧ us[j].n = ts[j].n ∧ us[j].t = ts[j].t) := by
    refine ⟨by have := congrArg List.length hmap; simpa using this, fun j h1 h2 => ?_⟩
    have h3 : (us.map Tok.r)[j]? = (ts.map Tok.r)[j]? := by rw [hmap]
    rw [List.getElem?_map, List.getElem?_map, List.getElem?_eq_getElem h1, List.getElem?_eq_getElem h2] at h3
    have h4 := Option.some.inj h3
    exact ⟨congrArg TkR.k h4, congrArg TkR.n h4, congrArg TkR.t h4⟩
  clear HE hus hmap h0 HBK HGD HRT
  go_upto_region 7 with (first
    | (go_at_call 17; (with_reducible refine (HPR.out).mono ?_); rintro r V2 ⟨S, rfl, hS, hb⟩; have HA2 := Lib.hid (lx_All S V2 ((HT.out.below HW.out).below hb) (by rw [← len_bytes, hS]; exact Nat.le_trans HRL.out (by decide))); have HV2 := Lib.hid (HV.out.later hb); have HS2 := Lib.hid hS; replace HW := Lib.hid (HW.out.trans (hb.mono HW.out.size)); clear hb hS)
    | (go_at_call 12; (with_reducible refine (HA2.out).mono ?_); rintro r V3 ⟨u, E2, rfl, hu, hE2, hb⟩; have HU3 := Lib.hid hu; have HE3 := Lib.hid hE2; have HV3 := Lib.hid (HV2.out.later hb); replace HW := Lib.hid (HW.out.trans (hb.mono HW.out.size)); clear hb hu hE2))
  have he3 := HE3.out
  have hu3 := HU3.out
  rw [HS2.out, HJ.out] at he3 hu3
  obtain rfl : E2 = .nilIface := he3.elim (fun h => h.2) (fun h => absurd rfl h.1)
  have hv3 := HV3.out
  obtain ⟨a1, c1, rfl, hmx⟩ := hv3.shape
  obtain ⟨a2, c2, rfl, _⟩ := hu3.shape
  obtain ⟨N, hN⟩ : ∃ N, N = ts.length := ⟨_, rfl⟩
  have hNu : us.length = N := by rw [hN]; exact HMP.out.1
  have hN4 : (N : Int) ≤ 9223372036854775807 := by rw [hN]; unfold maxLen at hmx; omega
  rw [hNu]
  rw [← hN]
  have HVL := Lib.hid hv3
  have HUL := Lib.hid hu3
  have HN := Lib.hid hN
  have HNU := Lib.hid hNu
  clear he3 hu3 hv3 hmx hN hNu HE3 HU3 HV3 HV2 HS2 HJ HV HPR HA2 HRL
  go_wp2_with fail
  go_loopw [7, 40] (fun x i W => ∃ j : Nat, j ≤ N ∧ i = .int .i64 (j : Int) ∧ Below V3.heap.size V3 W) (fun _ i _ => N - (intOf i).toNat)
  case atStart => exact ⟨0, Nat.zero_le _, rfl, Below.refl _ _⟩
  case round =>
    obtain ⟨j, hj, rfl, hbj⟩ := hrel
    have HBJ := Lib.hid hbj
    clear hbj
    by_cases hlt : j < N
    case neg =>
      obtain rfl : j = N := by omega
      go_wp2_with fail
      go_ret
      exact ⟨rfl, HW.out.trans (HBJ.out.mono HW.out.size)⟩
    have hlt' : (j : Int) < (N : Int) := by omega
    have i0 : (0 : Int) ≤ (j : Int) := by omega
    have j1 : j < ts.length := by rw [← HN.out]; exact hlt
    have j2 : j < us.length := by rw [HNU.out]; exact hlt
    obtain ⟨q1, q2, q3⟩ := HMP.out.2 j j1 j2
    obtain ⟨g1, d1, e1, hr1⟩ := (HVL.out.later HBJ.out).row j1
    obtain ⟨g2, d2, e2, hr2⟩ := (HUL.out.later HBJ.out).row j2
    simp only [Value.slice.injEq] at e1 e2
    obtain ⟨rfl, hd1, rfl⟩ := e1
    obtain ⟨rfl, hd2, rfl⟩ := e2
    obtain ⟨x, hx⟩ : ∃ x, x = ts[j] := ⟨_, rfl⟩
    obtain ⟨y, hy⟩ : ∃ y, y = us[j] := ⟨_, rfl⟩
    rw [← hx] at hr1 q1 q2 q3
    rw [← hy] at hr2 q1 q2 q3
    obtain ⟨k, pa, pe, n, tt⟩ := x
    obtain ⟨k', qa, qe, n', tt'⟩ := y
    dsimp only at q1 q2 q3
    subst q1
    subst q2
    subst q3
    have k1 : wr.cell? ⟨g1, j * 5, none⟩ = some (.int .i64 k') := hr1 0 _ rfl
    have k2 : wr.cell? ⟨g1, j * 5 + 3, none⟩ = some (.int .i64 n') := hr1 3 _ rfl
    have k3 : wr.cell? ⟨g1, j * 5 + 4, none⟩ = some (.string ⟨tt'.toArray⟩) := hr1 4 _ rfl
    have k4 : wr.cell? ⟨g2, j * 5, none⟩ = some (.int .i64 k') := hr2 0 _ rfl
    have k5 : wr.cell? ⟨g2, j * 5 + 3, none⟩ = some (.int .i64 n') := hr2 3 _ rfl
    have k6 : wr.cell? ⟨g2, j * 5 + 4, none⟩ = some (.string ⟨tt'.toArray⟩) := hr2 4 _ rfl
    have HLT := Lib.hid hlt
    clear hr1 hr2 hx hy j1 j2 hd1 hd2 hlt
    go_upto_region 12 with fail
    go_quiet (fail)
    go_wp2_with fail
    go_roundw
    case rel => exact ⟨j + 1, by have := HLT.out; omega, by go_num, Below.drewMany HBJ.out _⟩
    case measure => have := HLT.out; simp [intOf]; omega
end Go.Proofs.YtgdlkaoadlipmaaDoor
