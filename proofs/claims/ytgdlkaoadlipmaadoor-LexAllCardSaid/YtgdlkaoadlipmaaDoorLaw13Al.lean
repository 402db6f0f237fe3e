/- Law LexAll. (written by tools/gen13/law13.py) -/
import Derived.Test.YtgdlkaoadlipmaaDoorLaw13N
import Derived.Handy
import Derived.Deep.Cut
namespace Go.Proofs.YtgdlkaoadlipmaaDoor
open Go.RowKit
set_option maxRecDepth 1000000
set_option linter.unusedSimpArgs false

/-- There are no more tokens than bytes. -/
theorem lex_count (l : List UInt8) : ∀ (f p : Nat), p ≤ l.length → (lexS l f p).1.length ≤ l.length - p
  | 0, p, _ => by simp [lexS]
  | f + 1, p, hp => by
    unfold lexS
    dsimp only
    by_cases h1 : (nextS l p).2.2 = 0
    · have hk := next_k l p hp h1
      by_cases h2 : (nextS l p).1.k = 0
      · simp [h1, h2]
      · have h3 := hk.2.2.2.2.2 h2
        have h4 := lex_count l f (nextS l p).1.e hk.2.2.1
        simp only [h1, h2, ne_eq, not_true, if_false]
        split
        · rw [List.length_cons]; omega
        · simp
    · simp [h1]
set_option maxHeartbeats 2000000 in
theorem lexAll_walk (s : ByteArray) (_ : s.size ≤ maxLen) (w : World) (hT : T13 w) :
    Calls Tryd.prog 4 #[.string s] w fun e w' => e = .returned (.bool true) ∧ Below w.heap.size w w' := by
  have HLV := Lib.hid (fun W (hb : Below w.heap.size w W) => lw_live13 W (hT.below hb))
  have HT := Lib.hid hT
  have HW : Hid (Below w.heap.size w w) := Below.refl _ _
  clear hT
  by_cases hs : s.size ≤ 3000
  case neg =>
    have hs' : (3000 : Int) < s.size := by omega
    clear hs
    go_enter Tryd.func4, Tryd.ntmps4
    go_wp2_with (first
      | (go_at_call 8; (with_reducible refine (HLV.out _ HW.out).mono ?_); rintro r V ⟨rfl, hb⟩; replace HW := Lib.hid (HW.out.trans (hb.mono HW.out.size)); clear hb))
    go_ret
    exact ⟨rfl, HW.out⟩
  have hs' : (s.size : Int) ≤ 3000 := by omega
  have HAL := Lib.hid (fun W (hb : Below w.heap.size w W) => lx_All s W (HT.out.below hb) (by omega))
  have HAR := Lib.hid (fun W (_ : Below w.heap.size w W) => rf_All s W (by omega))
  obtain ⟨G, hG⟩ : ∃ G, G = allS s.data.toList := ⟨_, rfl⟩
  have HLN : Hid (G.1.length ≤ 100000) := by
    show _ ≤ _
    rw [hG]
    have := lex_count s.data.toList (s.data.toList.length + 1) 0 (Nat.zero_le _)
    rw [len_bytes] at this
    unfold allS
    rw [len_bytes]; omega
  rw [← hG] at HAL HAR
  obtain ⟨ts, en, ec⟩ := G
  dsimp only at HAL HAR
  clear hG hs
  go_enter Tryd.func4, Tryd.ntmps4
  go_upto_region 5 with (first
    | (go_at_call 8; (with_reducible refine (HLV.out _ HW.out).mono ?_); rintro r V ⟨rfl, hb⟩; replace HW := Lib.hid (HW.out.trans (hb.mono HW.out.size)); clear hb)
    | (go_at_call 12; (with_reducible refine (HAL.out _ HW.out).mono ?_); rintro r V ⟨v, E, rfl, hv, hE, hb⟩; have HV := Lib.hid hv; have HE := Lib.hid hE; replace HW := Lib.hid (HW.out.trans (hb.mono HW.out.size)); clear hb hv hE)
    | (go_at_call 13; (with_reducible refine (HAR.out _ HW.out).mono ?_); rintro r V2 ⟨u, rfl, hu, hb⟩; have HU := Lib.hid hu.tkl; have HV2 := Lib.hid (HV.out.later hb); have HE2 := Lib.hid (HE.out.later hb); replace HW := Lib.hid (HW.out.trans (hb.mono HW.out.size)); clear hb hu))
  have HSM := Lib.hid (rf_Same13 V2 v u ts HV2.out HU.out HLN.out)
  have HAT := Lib.hid (fun W (hb : Below V2.heap.size V2 W) => lw_At E ec en W (HE2.out.later hb) ((HT.out.below HW.out).below hb).et)
  clear HV HE HV2 HU HE2
  go_wp2_with (first
    | (go_at_call 14; (with_reducible refine (HSM.out).mono ?_); rintro r V3 ⟨rfl, hb⟩; have HB8 := Lib.hid hb; replace HW := Lib.hid (HW.out.trans (hb.mono HW.out.size)); clear hb)
    | (go_at_call 11; (with_reducible refine (HAT.out _ HB8.out).mono ?_); rintro r V5 ⟨rfl, hb⟩; replace HW := Lib.hid (HW.out.trans (hb.mono HW.out.size)); clear hb))
  go_ret
  exact ⟨rfl, HW.out⟩
end Go.Proofs.YtgdlkaoadlipmaaDoor
