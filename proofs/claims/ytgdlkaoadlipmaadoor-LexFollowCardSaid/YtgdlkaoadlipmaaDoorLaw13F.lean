/- Law LexFollow. (written by tools/gen13/law13.py) -/
import Derived.Test.YtgdlkaoadlipmaaDoorLaw13N
import Derived.Test.YtgdlkaoadlipmaaDoorPkA
import Derived.Handy
import Derived.Deep.QuietTactic
import Derived.Deep.Cut
namespace Go.Proofs.YtgdlkaoadlipmaaDoor
open Go.RowKit
set_option maxRecDepth 1000000
set_option linter.unusedSimpArgs false

theorem all_at (s : ByteArray) (f : UInt8 → Bool) (p a : Nat) (ha : a ≤ s.size) (h : ((s.data.toList.drop p).take (a - p)).all f = true) : ∀ k (hk : k < s.size), p ≤ k → k < a → f s[k] = true := fun k hk h1 h2 => by
  have hl := len_bytes s
  rw [List.all_eq_true] at h
  have hlt : k - p < ((s.data.toList.drop p).take (a - p)).length := by simp only [List.length_take, List.length_drop, hl]; omega
  have e : ((s.data.toList.drop p).take (a - p))[k - p] = s[k] := by
    rw [List.getElem_take, List.getElem_drop]
    have e : p + (k - p) = k := by omega
    simp only [e]; rfl
  rw [← e]; exact h _ (List.getElem_mem _)
/-- Tokens that follow one another are no more than the bytes. -/
theorem fol_len (l : List UInt8) : ∀ (ts : List Tok) (p : Nat), FolS l p ts → ts.length + p ≤ l.length
  | [], p, h => by have := h.1; simp; omega
  | t :: ts, p, h => by
    have h1 := fol_len l ts t.e h.2.2.2.2
    have := h.1
    have := h.2.1
    rw [List.length_cons]; omega
set_option maxHeartbeats 2000000 in
theorem lexFollow_walk (s : ByteArray) (_ : s.size ≤ maxLen) (w : World) (hT : T13 w) :
    Calls Tryd.prog 5 #[.string s] w fun e w' => e = .returned (.bool true) ∧ Below w.heap.size w w' := by
  have HLV := Lib.hid (fun W (hb : Below w.heap.size w W) => lw_live13 W (hT.below hb))
  have HT := Lib.hid hT
  have HW : Hid (Below w.heap.size w w) := Below.refl _ _
  clear hT
  by_cases hs : s.size ≤ 3000
  case neg =>
    have hs' : (3000 : Int) < s.size := by omega
    clear hs
    go_enter Tryd.func5, Tryd.ntmps5
    go_wp2_with (first
      | (go_at_call 8; (with_reducible refine (HLV.out _ HW.out).mono ?_); rintro r V ⟨rfl, hb⟩; replace HW := Lib.hid (HW.out.trans (hb.mono HW.out.size)); clear hb))
    go_ret
    exact ⟨rfl, HW.out⟩
  have hs' : (s.size : Int) ≤ 3000 := by omega
  have HAL := Lib.hid (fun W (hb : Below w.heap.size w W) => lx_All s W (HT.out.below hb) (by omega))
  have hfo := all_fol s.data.toList
  have hbd := lex_bad s.data.toList (s.data.toList.length + 1) 0 (Nat.zero_le _)
  obtain ⟨G, hG⟩ : ∃ G, G = allS s.data.toList := ⟨_, rfl⟩
  rw [← hG] at HAL hfo
  rw [show lexS s.data.toList (s.data.toList.length + 1) 0 = G from hG.symm, len_bytes] at hbd
  obtain ⟨ts, en, ec⟩ := G
  dsimp only at HAL hfo hbd
  have HFO := Lib.hid hfo
  have HBD := Lib.hid hbd
  clear hG hs hfo hbd
  go_enter Tryd.func5, Tryd.ntmps5
  go_upto_region 4 with (first
    | (go_at_call 8; (with_reducible refine (HLV.out _ HW.out).mono ?_); rintro r V ⟨rfl, hb⟩; replace HW := Lib.hid (HW.out.trans (hb.mono HW.out.size)); clear hb)
    | (go_at_call 12; (with_reducible refine (HAL.out _ HW.out).mono ?_); rintro r V ⟨v, E, rfl, hv, hE, hb⟩; have HV := Lib.hid hv; have HE := Lib.hid hE; replace HW := Lib.hid (HW.out.trans (hb.mono HW.out.size)); clear hb hv hE))
  rcases HE.out with ⟨h0, hn⟩ | ⟨h0, l0, hch, hl0⟩
  case inr =>
    obtain ⟨ht0, hen⟩ := HBD.out h0
    have HLA := Lib.hid (fault_Last E (some ec) l0 en V (HT.out.below HW.out).et hch (Nat.le_refl _) hl0)
    obtain ⟨u, x, hux⟩ := hch.iface
    subst hux
    have hv := HV.out
    rw [ht0] at hv
    obtain ⟨a, c, rfl, _⟩ := hv.shape
    have hen' : (en : Int) ≤ s.size := by omega
    clear HE HV hch hv ht0 hl0 h0 hen
    go_wp2_with (go_at_call 15; (with_reducible refine HLA.out.mono ?_); rintro r V5 ⟨rfl, hb⟩; replace HW := Lib.hid (HW.out.trans (hb.mono HW.out.size)); clear hb)
    go_ret
    exact ⟨rfl, HW.out⟩
  subst hn
  have HFL := Lib.hid (HFO.out h0)
  have hv := HV.out
  obtain ⟨a1, c1, rfl, hmx⟩ := hv.shape
  obtain ⟨N, hN⟩ : ∃ N, N = ts.length := ⟨_, rfl⟩
  have hNs : N ≤ s.size := by
    rw [hN]
    have h1 := fol_len s.data.toList ts 0 HFL.out
    rw [len_bytes] at h1; omega
  rw [← hN]
  have hN4 : (N : Int) ≤ 3000 := by omega
  have HVL := Lib.hid hv
  have HN := Lib.hid hN
  clear hv hmx hN hNs HE HV HFO HBD h0
  go_wp2_with fail
  go_loopw [7, 8, 9, 10, 11, 51] (fun at_ x9 e9 n9 k9 i W => ∃ j p : Nat, j ≤ N + 1 ∧ i = .int .i64 (j : Int) ∧ at_ = .int .i64 (p : Int) ∧ p ≤ s.size ∧ (j ≤ N → FolS s.data.toList p (ts.drop j)) ∧ Below V.heap.size V W) (fun _ _ _ _ _ i _ => N + 1 - (intOf i).toNat)
  case atStart => exact ⟨0, 0, by omega, rfl, rfl, Nat.zero_le _, fun _ => HFL.out, Below.refl _ _⟩
  case round =>
    obtain ⟨j, p, hj, rfl, rfl, hp, hf, hbj⟩ := hrel
    have HBJ := Lib.hid hbj
    have HF := Lib.hid hf
    clear hbj hf
    by_cases hlt : j < N + 1
    case neg =>
      obtain rfl : j = N + 1 := by omega
      have hjj : ¬ ((N + 1 : Nat) : Int) < (N : Int) + 1 := by omega
      go_wp2_with fail
      go_ret
      exact ⟨rfl, HW.out.trans (HBJ.out.mono HW.out.size)⟩
    have hlt' : (j : Int) < (N : Int) + 1 := by omega
    by_cases hjn : j < N
    case pos =>
      have j1 : j < ts.length := by rw [← HN.out]; exact hjn
      have hff := HF.out (by omega)
      rw [List.drop_eq_getElem_cons j1] at hff
      obtain ⟨f1, f2, f3, f4, f5⟩ := hff
      obtain ⟨g1, d1, e1, hr1⟩ := (HVL.out.later HBJ.out).row j1
      simp only [Value.slice.injEq] at e1
      obtain ⟨rfl, hd1, rfl⟩ := e1
      have hr2 := hr1
      obtain ⟨x, hx⟩ : ∃ x, x = ts[j] := ⟨_, rfl⟩
      rw [← hx] at hr1 f1 f2 f3 f4 f5
      obtain ⟨tk, ta, te, tn, tt⟩ := x
      dsimp only at f1 f2 f3 f4 f5
      rw [len_bytes] at f3
      have k1 : wr.cell? ⟨g1, j * 5 + 1, none⟩ = some (.int .i64 (ta : Int)) := hr1 1 _ rfl
      have k2 : wr.cell? ⟨g1, j * 5 + 2, none⟩ = some (.int .i64 (te : Int)) := hr1 2 _ rfl
      have HBA := Lib.hid (all_at s blkS p ta (by omega) f4)
      have HES : Hid (ta ≤ s.size) := by show _ ≤ _; omega
      have HPE : Hid (p ≤ ta) := f1
      have HF5 := Lib.hid f5
      have HLT : Hid (j < N + 1 ∧ te ≤ s.size) := ⟨hlt, f3⟩
      have q1 : ¬ (te : Int) ≤ (ta : Int) := by omega
      have q2 : ¬ (ta : Int) < (p : Int) := by omega
      have q3 : ¬ (s.size : Int) < (ta : Int) := by omega
      have i0 : (0 : Int) ≤ (j : Int) := by omega
      have i1 : (j : Int) < (N : Int) := by omega
      clear hr1 hr2 hx j1 hd1 f1 f2 f3 f4 f5 hlt hjn HF
      go_upto_region 13 with fail
      go_quiet (fail)
      go_upto_region 19 with fail
      go_loopw [11] (fun k9 W => ∃ k : Nat, p ≤ k ∧ k ≤ ta ∧ k9 = .int .i64 (k : Int) ∧ Below V.heap.size V W) (fun k9 _ => ta - (intOf k9).toNat)
      case atStart => exact ⟨p, Nat.le_refl _, HPE.out, rfl, Below.drewMany HBJ.out _⟩
      case round =>
        obtain ⟨k, hk0, hk1, rfl, hbk⟩ := hrel
        have HBK := Lib.hid hbk
        clear hbk
        by_cases hkl : k < ta
        case neg =>
          obtain rfl : k = ta := by omega
          go_wp2_with fail
          go_roundw
          case rel => exact ⟨j + 1, te, by have := HLT.out; omega, (by first | rfl | go_num), rfl, HLT.out.2, fun h => HF5.out, HBK.out⟩
          case measure => have := HLT.out; simp [intOf] <;> omega
        have hkl' : (k : Int) < (ta : Int) := by omega
        have hks : k < s.size := by have := HES.out; omega
        have hks' : (k : Int) < (s.size : Int) := by omega
        have HBL : Hid (∀ W, Calls Tryd.prog 16 #[.int .u8 (s[k].toNat : Int)] W fun e w' => e = .returned (.bool true) ∧ Below W.heap.size W w') := fun W => by
          have h := lx_Blank s[k] W
          rw [HBA.out k hks hk0 hkl] at h
          exact h
        go_wp2_with (go_at_call 16; (with_reducible refine (HBL.out _).mono ?_); rintro r V6 ⟨rfl, hb⟩; have HB6 := Lib.hid (HBK.out.trans (hb.mono HBK.out.size)); clear hb)
        go_roundw
        case rel => exact ⟨k + 1, by omega, by omega, by go_num, HB6.out⟩
        case measure => simp [intOf]; omega
    obtain rfl : j = N := by omega
    have hff := HF.out (Nat.le_refl _)
    rw [show ts.drop j = [] from List.drop_eq_nil_of_le (by rw [← HN.out]; exact Nat.le_refl _)] at hff
    have hbl : ((s.data.toList.drop p).take (s.size - p)).all blkS = true := by
      rw [List.take_of_length_le (by rw [List.length_drop, len_bytes]; exact Nat.le_refl _)]; exact hff.2
    have HBA := Lib.hid (all_at s blkS p s.size (Nat.le_refl _) hbl)
    have HES : Hid (s.size ≤ s.size) := Nat.le_refl _
    have HPE : Hid (p ≤ s.size) := hp
    have HLT : Hid (j < j + 1) := hlt
    have q2 : ¬ (s.size : Int) < (p : Int) := by omega
    clear hff hbl hlt hjn HF
    go_upto_region 19 with fail
    go_loopw [11] (fun k9 W => ∃ k : Nat, p ≤ k ∧ k ≤ s.size ∧ k9 = .int .i64 (k : Int) ∧ Below V.heap.size V W) (fun k9 _ => s.size - (intOf k9).toNat)
    case atStart => exact ⟨p, Nat.le_refl _, HPE.out, rfl, HBJ.out⟩
    case round =>
      obtain ⟨k, hk0, hk1, rfl, hbk⟩ := hrel
      have HBK := Lib.hid hbk
      clear hbk
      by_cases hkl : k < s.size
      case neg =>
        obtain rfl : k = s.size := by omega
        go_wp2_with fail
        go_roundw
        case rel => exact ⟨j + 1, s.size, by have := HLT.out; omega, (by first | rfl | go_num), rfl, Nat.le_refl _, fun h => absurd h (by omega), HBK.out⟩
        case measure => have := HLT.out; simp [intOf] <;> omega
      have hkl' : (k : Int) < (s.size : Int) := by omega
      have hks : k < s.size := by have := HES.out; omega
      have hks' : (k : Int) < (s.size : Int) := by omega
      have HBL : Hid (∀ W, Calls Tryd.prog 16 #[.int .u8 (s[k].toNat : Int)] W fun e w' => e = .returned (.bool true) ∧ Below W.heap.size W w') := fun W => by
        have h := lx_Blank s[k] W
        rw [HBA.out k hks hk0 hkl] at h
        exact h
      go_wp2_with (go_at_call 16; (with_reducible refine (HBL.out _).mono ?_); rintro r V6 ⟨rfl, hb⟩; have HB6 := Lib.hid (HBK.out.trans (hb.mono HBK.out.size)); clear hb)
      go_roundw
      case rel => exact ⟨k + 1, by omega, by omega, by go_num, HB6.out⟩
      case measure => simp [intOf]; omega
end Go.Proofs.YtgdlkaoadlipmaaDoor
