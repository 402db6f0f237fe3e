/- What layer 13's laws want of the world: the table of escapes and the handle of errors as they are laid; the document's comparison of two lists of texts. -/
import Derived.Test.YtgdlkaoadlipmaaGreatDoorLaw13A
import Derived.Test.YtgdlkaoadlipmaaGreatDoorPkH
import Derived.Test.YtgdlkaoadlipmaaGreatDoorSg
import Derived.Test.YtgdlkaoadlipmaaGreatDoorEsc
import Derived.Deep.QuietTactic
namespace Go.Proofs.YtgdlkaoadlipmaaGreatDoor
open Go.RowKit
set_option maxRecDepth 1000000
set_option linter.unusedSimpArgs false

/-- What each of the laws wants: the table of escapes, the handle of errors, the table of signs. -/
def T13 (w : World) : Prop := Esc w ∧ ET w ∧ Sg w
theorem T13.below {w w' : World} (h : T13 w) (hb : Below w.heap.size w w') : T13 w' := ⟨h.1.below hb, h.2.1.below hb, h.2.2.below hb⟩
theorem T13.et {w : World} (h : T13 w) : ET w := h.2.1
theorem T13.sg {w : World} (h : T13 w) : Sg w := h.2.2
def signsB : List ByteArray := signsS.map fun x => ⟨x.toArray⟩
set_option maxHeartbeats 2000000 in
theorem rf_Words13 {S S' : Nat → Prop} (va vb : Value) (ks : List ByteArray) (w : World) (ha : CutS S w va ks) (hb : CutS S' w vb ks) (hn : ks.length ≤ 1000000) :
    Calls Tryz.prog 7 #[va, vb] w fun e w' => e = .returned (.bool true) ∧ Below w.heap.size w w' := by
  have HA := Lib.hid ha
  have HB := Lib.hid hb
  obtain ⟨a1, c1, rfl, _⟩ := ha.shape
  obtain ⟨a2, c2, rfl, _⟩ := hb.shape
  obtain ⟨N, hN⟩ : ∃ N, N = ks.length := ⟨_, rfl⟩
  rw [← hN]
  have HN := Lib.hid hN
  have hn6 : (N : Int) ≤ 1000000 := by omega
  clear ha hb hN hn
  go_enter Tryz.func7, Tryz.ntmps7
  go_wp2_with fail
  go_loopw [13] (fun i wl => ∃ k : Nat, i = .int .i64 (k : Int) ∧ k ≤ N ∧ Hid (Below w.heap.size w wl)) (fun i _ => N - (intOf i).toNat)
  case atStart => exact ⟨0, rfl, Nat.zero_le _, Below.refl _ _⟩
  case round =>
    obtain ⟨k, rfl, hk, HBK⟩ := hrel
    by_cases hlt : k < N
    · have hlt' : (k : Int) < N := by omega
      have hkl : k < ks.length := by rw [← HN.out]; exact hlt
      obtain ⟨g1, o1, d1, e1, _, hc1⟩ := (HA.out.later HBK.out).cell hkl
      obtain ⟨g2, o2, d2, e2, _, hc2⟩ := (HB.out.later HBK.out).cell hkl
      simp only [Value.slice.injEq] at e1 e2
      obtain ⟨rfl, _, rfl⟩ := e1
      obtain ⟨rfl, _, rfl⟩ := e2
      obtain ⟨s, hs⟩ : ∃ s, s = ks[k] := ⟨_, rfl⟩
      rw [← hs] at hc1 hc2
      have HLT := Lib.hid hlt
      clear hs hkl
      have HC : Hid (wr.cell? ⟨g1, o1 + k, none⟩ = some (.string s) ∧ wr.cell? ⟨g2, o2 + k, none⟩ = some (.string s)) := ⟨hc1, hc2⟩
      go_upto_region 6 with fail
      go_quiet (fail)
      go_wp2_with fail
      go_roundw
      case rel => exact ⟨k + 1, by simp, by have := HLT.out; omega, Below.drewMany HBK.out _⟩
      case measure => have := HLT.out; simp [intOf]; omega
    · obtain rfl : k = N := by omega
      go_wp2_with fail
      go_ret
      exact ⟨rfl, HBK.out⟩
end Go.Proofs.YtgdlkaoadlipmaaGreatDoor
