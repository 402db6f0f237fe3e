/- Package lex: the list of all signs. -/
import Derived.Test.YtgdlkaoadlipmaaGreatDoorLaw13T
namespace Go.Proofs.YtgdlkaoadlipmaaGreatDoor
open Go.RowKit
set_option maxRecDepth 1000000
set_option linter.unusedSimpArgs false
theorem sg_below {B : Nat} {v : Value} {ps : List ByteArray} {w w1 : World} (h : Strs B v ps w) (hg : w.grownBy w1 v.ownBlock) : Below B w w1 :=
  (Below.refl B w).grown hg h.2 (fun k hk => strs_low h k hk)
set_option maxHeartbeats 2000000 in
theorem lx_Signs (w : World) (hT : Sg w) : Calls Tryz.prog 8 #[] w fun e w' => ∃ v, e = .returned v ∧ CutS (fun _ => True) w' v signsB ∧ Below w.heap.size w w' := by
  obtain ⟨tt, fr, hg⟩ := hT.heap
  have HG : Hid (∀ W, Below w.heap.size w W → W.heap[0]? = some (.cells sgC tt fr)) := fun W hb => (hb.block _ (Array.getElem?_eq_some_iff.1 hg).1).trans hg
  clear hT hg
  go_enter Tryz.func8, Tryz.ntmps8
  go_wp2_with (first
    | (refine strs_make (B := w.heap.size) rfl _ _ rfl .i64 .i64 _ 23 rfl rfl rfl (by omega) (Nat.le_refl _) ?_; intro w4 hi4 hb4; have HI := Lib.hid hi4; have HW := Lib.hid hb4; clear hi4 hb4)
    | (refine wpList_load_row rfl 40 _ rfl 0 rfl tt _ fr _ (HG.out _ HW.out) Tryz.underlying40 rfl sg_size ?_))
  go_loopw [1, 6] (fun v i W => ∃ j : Nat, j ≤ 23 ∧ i = .int .i64 (j : Int) ∧ Strs w.heap.size v (signsB.take j) W ∧ Below w.heap.size w W) (fun _ i _ => 23 - (intOf i).toNat)
  case atStart => exact ⟨0, by omega, rfl, HI.out, HW.out⟩
  case round =>
    obtain ⟨j, hj, rfl, hs, hw⟩ := hrel
    clear HI HW
    have HS := Lib.hid hs
    have HW := Lib.hid hw
    clear hs hw
    by_cases hjl : j < 23
    case neg =>
      obtain rfl : j = 23 := by omega
      go_wp2_with fail
      go_ret
      exact ⟨_, rfl, HS.out.cut, HW.out⟩
    have hjl' : (j : Int) < 23 := by omega
    have hix := fun W => sg_ix j hjl W
    obtain ⟨X, hX⟩ : ∃ X : ByteArray, X = ⟨(signsS[j]'(by simpa [signsS] using hjl)).toArray⟩ := ⟨_, rfl⟩
    rw [← hX] at hix
    have HE : Hid (signsB.take (j + 1) = signsB.take j ++ [X]) := by
      have hl : j < signsB.length := by simpa [signsB, signsS] using hjl
      show _ = _
      rw [List.take_succ_eq_append_getElem hl, hX]
      simp [signsB]
    have HL : Hid ((signsB.take j).length ≤ 23) := by show _ ≤ _; rw [List.length_take]; omega
    clear hX
    go_wp2_with (refine strs_list rfl _ _ rfl rfl (HS.out.later (Below.newly' _ _)) rfl (cutS_lit (heap_alloc_last _ _)) (by have := HL.out; simp; omega) ?_; intro v6 w6 hs6 hg6; have HS6 := Lib.hid hs6; have HW6 := Lib.hid (HW.out.trans (((Below.newly' wr _).mono HW.out.size).trans (sg_below (HS.out.later (Below.newly' _ _)) hg6))); clear hs6 hg6)
    go_roundw
    case rel => exact ⟨j + 1, by omega, by go_num, by rw [HE.out]; exact HS6.out, HW6.out⟩
    case measure => simp [intOf]; omega
end Go.Proofs.YtgdlkaoadlipmaaGreatDoor
