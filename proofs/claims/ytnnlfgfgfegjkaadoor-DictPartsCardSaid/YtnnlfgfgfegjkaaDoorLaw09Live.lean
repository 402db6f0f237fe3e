/- Layer 9's laws: the chapter's examples. (written by tools/gen09/live9.py) -/
import Derived.Test.YtnnlfgfgfegjkaaDoorLaw09A
namespace Go.Proofs.YtnnlfgfgfegjkaaDoor
open Go.RowKit
set_option maxRecDepth 1000000
set_option linter.unusedSimpArgs false

abbrev kA : ByteArray := ⟨#[97]⟩
abbrev kB : ByteArray := ⟨#[98]⟩
abbrev kX : ByteArray := ⟨#[120]⟩
theorem live_two : insE (insE [] kB 2) kA 1 = [(kA, 1), (kB, 2)] := by decide
theorem live_get : getE [(kA, (1 : Int)), (kB, 2)] kB = some 2 := by decide
theorem live_none (hs : ByteArray → Nat) : shapeF hs 13 (keysE []) = [40, 41] := by
  rw [shape_succ]
  have e : ((List.range 32).flatMap fun i => pieceF hs 12 i (kch hs (12 - 12) i (keysE []))) = [] := by
    rw [List.flatMap_eq_nil_iff]
    intro i _
    rfl
  rw [e]
  rfl
theorem live_hs : hsN 0 0 kX = 0 := by
  unfold hsN narrowN
  rw [show (min (max (0 : Int) 0) 64).toNat = 0 from by decide, Nat.pow_zero, Nat.mod_one]
theorem itS_zero : itS 0 = [48] := by
  unfold itS
  first | rfl | decide | kernel_rfl
theorem live_one : shapeF (hsN 0 0) 13 (keysE (insE [] kX 1)) = [40, 48, 46, 41] := by
  rw [shape_succ]
  have e : ∀ i ∈ List.range 32, pieceF (hsN 0 0) 12 i (kch (hsN 0 0) (12 - 12) i (keysE (insE [] kX 1))) = if i = 0 then [48, 46] else [] := fun i _ => by
    have hk : keysE (insE [] kX 1) = [kX] := rfl
    have hc : kch (hsN 0 0) (12 - 12) i [kX] = if i = 0 then [kX] else [] := by
      unfold kch
      by_cases h : i = 0
      · subst h
        simp [live_hs, chunkN]
      · have h' : ¬ 0 = i := fun e => h e.symm
        simp [live_hs, chunkN, h, h']
    rw [hk, hc]
    by_cases h : i = 0
    · subst h
      rw [if_pos rfl, if_pos rfl]
      show itS 0 ++ [46] = [48, 46]
      rw [itS_zero]
      rfl
    · simp [h, pieceF]
  rw [fm_congr e]
  decide
end Go.Proofs.YtnnlfgfgfegjkaaDoor
