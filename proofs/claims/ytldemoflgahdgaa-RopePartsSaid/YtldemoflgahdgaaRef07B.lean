/- Layer 7: the document's own answers: Set, Keep, Levels. -/
import Derived.Test.YtldemoflgahdgaaRef07
namespace Go.Proofs.Ytldemoflgahdgaa
open Go.RowKit
set_option maxRecDepth 1000000
set_option linter.unusedSimpArgs false

set_option maxHeartbeats 1000000 in
theorem ref_Set7 {S : Nat → Prop} (v : Value) (l : List Int) (i x : Int) (w : World) (hl : Lst S w v l) (hlen : l.length ≤ 1000000) : Calls Try.prog 41 #[v, .int .i64 i, .int .i64 x] w fun e w' => ∃ v', e = .returned (.tuple #[v', .int .i64 (if 0 ≤ i ∧ i < l.length then 0 else 4)]) ∧ (0 ≤ i ∧ i < l.length → Lst (fun _ => True) w' v' (l.set i.toNat x)) ∧ Below w.heap.size w w' := by
  by_cases hi : 0 ≤ i ∧ i < l.length
  · simp only [if_pos hi]
    obtain ⟨j, rfl⟩ : ∃ j : Nat, i = (j : Int) := ⟨i.toNat, by omega⟩
    have hj : j < l.length := by omega
    rw [Int.toNat_natCast]
    have HC := Lib.hid (ref_Copied v l w hl hlen)
    obtain ⟨a, c, rfl, _⟩ := hl
    have hj' : (j : Int) < l.length := by omega
    have HJ := Lib.hid hj
    clear hi hj
    go_enter Try.func41, Try.ntmps41
    go_wp2_with (first
      | (go_at_call 44; with_reducible refine HC.out.mono ?_; rintro e w2 ⟨v2, rfl, hi2, hb2⟩; obtain ⟨g2, c2, cs2, rfl, hcap2, hg0, hg2, hsz2, hcs2⟩ := hi2.pos (by have := HJ.out; omega); have HG2 := Lib.hid hg2; have HCS2 := Lib.hid hcs2; have HB2 := Lib.hid hb2; have HG0 := Lib.hid hg0; have HSZ2 := Lib.hid hsz2; clear hg2 hcs2 hb2 hi2 hg0 hsz2)
      | (refine st_cell rfl 3 _ _ rfl g2 j (.int .i64 x) rfl rfl rfl 3 cs2 HG2.out int_size (by have := HSZ2.out; have := HJ.out; omega) ?_; intro w3 h3 k3))
    go_ret2
    refine ⟨_, rfl, fun _ => ⟨_, c2, by rw [List.length_set]; rfl, by rw [List.length_set]; exact hcap2, .inr ⟨g2, _, (0, 0), rfl, trivial, h3, fun q hq => ?_⟩⟩, HB2.out.trans (k3.below HG0.out)⟩
    rw [List.length_set] at hq
    rw [Array.getElem?_setIfInBounds]
    by_cases e : j = q
    · subst e
      rw [if_pos rfl, if_pos (by have := HSZ2.out; omega)]
      simp [List.getD_eq_getElem?_getD, hq]
    · rw [if_neg e, HCS2.out q hq, List.getD_eq_getElem?_getD, List.getD_eq_getElem?_getD, List.getElem?_set_ne e]
  · simp only [if_neg hi]
    obtain ⟨a, c, rfl, _⟩ := hl
    have HI := Lib.hid hi
    by_cases h0 : i < 0
    · clear hi
      go_enter Try.func41, Try.ntmps41
      go_wp2_with fail
      go_ret2
      exact ⟨_, rfl, fun h => by have := HI.out; omega, Below.refl _ _⟩
    · have h1 : (l.length : Int) ≤ i := by omega
      clear hi
      go_enter Try.func41, Try.ntmps41
      go_wp2_with fail
      go_ret2
      exact ⟨_, rfl, fun h => by have := HI.out; omega, Below.refl _ _⟩
end Go.Proofs.Ytldemoflgahdgaa
