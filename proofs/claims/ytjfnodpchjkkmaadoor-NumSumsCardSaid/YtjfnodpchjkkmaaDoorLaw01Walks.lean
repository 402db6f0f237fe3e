/- Layer 1: each law's walk: it returns true. -/
import Derived.Test.YtjfnodpchjkkmaaDoorLaw01Live
namespace Go.Proofs.YtjfnodpchjkkmaaDoor
open Go.RowKit

set_option maxHeartbeats 2000000 in
theorem numSums_walk (a b : Int) (ha : InR a) (hb : InR b) (w : World) (htab : Tab w) : Calls Tryd.prog 3 #[.int .i64 a, .int .i64 b] w fun e w' => e = .returned (.bool true) ∧ Below w.heap.size w w' := by
  have HT := Lib.hid htab
  clear htab
  go_enter Tryd.func3, Tryd.ntmps3
  go_wp2_with (first
    | (go_at_call 10; refine (num_Add _ _ _ ha hb).mono ?_; rintro e w' ⟨rfl, rfl⟩)
    | (go_at_call 11; refine (ref_Add _ _ _ ha hb).mono ?_; rintro e w' ⟨rfl, rfl⟩)
    | (go_at_call 12; refine (num_Sub _ _ _ ha hb).mono ?_; rintro e w' ⟨rfl, rfl⟩)
    | (go_at_call 13; refine (ref_Sub _ _ _ ha hb).mono ?_; rintro e w' ⟨rfl, rfl⟩)
    | (go_at_call 14; refine (live_any _ HT.out).mono ?_; rintro e w1 ⟨rfl, hb1⟩; have H1 := Lib.hid hb1; clear hb1))
  go_ret
  exact ⟨rfl, H1.out⟩
end Go.Proofs.YtjfnodpchjkkmaaDoor
