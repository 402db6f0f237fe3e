/- Layer 1: the law of digits: its walk returns true. -/
import Derived.Test.YtjfnodpchjkkmaaDoorLaw01Live
import Derived.Test.YtjfnodpchjkkmaaDoorRef01Text
import Derived.Test.YtjfnodpchjkkmaaDoorRef01Parse
namespace Go.Proofs.YtjfnodpchjkkmaaDoor
open Go.RowKit

set_option maxHeartbeats 4000000 in
theorem numDigits_walk (n : Int) (s : ByteArray) (hn : InR n) (hs : s.size ≤ maxLen) (w : World) (htab : Tab w) : Calls Tryd.prog 6 #[.int .i64 n, .string s] w fun e w' => e = .returned (.bool true) ∧ Below w.heap.size w w' := by
  have HT := Lib.hid htab
  clear htab
  have hs2 := hs
  unfold maxLen at hs2
  have HS := Lib.hid hs
  clear hs
  by_cases hl : (200 : Int) < s.size
  · go_enter Tryd.func6, Tryd.ntmps6
    go_wp2_with fail
    refine (live_any _ HT.out).mono ?_
    rintro e w1 ⟨rfl, hb1⟩
    have H1 := Lib.hid hb1; clear hb1
    go_wp2_with fail
    refine (live_any _ (HT.out.below H1.out)).mono ?_
    rintro e w2 ⟨rfl, hb2⟩
    have H2 := Lib.hid hb2; clear hb2
    go_wp2_with fail
    go_ret
    exact ⟨rfl, Below.chain H1.out H2.out⟩
  · go_enter Tryd.func6, Tryd.ntmps6
    go_wp2_with fail
    refine (live_any _ HT.out).mono ?_
    rintro e w1 ⟨rfl, hb1⟩
    have H1 := Lib.hid hb1; clear hb1
    go_wp2_with fail
    refine (num_Parse _ _ HS.out).mono ?_
    rintro e w' ⟨rfl, rfl⟩
    go_wp2_with fail
    refine (ref_Parse _ _ HS.out).mono ?_
    rintro e w' ⟨rfl, rfl⟩
    go_wp2_with fail
    refine (num_Digits _ _ hn (HT.out.below H1.out)).mono ?_
    rintro e w2 ⟨rfl, hb2⟩
    have H2 := Lib.hid hb2; clear hb2
    go_wp2_with fail
    refine (ref_Digits _ hn _).mono ?_
    rintro e w3 ⟨rfl, hb3⟩
    have H3 := Lib.hid hb3; clear hb3
    go_wp2_with fail
    go_ret
    exact ⟨rfl, Below.chain H1.out (Below.chain H2.out H3.out)⟩
end Go.Proofs.YtjfnodpchjkkmaaDoor
