/- Layer 4's law: the chapter's examples. -/
import Derived.Test.YtlgjmmhofklneaaDoorLaw04Made
import Derived.Test.YtlgjmmhofklneaaDoorErrIs2
namespace Go.Proofs.YtlgjmmhofklneaaDoor
open Go.RowKit
set_option maxRecDepth 1000000

theorem in_small (n : Int) (h0 : 0 ≤ n) (h1 : n ≤ 1000) : -9223372036854775808 ≤ n ∧ n ≤ 9223372036854775807 := ⟨by omega, by omega⟩
theorem errS_live : errS 2 [7, 3] = [101, 114, 114, 111, 114, 32, 50, 32, 97, 116, 32, 55, 32, 97, 116, 32, 51] := by
  simp only [errS, atsS, atS, List.flatMap_cons, List.flatMap_nil]
  rw [itoa_small 2 (by decide) (by decide), itoa_small 7 (by decide) (by decide), itoa_small 3 (by decide) (by decide)]
  decide +kernel
/-- Two numbers, just laid. -/
theorem ints_two (w : World) (a b : Int) (ha : -9223372036854775808 ≤ a ∧ a ≤ 9223372036854775807) (hb : -9223372036854775808 ≤ b ∧ b ≤ 9223372036854775807) :
    IntsAt (w.alloc (.cells #[.int .i64 a, .int .i64 b] 3)) (.slice (some ⟨w.heap.size, 0, none⟩) 2 2) [a, b] :=
  (Ints.lit (B := 0) (w := w) (Nat.zero_le _) #[.int .i64 a, .int .i64 b] [a, b] rfl (by simp)).reads (by simpa using ⟨ha, hb⟩)

set_option maxHeartbeats 4000000 in
theorem live_true (w : World) (hg : ET w) (ht : Tab w) : Calls Tryd.prog 9 #[] w fun e w' => e = .returned (.bool true) ∧ Below w.heap.size w w' := by
  have HG := Lib.hid hg
  have HT := Lib.hid ht
  have i2 := Lib.hid (in_small 2 (by decide) (by decide))
  have i3 := Lib.hid (in_small 3 (by decide) (by decide))
  have i7 := Lib.hid (in_small 7 (by decide) (by decide))
  clear hg ht
  go_enter Tryd.func9, Tryd.ntmps9
  go_wp2_with fail
  refine (fault_New 2 3 w (by decide) i2.out i3.out).mono ?_
  rintro e w1 ⟨b1, rfl, _, hch, hb⟩
  have C1 := Lib.hid hch
  have B1 := Lib.hid hb
  clear hch hb
  go_wp2_with fail
  refine (fault_In _ _ _ 7 _ C1.out (Nat.le_refl _) i7.out).mono ?_
  rintro e w2 ⟨b2, rfl, _, _, _, hch, hb⟩
  have C2 := Lib.hid hch
  have B2 := Lib.hid (B1.out.trans (hb.mono B1.out.size))
  clear hch hb C1 B1
  go_wp2_with fail
  refine (fault_Last (l := [7]) _ _ 3 _ (HG.out.below B2.out) C2.out (Nat.le_refl _) (by simp)).mono ?_
  rintro e w3 ⟨rfl, hb⟩
  have C3 := Lib.hid (C2.out.later hb hb.size)
  have B3 := Lib.hid (B2.out.trans (hb.mono B2.out.size))
  clear hb C2 B2
  go_wp2_with fail
  refine (fault_Text _ _ _ _ (HG.out.below B3.out) (HT.out.below B3.out) C3.out (Nat.le_refl _) (by simp)).mono ?_
  rintro e w4 ⟨rfl, hb⟩
  have C4 := Lib.hid (C3.out.later hb hb.size)
  have B4 := Lib.hid (B3.out.trans (hb.mono B3.out.size))
  clear hb C3 B3
  rw [show codeS (some 2) = 2 from rfl, errS_live]
  go_wp2_with fail
  refine (fault_Code _ _ _ _ (HG.out.below B4.out) C4.out (Nat.le_refl _)).mono ?_
  rintro e w5 ⟨rfl, hb⟩
  have C5 := Lib.hid (C4.out.later hb hb.size)
  have B5 := Lib.hid (B4.out.trans (hb.mono B4.out.size))
  clear hb C4 B4
  rw [show codeS (some 2) = 2 from rfl]
  go_wp2_with fail
  refine (fault_Where _ _ _ _ (HG.out.below B5.out) C5.out (Nat.le_refl _) (by simp)).mono ?_
  rintro e w6 ⟨v, rfl, hi, hb⟩
  have HI := Lib.hid (hi.reads C5.out.range.1)
  have B6 := Lib.hid (B5.out.trans (hb.mono B5.out.size))
  clear hi hb C5 B5
  go_wp2_with fail
  refine (ref_Same _ _ _ _ _ (HI.out.later (Below.newly' _ _)) (ints_two w6 7 3 i7.out i3.out)).mono ?_
  rintro e w7 ⟨rfl, hb⟩
  have B7 := Lib.hid ((Below.more B6.out _).trans (hb.mono (Below.more B6.out _).size))
  clear hb HI B6
  rw [show decide (([7, 3] : List Int) = [7, 3]) = true by decide]
  go_wp2_with fail
  refine (fault_New_ok 5 _).mono ?_
  rintro e w8 ⟨rfl, rfl⟩
  go_wp2_with fail
  refine (fault_Text_nil _).mono ?_
  rintro e w9 ⟨rfl, rfl⟩
  go_wp2_with fail
  go_ret
  exact ⟨rfl, B7.out⟩
end Go.Proofs.YtlgjmmhofklneaaDoor
