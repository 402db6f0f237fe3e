/- Layer 6's laws: the chapter's examples. -/
import Derived.Test.YtmdfpkklnaekmaaDoorLaw06Spec
namespace Go.Proofs.YtmdfpkklnaekmaaDoor
open Go.RowKit
set_option maxRecDepth 1000000
set_option linter.unusedSimpArgs false

abbrev exR : Rw := setR (setR noR 3 7) 0 9
theorem ex_get : getR exR 3 = (7, true) := by decide
theorem ex_first : firstR exR = (0, 9, true) := by decide
theorem ex_len : cntR exR 32 = 2 := by decide
theorem ex_bits : bitsR exR 32 = 9 := by decide
theorem no_len : cntR noR 32 = 0 := by decide
theorem in64 (n : Int) (h0 : -9223372036854775808 ≤ n) (h1 : n ≤ 9223372036854775807) : In64 n := ⟨h0, h1⟩

section
variable {Tb : World → Prop} {At : World → Rw → Array Value → Prop} (S : RSpec Tb At)
include S
theorem live_get (W : World) (c : Array Value) (h : At W exR c) : Calls Tryd.prog 12 #[.agg c, .int .i64 3] W fun e W' => e = .returned (.tuple #[.int .i64 7, .bool true]) ∧ Below W.heap.size W W' := by
  have := S.get W exR c 3 h (in64 _ (by decide) (by decide))
  rw [ex_get] at this
  exact this
theorem live_first (W : World) (c : Array Value) (h : At W exR c) (hT : Tb W) : Calls Tryd.prog 26 #[.agg c] W fun e W' => e = .returned (.tuple #[.int .i64 0, .int .i64 9, .bool true]) ∧ Below W.heap.size W W' := by
  have := S.first W exR c h hT
  rw [ex_first] at this
  exact this
theorem live_len (W : World) (c : Array Value) (h : At W exR c) : Calls Tryd.prog 27 #[.agg c] W fun e W' => e = .returned (.int .i64 2) ∧ Below W.heap.size W W' := by
  have := S.len W exR c h
  rw [ex_len] at this
  exact this
theorem live_no (W : World) (c : Array Value) (h : At W noR c) : Calls Tryd.prog 27 #[.agg c] W fun e W' => e = .returned (.int .i64 0) ∧ Below W.heap.size W W' := by
  have := S.len W noR c h
  rw [no_len] at this
  exact this
theorem live_bits (W : World) (c : Array Value) (h : At W exR c) : Calls Tryd.prog 19 #[.agg c] W fun e W' => e = .returned (.int .u32 9) ∧ Below W.heap.size W W' := by
  have := S.bits W exR c h
  rw [ex_bits] at this
  exact this
set_option maxHeartbeats 4000000 in
theorem live6_true (w : World) (hT : Tb w) : Calls Tryd.prog 9 #[] w fun e w' => e = .returned (.bool true) ∧ Below w.heap.size w w' := by
  go_enter Tryd.func9, Tryd.ntmps9
  go_upto_region 2 with fail
  obtain ⟨W0, hW0⟩ : ∃ W0, w.alloc (.cells zeroS 27) = W0 := ⟨_, rfl⟩
  rw [hW0]
  have HX0 : Hid (W0.heap[w.heap.size]? = some (.cells zeroS 27 (0, 0))) := by show _ = _; rw [← hW0]; exact heap_alloc_last _ _
  have HB0 : Hid (Below w.heap.size w W0) := by show Below _ _ _; rw [← hW0]; exact Below.newly' _ _
  have HC0 := Lib.hid (S.zero W0)
  clear hW0
  go_wp2_with (first
    | (refine ld_if rfl 27 _ rfl (w.heap.size) rfl 27 _ _ _ HX0.out Tryd.underlying27 rfl (by first | exact srow_info | (rw [S.size HC0.out]; exact srow_info)) ?_)
    | (go_at_call 25; with_reducible refine (S.set W0 noR zeroS 3 7 HC0.out (in64 _ (by decide) (by decide)) (in64 _ (by decide) (by decide))).mono ?_; rintro e w1 ⟨c1, rfl, hc, hb⟩; have HC1 := Lib.hid hc; have HB1 := Lib.hid (HB0.out.trans (hb.mono HB0.out.size)); have HX1 := Lib.hid ((hb.block _ (Array.getElem?_eq_some_iff.1 HX0.out).1).trans HX0.out); clear hc hb)
    | (go_at_call 25; with_reducible refine (S.set w1 _ c1 0 9 HC1.out (in64 _ (by decide) (by decide)) (in64 _ (by decide) (by decide))).mono ?_; rintro e w2 ⟨c2, rfl, hc, hb⟩; have HC2 := Lib.hid hc; have HB2 := Lib.hid (HB1.out.trans (hb.mono HB1.out.size)); have HX2 := Lib.hid ((hb.block _ (Array.getElem?_eq_some_iff.1 HX1.out).1).trans HX1.out); clear hc hb)
    | (refine st_agg rfl 27 _ _ rfl w2.heap.size c2 rfl rfl 27 zeroS (heap_alloc_last w2 _) (by rw [S.size HC2.out]; exact srow_info) (by rw [S.size HC2.out]; rfl) (S.one HC2.out) ?_; intro w3 h3 k3; have HY3 := Lib.hid h3; have HB3 := Lib.hid ((Below.more HB2.out _).trans (k3.below HB2.out.size)); have HC3 := Lib.hid (S.but (S.later HC2.out (Below.newly' w2 _)) k3 (heap_alloc_last w2 _) (by decide)); have HX3 := Lib.hid (k3.other (((Below.newly' w2 _).block _ (Array.getElem?_eq_some_iff.1 HX2.out).1).trans HX2.out) (Nat.ne_of_lt (Array.getElem?_eq_some_iff.1 HX2.out).1)); clear h3 k3)
    | (refine ld_if rfl 27 _ rfl (w2.heap.size) rfl 27 _ _ _ HY3.out Tryd.underlying27 rfl (by first | exact srow_info | (rw [S.size HC3.out]; exact srow_info)) ?_)
    | (go_at_call 12; with_reducible refine (live_get S w3 c2 HC3.out).mono ?_; rintro e w4 ⟨rfl, hb⟩; have HB4 := Lib.hid (HB3.out.trans (hb.mono HB3.out.size)); have HX4 := Lib.hid ((hb.block _ (Array.getElem?_eq_some_iff.1 HX3.out).1).trans HX3.out); have HY4 := Lib.hid ((hb.block _ (Array.getElem?_eq_some_iff.1 HY3.out).1).trans HY3.out); have HC4 := Lib.hid (S.later HC3.out hb); clear hb)
    | (refine ld_if rfl 27 _ rfl (w2.heap.size) rfl 27 _ _ _ HY4.out Tryd.underlying27 rfl (by first | exact srow_info | (rw [S.size HC4.out]; exact srow_info)) ?_)
    | (go_at_call 26; with_reducible refine (live_first S w4 c2 HC4.out (S.tab hT HB4.out)).mono ?_; rintro e w5 ⟨rfl, hb⟩; have HB5 := Lib.hid (HB4.out.trans (hb.mono HB4.out.size)); have HX5 := Lib.hid ((hb.block _ (Array.getElem?_eq_some_iff.1 HX4.out).1).trans HX4.out); have HY5 := Lib.hid ((hb.block _ (Array.getElem?_eq_some_iff.1 HY4.out).1).trans HY4.out); have HC5 := Lib.hid (S.later HC4.out hb); clear hb)
    | (refine ld_if rfl 27 _ rfl (w2.heap.size) rfl 27 _ _ _ HY5.out Tryd.underlying27 rfl (by first | exact srow_info | (rw [S.size HC5.out]; exact srow_info)) ?_)
    | (go_at_call 27; with_reducible refine (live_len S w5 c2 HC5.out).mono ?_; rintro e w6 ⟨rfl, hb⟩; have HB6 := Lib.hid (HB5.out.trans (hb.mono HB5.out.size)); have HX6 := Lib.hid ((hb.block _ (Array.getElem?_eq_some_iff.1 HX5.out).1).trans HX5.out); have HY6 := Lib.hid ((hb.block _ (Array.getElem?_eq_some_iff.1 HY5.out).1).trans HY5.out); have HC6 := Lib.hid (S.later HC5.out hb); clear hb)
    | (refine ld_if rfl 27 _ rfl (w2.heap.size) rfl 27 _ _ _ HY6.out Tryd.underlying27 rfl (by first | exact srow_info | (rw [S.size HC6.out]; exact srow_info)) ?_)
    | (go_at_call 19; with_reducible refine (live_bits S w6 c2 HC6.out).mono ?_; rintro e w7 ⟨rfl, hb⟩; have HB7 := Lib.hid (HB6.out.trans (hb.mono HB6.out.size)); have HX7 := Lib.hid ((hb.block _ (Array.getElem?_eq_some_iff.1 HX6.out).1).trans HX6.out); have HY7 := Lib.hid ((hb.block _ (Array.getElem?_eq_some_iff.1 HY6.out).1).trans HY6.out); have HC7 := Lib.hid (S.later HC6.out hb); clear hb)
    | (refine ld_if rfl 27 _ rfl (w.heap.size) rfl 27 _ _ _ HX7.out Tryd.underlying27 rfl (by first | exact srow_info | (rw [S.size (S.zero w7)]; exact srow_info)) ?_)
    | (go_at_call 27; with_reducible refine (live_no S w7 zeroS (S.zero w7)).mono ?_; rintro e w8 ⟨rfl, hb⟩; have HB8 := Lib.hid (HB7.out.trans (hb.mono HB7.out.size)); clear hb))
  go_ret
  exact ⟨rfl, HB8.out⟩
end
end Go.Proofs.YtmdfpkklnaekmaaDoor
