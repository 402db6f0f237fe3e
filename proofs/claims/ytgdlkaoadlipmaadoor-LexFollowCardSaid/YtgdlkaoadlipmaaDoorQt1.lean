/- The contracts of package quote's small functions: the order of texts, digits, letters, and the table's two look-ups. -/
import Derived.Test.YtgdlkaoadlipmaaDoorPkF
import Derived.Test.YtgdlkaoadlipmaaDoorEsc
import Derived.Test.YtgdlkaoadlipmaaDoorQtO
import Derived.Test.YtgdlkaoadlipmaaDoorShelf
import Derived.Handy
namespace Go.Proofs.YtgdlkaoadlipmaaDoor
open Go.RowKit

set_option maxHeartbeats 2000000 in
theorem q_letterOf_x (c : Int) (w : World) (h : Esc w) (h1 : ((34 : Int) == c) = false) (h2 : ((92 : Int) == c) = false) (h3 : ((10 : Int) == c) = false) (h4 : ((9 : Int) == c) = false) (h5 : ((13 : Int) == c) = false) : Calls Tryd.prog 72 #[.int .u8 c] w fun e w' => e = .returned (.tuple #[.int .u8 0, .bool false]) ∧ Below w.heap.size w w' := by
  obtain ⟨tt, fr, hg⟩ := h.heap
  have HG := Lib.hid hg
  have i0 := esc_i0
  have i1 := esc_i1
  have i2 := esc_i2
  have i3 := esc_i3
  have i4 := esc_i4
  have i5 := esc_i5
  clear h hg
  rcases Bool.eq_false_or_eq_true ((47 : Int) == c) with h6 | h6
  all_goals
    go_enter Tryd.func72, Tryd.ntmps72
    go_wp2_with (refine wpList_load_row rfl 121 _ rfl 2 rfl tt _ fr _ HG.out Tryd.underlying121 rfl (by kernel_rfl) ?_)
    refine wp_loop_rounds 7 ?_
    repeat (rw [rounds_succ]; go_wp2_with fail)
    go_ret2
    exact ⟨rfl, by go_grown⟩
set_option maxHeartbeats 2000000 in
theorem q_letterOf_34 (w : World) (h : Esc w) : Calls Tryd.prog 72 #[.int .u8 34] w fun e w' => e = .returned (.tuple #[.int .u8 34, .bool true]) ∧ Below w.heap.size w w' := by
  obtain ⟨tt, fr, hg⟩ := h.heap
  have HG := Lib.hid hg
  have i0 := esc_i0
  have i1 := esc_i1
  have i2 := esc_i2
  have i3 := esc_i3
  have i4 := esc_i4
  have i5 := esc_i5
  clear h hg
  go_enter Tryd.func72, Tryd.ntmps72
  go_wp2_with (refine wpList_load_row rfl 121 _ rfl 2 rfl tt _ fr _ HG.out Tryd.underlying121 rfl (by kernel_rfl) ?_)
  refine wp_loop_rounds 7 ?_
  repeat (rw [rounds_succ]; go_wp2_with fail)
  go_ret2
  exact ⟨rfl, by go_grown⟩
set_option maxHeartbeats 2000000 in
theorem q_letterOf_92 (w : World) (h : Esc w) : Calls Tryd.prog 72 #[.int .u8 92] w fun e w' => e = .returned (.tuple #[.int .u8 92, .bool true]) ∧ Below w.heap.size w w' := by
  obtain ⟨tt, fr, hg⟩ := h.heap
  have HG := Lib.hid hg
  have i0 := esc_i0
  have i1 := esc_i1
  have i2 := esc_i2
  have i3 := esc_i3
  have i4 := esc_i4
  have i5 := esc_i5
  clear h hg
  go_enter Tryd.func72, Tryd.ntmps72
  go_wp2_with (refine wpList_load_row rfl 121 _ rfl 2 rfl tt _ fr _ HG.out Tryd.underlying121 rfl (by kernel_rfl) ?_)
  refine wp_loop_rounds 7 ?_
  repeat (rw [rounds_succ]; go_wp2_with fail)
  go_ret2
  exact ⟨rfl, by go_grown⟩
set_option maxHeartbeats 2000000 in
theorem q_letterOf_10 (w : World) (h : Esc w) : Calls Tryd.prog 72 #[.int .u8 10] w fun e w' => e = .returned (.tuple #[.int .u8 110, .bool true]) ∧ Below w.heap.size w w' := by
  obtain ⟨tt, fr, hg⟩ := h.heap
  have HG := Lib.hid hg
  have i0 := esc_i0
  have i1 := esc_i1
  have i2 := esc_i2
  have i3 := esc_i3
  have i4 := esc_i4
  have i5 := esc_i5
  clear h hg
  go_enter Tryd.func72, Tryd.ntmps72
  go_wp2_with (refine wpList_load_row rfl 121 _ rfl 2 rfl tt _ fr _ HG.out Tryd.underlying121 rfl (by kernel_rfl) ?_)
  refine wp_loop_rounds 7 ?_
  repeat (rw [rounds_succ]; go_wp2_with fail)
  go_ret2
  exact ⟨rfl, by go_grown⟩
set_option maxHeartbeats 2000000 in
theorem q_letterOf_9 (w : World) (h : Esc w) : Calls Tryd.prog 72 #[.int .u8 9] w fun e w' => e = .returned (.tuple #[.int .u8 116, .bool true]) ∧ Below w.heap.size w w' := by
  obtain ⟨tt, fr, hg⟩ := h.heap
  have HG := Lib.hid hg
  have i0 := esc_i0
  have i1 := esc_i1
  have i2 := esc_i2
  have i3 := esc_i3
  have i4 := esc_i4
  have i5 := esc_i5
  clear h hg
  go_enter Tryd.func72, Tryd.ntmps72
  go_wp2_with (refine wpList_load_row rfl 121 _ rfl 2 rfl tt _ fr _ HG.out Tryd.underlying121 rfl (by kernel_rfl) ?_)
  refine wp_loop_rounds 7 ?_
  repeat (rw [rounds_succ]; go_wp2_with fail)
  go_ret2
  exact ⟨rfl, by go_grown⟩
set_option maxHeartbeats 2000000 in
theorem q_letterOf_13 (w : World) (h : Esc w) : Calls Tryd.prog 72 #[.int .u8 13] w fun e w' => e = .returned (.tuple #[.int .u8 114, .bool true]) ∧ Below w.heap.size w w' := by
  obtain ⟨tt, fr, hg⟩ := h.heap
  have HG := Lib.hid hg
  have i0 := esc_i0
  have i1 := esc_i1
  have i2 := esc_i2
  have i3 := esc_i3
  have i4 := esc_i4
  have i5 := esc_i5
  clear h hg
  go_enter Tryd.func72, Tryd.ntmps72
  go_wp2_with (refine wpList_load_row rfl 121 _ rfl 2 rfl tt _ fr _ HG.out Tryd.underlying121 rfl (by kernel_rfl) ?_)
  refine wp_loop_rounds 7 ?_
  repeat (rw [rounds_succ]; go_wp2_with fail)
  go_ret2
  exact ⟨rfl, by go_grown⟩
set_option maxHeartbeats 2000000 in
theorem q_meaningOf_x (c : Int) (w : World) (h : Esc w) (h1 : ((34 : Int) == c) = false) (h2 : ((92 : Int) == c) = false) (h3 : ((110 : Int) == c) = false) (h4 : ((116 : Int) == c) = false) (h5 : ((114 : Int) == c) = false) (h6 : ((47 : Int) == c) = false) : Calls Tryd.prog 65 #[.int .u8 c] w fun e w' => e = .returned (.tuple #[.int .u8 0, .bool false]) ∧ Below w.heap.size w w' := by
  obtain ⟨tt, fr, hg⟩ := h.heap
  have HG := Lib.hid hg
  have i0 := esc_i0
  have i1 := esc_i1
  have i2 := esc_i2
  have i3 := esc_i3
  have i4 := esc_i4
  have i5 := esc_i5
  clear h hg
  go_enter Tryd.func65, Tryd.ntmps65
  go_wp2_with (refine wpList_load_row rfl 121 _ rfl 2 rfl tt _ fr _ HG.out Tryd.underlying121 rfl (by kernel_rfl) ?_)
  refine wp_loop_rounds 7 ?_
  repeat (rw [rounds_succ]; go_wp2_with fail)
  go_ret2
  exact ⟨rfl, by go_grown⟩
set_option maxHeartbeats 2000000 in
theorem q_meaningOf_34 (w : World) (h : Esc w) : Calls Tryd.prog 65 #[.int .u8 34] w fun e w' => e = .returned (.tuple #[.int .u8 34, .bool true]) ∧ Below w.heap.size w w' := by
  obtain ⟨tt, fr, hg⟩ := h.heap
  have HG := Lib.hid hg
  have i0 := esc_i0
  have i1 := esc_i1
  have i2 := esc_i2
  have i3 := esc_i3
  have i4 := esc_i4
  have i5 := esc_i5
  clear h hg
  go_enter Tryd.func65, Tryd.ntmps65
  go_wp2_with (refine wpList_load_row rfl 121 _ rfl 2 rfl tt _ fr _ HG.out Tryd.underlying121 rfl (by kernel_rfl) ?_)
  refine wp_loop_rounds 7 ?_
  repeat (rw [rounds_succ]; go_wp2_with fail)
  go_ret2
  exact ⟨rfl, by go_grown⟩
set_option maxHeartbeats 2000000 in
theorem q_meaningOf_92 (w : World) (h : Esc w) : Calls Tryd.prog 65 #[.int .u8 92] w fun e w' => e = .returned (.tuple #[.int .u8 92, .bool true]) ∧ Below w.heap.size w w' := by
  obtain ⟨tt, fr, hg⟩ := h.heap
  have HG := Lib.hid hg
  have i0 := esc_i0
  have i1 := esc_i1
  have i2 := esc_i2
  have i3 := esc_i3
  have i4 := esc_i4
  have i5 := esc_i5
  clear h hg
  go_enter Tryd.func65, Tryd.ntmps65
  go_wp2_with (refine wpList_load_row rfl 121 _ rfl 2 rfl tt _ fr _ HG.out Tryd.underlying121 rfl (by kernel_rfl) ?_)
  refine wp_loop_rounds 7 ?_
  repeat (rw [rounds_succ]; go_wp2_with fail)
  go_ret2
  exact ⟨rfl, by go_grown⟩
set_option maxHeartbeats 2000000 in
theorem q_meaningOf_110 (w : World) (h : Esc w) : Calls Tryd.prog 65 #[.int .u8 110] w fun e w' => e = .returned (.tuple #[.int .u8 10, .bool true]) ∧ Below w.heap.size w w' := by
  obtain ⟨tt, fr, hg⟩ := h.heap
  have HG := Lib.hid hg
  have i0 := esc_i0
  have i1 := esc_i1
  have i2 := esc_i2
  have i3 := esc_i3
  have i4 := esc_i4
  have i5 := esc_i5
  clear h hg
  go_enter Tryd.func65, Tryd.ntmps65
  go_wp2_with (refine wpList_load_row rfl 121 _ rfl 2 rfl tt _ fr _ HG.out Tryd.underlying121 rfl (by kernel_rfl) ?_)
  refine wp_loop_rounds 7 ?_
  repeat (rw [rounds_succ]; go_wp2_with fail)
  go_ret2
  exact ⟨rfl, by go_grown⟩
set_option maxHeartbeats 2000000 in
theorem q_meaningOf_116 (w : World) (h : Esc w) : Calls Tryd.prog 65 #[.int .u8 116] w fun e w' => e = .returned (.tuple #[.int .u8 9, .bool true]) ∧ Below w.heap.size w w' := by
  obtain ⟨tt, fr, hg⟩ := h.heap
  have HG := Lib.hid hg
  have i0 := esc_i0
  have i1 := esc_i1
  have i2 := esc_i2
  have i3 := esc_i3
  have i4 := esc_i4
  have i5 := esc_i5
  clear h hg
  go_enter Tryd.func65, Tryd.ntmps65
  go_wp2_with (refine wpList_load_row rfl 121 _ rfl 2 rfl tt _ fr _ HG.out Tryd.underlying121 rfl (by kernel_rfl) ?_)
  refine wp_loop_rounds 7 ?_
  repeat (rw [rounds_succ]; go_wp2_with fail)
  go_ret2
  exact ⟨rfl, by go_grown⟩
set_option maxHeartbeats 2000000 in
theorem q_meaningOf_114 (w : World) (h : Esc w) : Calls Tryd.prog 65 #[.int .u8 114] w fun e w' => e = .returned (.tuple #[.int .u8 13, .bool true]) ∧ Below w.heap.size w w' := by
  obtain ⟨tt, fr, hg⟩ := h.heap
  have HG := Lib.hid hg
  have i0 := esc_i0
  have i1 := esc_i1
  have i2 := esc_i2
  have i3 := esc_i3
  have i4 := esc_i4
  have i5 := esc_i5
  clear h hg
  go_enter Tryd.func65, Tryd.ntmps65
  go_wp2_with (refine wpList_load_row rfl 121 _ rfl 2 rfl tt _ fr _ HG.out Tryd.underlying121 rfl (by kernel_rfl) ?_)
  refine wp_loop_rounds 7 ?_
  repeat (rw [rounds_succ]; go_wp2_with fail)
  go_ret2
  exact ⟨rfl, by go_grown⟩
set_option maxHeartbeats 2000000 in
theorem q_meaningOf_47 (w : World) (h : Esc w) : Calls Tryd.prog 65 #[.int .u8 47] w fun e w' => e = .returned (.tuple #[.int .u8 47, .bool true]) ∧ Below w.heap.size w w' := by
  obtain ⟨tt, fr, hg⟩ := h.heap
  have HG := Lib.hid hg
  have i0 := esc_i0
  have i1 := esc_i1
  have i2 := esc_i2
  have i3 := esc_i3
  have i4 := esc_i4
  have i5 := esc_i5
  clear h hg
  go_enter Tryd.func65, Tryd.ntmps65
  go_wp2_with (refine wpList_load_row rfl 121 _ rfl 2 rfl tt _ fr _ HG.out Tryd.underlying121 rfl (by kernel_rfl) ?_)
  refine wp_loop_rounds 7 ?_
  repeat (rw [rounds_succ]; go_wp2_with fail)
  go_ret2
  exact ⟨rfl, by go_grown⟩
end Go.Proofs.YtgdlkaoadlipmaaDoor
