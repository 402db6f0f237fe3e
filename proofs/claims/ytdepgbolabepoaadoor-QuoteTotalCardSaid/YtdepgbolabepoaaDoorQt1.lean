/- The contracts of package quote's small functions: the order of texts, digits, letters, and the table's two look-ups. -/
import Derived.Test.YtdepgbolabepoaaDoorRef02Quote
import Derived.Test.YtdepgbolabepoaaDoorEsc
import Derived.Test.YtdepgbolabepoaaDoorShelf
import Derived.Handy
namespace Go.Proofs.YtdepgbolabepoaaDoor
open Go.RowKit

theorem compare_order : ∀ a b : List UInt8, Lib.compareBytes a b = orderS a b := by
  intro a
  induction a with
  | nil =>
    intro b
    cases b <;> simp [Lib.compareBytes, orderS]
  | cons x l ih =>
    intro b
    cases b with
    | nil => simp [Lib.compareBytes, orderS]
    | cons y r =>
      simp only [Lib.compareBytes]
      by_cases h1 : x < y
      · have hne : ¬ x = y := fun e => by rw [e] at h1; exact absurd h1 (UInt8.lt_irrefl _)
        rw [if_pos h1]
        unfold orderS
        rw [if_neg (by simp [hne]), if_pos (by rw [List.cons_lt_cons_iff]; exact .inl h1)]
      · rw [if_neg h1]
        by_cases h2 : y < x
        · have hne : ¬ x = y := fun e => by rw [e] at h2; exact absurd h2 (UInt8.lt_irrefl _)
          rw [if_pos h2]
          unfold orderS
          rw [if_neg (by simp [hne]), if_neg (by
            rw [List.cons_lt_cons_iff]
            rintro (h | ⟨h, _⟩)
            · exact h1 h
            · exact hne h)]
        · rw [if_neg h2, ih]
          have e : x = y := by
            rw [UInt8.lt_iff_toNat_lt] at h1 h2
            exact UInt8.toNat_inj.1 (by omega)
          subst e
          unfold orderS
          have e1 : (x :: l = x :: r) ↔ l = r := by simp
          have e2 : (x :: l < x :: r) ↔ l < r := by
            rw [List.cons_lt_cons_iff]
            exact ⟨fun h => by rcases h with h | h; exact absurd h (UInt8.lt_irrefl _); exact h.2, fun h => .inr ⟨rfl, h⟩⟩
          simp only [e1, e2]

theorem q_Order (a b : ByteArray) (w : World) : Calls Tryd.prog 11 #[.string a, .string b] w fun e w' => e = .returned (.int .i64 (orderS a.data.toList b.data.toList)) ∧ w = w' := by
  have HC := Lib.hid (fun w => Tryd.strings_Compare a b w)
  rw [compare_order] at HC
  go_enter Tryd.func11, Tryd.ntmps11
  go_wp2_with fail
  refine (HC.out _).mono ?_
  rintro e w1 ⟨rfl, rfl⟩
  go_wp2_with fail
  go_ret
  exact ⟨rfl, rfl⟩
set_option maxHeartbeats 2000000 in
theorem q_letterOf_x (c : Int) (w : World) (h : Esc w) (h1 : ((34 : Int) == c) = false) (h2 : ((92 : Int) == c) = false) (h3 : ((10 : Int) == c) = false) (h4 : ((9 : Int) == c) = false) (h5 : ((13 : Int) == c) = false) : Calls Tryd.prog 39 #[.int .u8 c] w fun e w' => e = .returned (.tuple #[.int .u8 0, .bool false]) ∧ Below w.heap.size w w' := by
  obtain ⟨tt, fr, hg⟩ := h.heap
  have HG := Lib.hid hg
  have i0 := esc_i0
  have i1 := esc_i1
  have i2 := esc_i2
  have i3 := esc_i3
  have i4 := esc_i4
  have i5 := esc_i5
  clear h hg
  rcases Bool.eq_false_or_eq_true ((47 : Int) == c) with h6 | h6
  all_goals
    go_enter Tryd.func39, Tryd.ntmps39
    go_wp2_with (refine wpList_load_row rfl 48 _ rfl 1 rfl tt _ fr _ HG.out Tryd.underlying48 rfl (by kernel_rfl) ?_)
    refine wp_loop_rounds 7 ?_
    repeat (rw [rounds_succ]; go_wp2_with fail)
    go_ret2
    exact ⟨rfl, by go_grown⟩
set_option maxHeartbeats 2000000 in
theorem q_letterOf_34 (w : World) (h : Esc w) : Calls Tryd.prog 39 #[.int .u8 34] w fun e w' => e = .returned (.tuple #[.int .u8 34, .bool true]) ∧ Below w.heap.size w w' := by
  obtain ⟨tt, fr, hg⟩ := h.heap
  have HG := Lib.hid hg
  have i0 := esc_i0
  have i1 := esc_i1
  have i2 := esc_i2
  have i3 := esc_i3
  have i4 := esc_i4
  have i5 := esc_i5
  clear h hg
  go_enter Tryd.func39, Tryd.ntmps39
  go_wp2_with (refine wpList_load_row rfl 48 _ rfl 1 rfl tt _ fr _ HG.out Tryd.underlying48 rfl (by kernel_rfl) ?_)
  refine wp_loop_rounds 7 ?_
  repeat (rw [rounds_succ]; go_wp2_with fail)
  go_ret2
  exact ⟨rfl, by go_grown⟩
set_option maxHeartbeats 2000000 in
theorem q_letterOf_92 (w : World) (h : Esc w) : Calls Tryd.prog 39 #[.int .u8 92] w fun e w' => e = .returned (.tuple #[.int .u8 92, .bool true]) ∧ Below w.heap.size w w' := by
  obtain ⟨tt, fr, hg⟩ := h.heap
  have HG := Lib.hid hg
  have i0 := esc_i0
  have i1 := esc_i1
  have i2 := esc_i2
  have i3 := esc_i3
  have i4 := esc_i4
  have i5 := esc_i5
  clear h hg
  go_enter Tryd.func39, Tryd.ntmps39
  go_wp2_with (refine wpList_load_row rfl 48 _ rfl 1 rfl tt _ fr _ HG.out Tryd.underlying48 rfl (by kernel_rfl) ?_)
  refine wp_loop_rounds 7 ?_
  repeat (rw [rounds_succ]; go_wp2_with fail)
  go_ret2
  exact ⟨rfl, by go_grown⟩
set_option maxHeartbeats 2000000 in
theorem q_letterOf_10 (w : World) (h : Esc w) : Calls Tryd.prog 39 #[.int .u8 10] w fun e w' => e = .returned (.tuple #[.int .u8 110, .bool true]) ∧ Below w.heap.size w w' := by
  obtain ⟨tt, fr, hg⟩ := h.heap
  have HG := Lib.hid hg
  have i0 := esc_i0
  have i1 := esc_i1
  have i2 := esc_i2
  have i3 := esc_i3
  have i4 := esc_i4
  have i5 := esc_i5
  clear h hg
  go_enter Tryd.func39, Tryd.ntmps39
  go_wp2_with (refine wpList_load_row rfl 48 _ rfl 1 rfl tt _ fr _ HG.out Tryd.underlying48 rfl (by kernel_rfl) ?_)
  refine wp_loop_rounds 7 ?_
  repeat (rw [rounds_succ]; go_wp2_with fail)
  go_ret2
  exact ⟨rfl, by go_grown⟩
set_option maxHeartbeats 2000000 in
theorem q_letterOf_9 (w : World) (h : Esc w) : Calls Tryd.prog 39 #[.int .u8 9] w fun e w' => e = .returned (.tuple #[.int .u8 116, .bool true]) ∧ Below w.heap.size w w' := by
  obtain ⟨tt, fr, hg⟩ := h.heap
  have HG := Lib.hid hg
  have i0 := esc_i0
  have i1 := esc_i1
  have i2 := esc_i2
  have i3 := esc_i3
  have i4 := esc_i4
  have i5 := esc_i5
  clear h hg
  go_enter Tryd.func39, Tryd.ntmps39
  go_wp2_with (refine wpList_load_row rfl 48 _ rfl 1 rfl tt _ fr _ HG.out Tryd.underlying48 rfl (by kernel_rfl) ?_)
  refine wp_loop_rounds 7 ?_
  repeat (rw [rounds_succ]; go_wp2_with fail)
  go_ret2
  exact ⟨rfl, by go_grown⟩
set_option maxHeartbeats 2000000 in
theorem q_letterOf_13 (w : World) (h : Esc w) : Calls Tryd.prog 39 #[.int .u8 13] w fun e w' => e = .returned (.tuple #[.int .u8 114, .bool true]) ∧ Below w.heap.size w w' := by
  obtain ⟨tt, fr, hg⟩ := h.heap
  have HG := Lib.hid hg
  have i0 := esc_i0
  have i1 := esc_i1
  have i2 := esc_i2
  have i3 := esc_i3
  have i4 := esc_i4
  have i5 := esc_i5
  clear h hg
  go_enter Tryd.func39, Tryd.ntmps39
  go_wp2_with (refine wpList_load_row rfl 48 _ rfl 1 rfl tt _ fr _ HG.out Tryd.underlying48 rfl (by kernel_rfl) ?_)
  refine wp_loop_rounds 7 ?_
  repeat (rw [rounds_succ]; go_wp2_with fail)
  go_ret2
  exact ⟨rfl, by go_grown⟩
set_option maxHeartbeats 2000000 in
theorem q_meaningOf_x (c : Int) (w : World) (h : Esc w) (h1 : ((34 : Int) == c) = false) (h2 : ((92 : Int) == c) = false) (h3 : ((110 : Int) == c) = false) (h4 : ((116 : Int) == c) = false) (h5 : ((114 : Int) == c) = false) (h6 : ((47 : Int) == c) = false) : Calls Tryd.prog 41 #[.int .u8 c] w fun e w' => e = .returned (.tuple #[.int .u8 0, .bool false]) ∧ Below w.heap.size w w' := by
  obtain ⟨tt, fr, hg⟩ := h.heap
  have HG := Lib.hid hg
  have i0 := esc_i0
  have i1 := esc_i1
  have i2 := esc_i2
  have i3 := esc_i3
  have i4 := esc_i4
  have i5 := esc_i5
  clear h hg
  go_enter Tryd.func41, Tryd.ntmps41
  go_wp2_with (refine wpList_load_row rfl 48 _ rfl 1 rfl tt _ fr _ HG.out Tryd.underlying48 rfl (by kernel_rfl) ?_)
  refine wp_loop_rounds 7 ?_
  repeat (rw [rounds_succ]; go_wp2_with fail)
  go_ret2
  exact ⟨rfl, by go_grown⟩
set_option maxHeartbeats 2000000 in
theorem q_meaningOf_34 (w : World) (h : Esc w) : Calls Tryd.prog 41 #[.int .u8 34] w fun e w' => e = .returned (.tuple #[.int .u8 34, .bool true]) ∧ Below w.heap.size w w' := by
  obtain ⟨tt, fr, hg⟩ := h.heap
  have HG := Lib.hid hg
  have i0 := esc_i0
  have i1 := esc_i1
  have i2 := esc_i2
  have i3 := esc_i3
  have i4 := esc_i4
  have i5 := esc_i5
  clear h hg
  go_enter Tryd.func41, Tryd.ntmps41
  go_wp2_with (refine wpList_load_row rfl 48 _ rfl 1 rfl tt _ fr _ HG.out Tryd.underlying48 rfl (by kernel_rfl) ?_)
  refine wp_loop_rounds 7 ?_
  repeat (rw [rounds_succ]; go_wp2_with fail)
  go_ret2
  exact ⟨rfl, by go_grown⟩
set_option maxHeartbeats 2000000 in
theorem q_meaningOf_92 (w : World) (h : Esc w) : Calls Tryd.prog 41 #[.int .u8 92] w fun e w' => e = .returned (.tuple #[.int .u8 92, .bool true]) ∧ Below w.heap.size w w' := by
  obtain ⟨tt, fr, hg⟩ := h.heap
  have HG := Lib.hid hg
  have i0 := esc_i0
  have i1 := esc_i1
  have i2 := esc_i2
  have i3 := esc_i3
  have i4 := esc_i4
  have i5 := esc_i5
  clear h hg
  go_enter Tryd.func41, Tryd.ntmps41
  go_wp2_with (refine wpList_load_row rfl 48 _ rfl 1 rfl tt _ fr _ HG.out Tryd.underlying48 rfl (by kernel_rfl) ?_)
  refine wp_loop_rounds 7 ?_
  repeat (rw [rounds_succ]; go_wp2_with fail)
  go_ret2
  exact ⟨rfl, by go_grown⟩
set_option maxHeartbeats 2000000 in
theorem q_meaningOf_110 (w : World) (h : Esc w) : Calls Tryd.prog 41 #[.int .u8 110] w fun e w' => e = .returned (.tuple #[.int .u8 10, .bool true]) ∧ Below w.heap.size w w' := by
  obtain ⟨tt, fr, hg⟩ := h.heap
  have HG := Lib.hid hg
  have i0 := esc_i0
  have i1 := esc_i1
  have i2 := esc_i2
  have i3 := esc_i3
  have i4 := esc_i4
  have i5 := esc_i5
  clear h hg
  go_enter Tryd.func41, Tryd.ntmps41
  go_wp2_with (refine wpList_load_row rfl 48 _ rfl 1 rfl tt _ fr _ HG.out Tryd.underlying48 rfl (by kernel_rfl) ?_)
  refine wp_loop_rounds 7 ?_
  repeat (rw [rounds_succ]; go_wp2_with fail)
  go_ret2
  exact ⟨rfl, by go_grown⟩
set_option maxHeartbeats 2000000 in
theorem q_meaningOf_116 (w : World) (h : Esc w) : Calls Tryd.prog 41 #[.int .u8 116] w fun e w' => e = .returned (.tuple #[.int .u8 9, .bool true]) ∧ Below w.heap.size w w' := by
  obtain ⟨tt, fr, hg⟩ := h.heap
  have HG := Lib.hid hg
  have i0 := esc_i0
  have i1 := esc_i1
  have i2 := esc_i2
  have i3 := esc_i3
  have i4 := esc_i4
  have i5 := esc_i5
  clear h hg
  go_enter Tryd.func41, Tryd.ntmps41
  go_wp2_with (refine wpList_load_row rfl 48 _ rfl 1 rfl tt _ fr _ HG.out Tryd.underlying48 rfl (by kernel_rfl) ?_)
  refine wp_loop_rounds 7 ?_
  repeat (rw [rounds_succ]; go_wp2_with fail)
  go_ret2
  exact ⟨rfl, by go_grown⟩
set_option maxHeartbeats 2000000 in
theorem q_meaningOf_114 (w : World) (h : Esc w) : Calls Tryd.prog 41 #[.int .u8 114] w fun e w' => e = .returned (.tuple #[.int .u8 13, .bool true]) ∧ Below w.heap.size w w' := by
  obtain ⟨tt, fr, hg⟩ := h.heap
  have HG := Lib.hid hg
  have i0 := esc_i0
  have i1 := esc_i1
  have i2 := esc_i2
  have i3 := esc_i3
  have i4 := esc_i4
  have i5 := esc_i5
  clear h hg
  go_enter Tryd.func41, Tryd.ntmps41
  go_wp2_with (refine wpList_load_row rfl 48 _ rfl 1 rfl tt _ fr _ HG.out Tryd.underlying48 rfl (by kernel_rfl) ?_)
  refine wp_loop_rounds 7 ?_
  repeat (rw [rounds_succ]; go_wp2_with fail)
  go_ret2
  exact ⟨rfl, by go_grown⟩
set_option maxHeartbeats 2000000 in
theorem q_meaningOf_47 (w : World) (h : Esc w) : Calls Tryd.prog 41 #[.int .u8 47] w fun e w' => e = .returned (.tuple #[.int .u8 47, .bool true]) ∧ Below w.heap.size w w' := by
  obtain ⟨tt, fr, hg⟩ := h.heap
  have HG := Lib.hid hg
  have i0 := esc_i0
  have i1 := esc_i1
  have i2 := esc_i2
  have i3 := esc_i3
  have i4 := esc_i4
  have i5 := esc_i5
  clear h hg
  go_enter Tryd.func41, Tryd.ntmps41
  go_wp2_with (refine wpList_load_row rfl 48 _ rfl 1 rfl tt _ fr _ HG.out Tryd.underlying48 rfl (by kernel_rfl) ?_)
  refine wp_loop_rounds 7 ?_
  repeat (rw [rounds_succ]; go_wp2_with fail)
  go_ret2
  exact ⟨rfl, by go_grown⟩
end Go.Proofs.YtdepgbolabepoaaDoor
