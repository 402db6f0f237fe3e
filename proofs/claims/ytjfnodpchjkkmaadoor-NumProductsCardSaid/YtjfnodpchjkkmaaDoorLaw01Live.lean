/- Layer 1: the chapter's examples are so, wherever the table of powers of ten is laid. -/
import Derived.Test.YtjfnodpchjkkmaaDoorNumDigits
import Derived.Test.YtjfnodpchjkkmaaDoorRef01Walks
namespace Go.Proofs.YtjfnodpchjkkmaaDoor
open Go.RowKit

theorem itoa_40 : Lib.itoa (-40) = [45, 52, 48] := by
  unfold Lib.itoa
  rw [if_pos (by decide), show (-40 : Int).natAbs = 40 from rfl, Lib.decDigits, dif_neg (by decide), Lib.decDigits, dif_pos (by decide)]
  rfl
theorem live_mul (w : World) : Calls Tryd.prog 17 #[.int .i64 (-7), .int .i64 2] w fun e w' => e = .returned (.tuple #[.int .i64 (-4), .int .i64 0]) ∧ w = w' :=
  num_Div (-7) 2 w (by unfold InR; omega) (by unfold InR; omega)
theorem live_mod (w : World) : Calls Tryd.prog 19 #[.int .i64 (-7), .int .i64 2] w fun e w' => e = .returned (.tuple #[.int .i64 1, .int .i64 0]) ∧ w = w' :=
  num_Mod (-7) 2 w (by unfold InR; omega)
theorem live_add (w : World) : Calls Tryd.prog 10 #[.int .i64 9223372036854775807, .int .i64 1] w fun e w' => e = .returned (.tuple #[.int .i64 0, .int .i64 4]) ∧ w = w' := by
  have h := num_Add 9223372036854775807 1 w (by unfold InR; omega) (by unfold InR; omega)
  rw [addS_out (by unfold InR; omega)] at h
  exact h
theorem live_parse (w : World) : Calls Tryd.prog 21 #[.string ⟨#[45, 52, 48]⟩] w fun e w' => e = .returned (.tuple #[.int .i64 (-40), .int .i64 0]) ∧ w = w' := by
  have h := num_Parse ⟨#[45, 52, 48]⟩ w (by decide +kernel)
  have e : parseS (ByteArray.data ⟨#[45, 52, 48]⟩).toList = (-40, 0) := by decide +kernel
  rw [e] at h
  exact h
theorem live_place (w : World) : Calls Tryd.prog 29 #[.int .i64 (-1), .int .i64 5] w fun e w' => e = .returned (.tuple #[.int .i64 4, .bool true]) ∧ w = w' :=
  num_Place (-1) 5 w (by unfold InR; omega) (by unfold InR; omega)
theorem live_cut (w : World) : Calls Tryd.prog 31 #[.int .i64 (-2), .int .i64 9, .int .i64 5] w fun e w' => e = .returned (.tuple #[.int .i64 3, .int .i64 5]) ∧ w = w' :=
  num_Cut (-2) 9 5 w (by unfold InR; omega) (by unfold InR; omega) (by unfold InR; omega)
theorem live_digits (w : World) (htab : Tab w) : Calls Tryd.prog 23 #[.int .i64 (-40)] w fun e w' => e = .returned (.string ⟨#[45, 52, 48]⟩) ∧ Below w.heap.size w w' := by
  have h := num_Digits (-40) w (by unfold InR; omega) htab
  rw [itoa_40] at h
  exact h
theorem live_bytes (w : World) : Calls Tryd.prog 26 #[.int .i64 0] w fun e w' => e = .returned (.string ⟨#[128, 0, 0, 0, 0, 0, 0, 0]⟩) ∧ Below w.heap.size w w' := by
  have h := num_Bytes 0 w (by unfold InR; omega)
  have e : bytesS 0 = [128, 0, 0, 0, 0, 0, 0, 0] := by decide +kernel
  rw [e] at h
  exact h


set_option maxHeartbeats 2000000 in
theorem live_any (w : World) (htab : Tab w) : Calls Tryd.prog 14 #[] w fun e w' => e = .returned (.bool true) ∧ Below w.heap.size w w' := by
  have HT := Lib.hid htab
  clear htab
  go_enter Tryd.func14, Tryd.ntmps14
  go_wp2_with (first
    | (go_at_call 17; refine (live_mul _).mono ?_; rintro e w' ⟨rfl, rfl⟩)
    | (go_at_call 19; refine (live_mod _).mono ?_; rintro e w' ⟨rfl, rfl⟩)
    | (go_at_call 10; refine (live_add _).mono ?_; rintro e w' ⟨rfl, rfl⟩)
    | (go_at_call 21; refine (live_parse _).mono ?_; rintro e w' ⟨rfl, rfl⟩)
    | (go_at_call 29; refine (live_place _).mono ?_; rintro e w' ⟨rfl, rfl⟩)
    | (go_at_call 31; refine (live_cut _).mono ?_; rintro e w' ⟨rfl, rfl⟩)
    | (go_at_call 23; refine (live_digits _ HT.out).mono ?_; rintro e w1 ⟨rfl, hb1⟩; have H1 := Lib.hid hb1; clear hb1)
    | (go_at_call 26; refine (live_bytes _).mono ?_; rintro e w2 ⟨rfl, hb2⟩; have H2 := Lib.hid hb2; clear hb2))
  go_ret
  exact ⟨rfl, Below.chain H1.out H2.out⟩
end Go.Proofs.YtjfnodpchjkkmaaDoor
