/- The contracts of package quote's reading of one escape. -/
import Derived.Test.YtgdlkaoadlipmaaDoorQt3
namespace Go.Proofs.YtgdlkaoadlipmaaDoor
open Go.RowKit

/-- An escape at the beginning: the byte that it means, its length or the place of what breaks it, the error. -/
def uneS : List UInt8 → UInt8 × Nat × Int
  | _ :: d :: r =>
    if d.toNat ≠ 120 then (match escS d with
      | none => (0, 1, 2)
      | some x => (x, 2, 0))
    else match r with
      | [] => (0, 2, 10)
      | h1 :: r => if 15 < hval h1 true then (0, 2, 2) else match r with
        | [] => (0, 3, 10)
        | h2 :: _ => if 15 < hval h2 true then (0, 3, 2) else (UInt8.ofNat (16 * hval h1 true + hval h2 true), 4, 0)
  | _ => (0, 1, 10)
/-- How reading goes on behind an escape. -/
def unqK (l : List UInt8) (k : Nat) (out : List UInt8) (u : UInt8 × Nat × Int) : List UInt8 × Nat × Int := if u.2.2 = 0 then unqS (l.drop u.2.1) (k + u.2.1) (out ++ [u.1]) else ([], k + u.2.1, u.2.2)
theorem unqS_une (c : UInt8) (r : List UInt8) (k : Nat) (out : List UInt8) (h : c.toNat = 92) : unqS (c :: r) k out = unqK (c :: r) k out (uneS (c :: r)) := by
  rw [unqS.eq_def]
  simp only
  rw [if_neg (by omega), if_neg (by omega), if_neg (by omega)]
  cases r with
  | nil => rfl
  | cons d r =>
    simp only [uneS]
    by_cases hd : d.toNat ≠ 120
    · rw [if_pos hd, if_pos hd]
      cases escS d <;> simp [unqK]
    · rw [if_neg hd, if_neg hd]
      cases r with
      | nil => rfl
      | cons h1 r =>
        simp only
        by_cases h15 : 15 < hval h1 true
        · rw [if_pos h15, if_pos h15]; rfl
        · rw [if_neg h15, if_neg h15]
          cases r with
          | nil => rfl
          | cons h2 r =>
            simp only
            by_cases h16 : 15 < hval h2 true
            · rw [if_pos h16, if_pos h16]; rfl
            · rw [if_neg h16, if_neg h16]; simp [unqK]
/-- No escape is longer than what is left, and none that is right is empty. -/
theorem uneS_le (l : List UInt8) (h : 0 < l.length) : (uneS l).2.1 ≤ l.length ∧ 1 ≤ (uneS l).2.1 ∧ ((uneS l).2.2 = 0 ∨ (uneS l).2.2 = 2 ∨ (uneS l).2.2 = 10) := by
  unfold uneS
  repeat' split
  all_goals (simp only [List.length_cons, List.length_nil, or_true, true_or, and_true] at *; try omega)

theorem all_get (t : ByteArray) (h : 0 < t.size) : t.data.toList = t[0] :: t.data.toList.drop 1 := by
  have := get_mem t 0 h
  rwa [List.drop_zero] at this
theorem une_one (t : ByteArray) (h : t.size = 1) : uneS t.data.toList = (0, 1, 10) := by
  rw [all_get t (by omega), drop_end t 1 (by omega)]
  rfl
theorem une_two (t : ByteArray) (h : 1 < t.size) (hx : ¬ (t[1].toNat : Int) = 120) : uneS t.data.toList = (match escS t[1] with | none => (0, 1, 2) | some x => (x, 2, 0)) := by
  rw [all_get t (by omega), get_mem t 1 h]
  simp only [uneS]
  rw [if_pos (by omega)]
theorem une_x2 (t : ByteArray) (h : t.size = 2) (hx : (t[1].toNat : Int) = 120) : uneS t.data.toList = (0, 2, 10) := by
  rw [all_get t (by omega), get_mem t 1 (by omega), drop_end t (1 + 1) (by omega)]
  simp only [uneS]
  rw [if_neg (by omega)]
theorem une_x2b (t : ByteArray) (h : 2 < t.size) (hx : (t[1].toNat : Int) = 120) (hv : 15 < hval t[2] true) : uneS t.data.toList = (0, 2, 2) := by
  rw [all_get t (by omega), get_mem t 1 (by omega), get_mem t (1 + 1) h]
  simp only [uneS]
  rw [if_neg (by omega), if_pos hv]
theorem une_x3 (t : ByteArray) (h : t.size = 3) (hx : (t[1].toNat : Int) = 120) (hv : hval t[2] true ≤ 15) : uneS t.data.toList = (0, 3, 10) := by
  rw [all_get t (by omega), get_mem t 1 (by omega), get_mem t (1 + 1) (by omega), drop_end t (1 + 1 + 1) (by omega)]
  simp only [uneS]
  rw [if_neg (by omega), if_neg (by have : hval t[1 + 1] true ≤ 15 := hv; omega)]
theorem une_x3b (t : ByteArray) (h : 3 < t.size) (hx : (t[1].toNat : Int) = 120) (hv : hval t[2] true ≤ 15) (hu : 15 < hval t[3] true) : uneS t.data.toList = (0, 3, 2) := by
  rw [all_get t (by omega), get_mem t 1 (by omega), get_mem t (1 + 1) (by omega), get_mem t (1 + 1 + 1) h]
  simp only [uneS]
  rw [if_neg (by omega), if_neg (by have : hval t[1 + 1] true ≤ 15 := hv; omega), if_pos hu]
theorem une_x4 (t : ByteArray) (h : 3 < t.size) (hx : (t[1].toNat : Int) = 120) (hv : hval t[2] true ≤ 15) (hu : hval t[3] true ≤ 15) : uneS t.data.toList = (UInt8.ofNat (16 * hval t[2] true + hval t[3] true), 4, 0) := by
  rw [all_get t (by omega), get_mem t 1 (by omega), get_mem t (1 + 1) (by omega), get_mem t (1 + 1 + 1) h]
  simp only [uneS]
  rw [if_neg (by omega), if_neg (by have : hval t[1 + 1] true ≤ 15 := hv; omega), if_neg (by have : hval t[1 + 1 + 1] true ≤ 15 := hu; omega)]

/-- What one escape hands back. -/
abbrev uneV (x : UInt8 × Nat × Int) : Value := .tuple #[.int .u8 (x.1.toNat : Int), .int .i64 (x.2.1 : Int), .int .i64 x.2.2]
/-- A digit, of whichever case. -/
theorem q_hexAt (c : UInt8) (n : Nat) (w : World) (hn : hval c true = n) (h : n ≤ 15) : Calls Tryd.prog 74 #[.int .u8 ((lowS c).toNat : Int)] w fun e w' => e = .returned (.tuple #[.int .u8 (n : Int), .bool true]) ∧ w = w' := by
  have := q_digitOf (lowS c) w (by rw [hval_low, hn]; exact h)
  rwa [hval_low, hn] at this
theorem q_hexAt_no (c : UInt8) (w : World) (h : 15 < hval c true) : Calls Tryd.prog 74 #[.int .u8 ((lowS c).toNat : Int)] w fun e w' => e = .returned (.tuple #[.int .u8 0, .bool false]) ∧ w = w' := q_digitOf_no (lowS c) w (by rw [hval_low]; exact h)
set_option maxHeartbeats 2000000 in
theorem q_unescapeHex (t : ByteArray) (w : World) (h1 : 1 < t.size) (hs : t.size ≤ 20000) (hx : (t[1].toNat : Int) = 120) : Calls Tryd.prog 64 #[.string t] w fun e w' => e = .returned (uneV (uneS t.data.toList)) ∧ w = w' := by
  have HX := Lib.hid hx
  clear hx
  by_cases h2 : 2 < t.size
  · have e2 : ((2 : Int) == (t.size : Int)) = false := beq_eq_false_iff_ne.2 (by omega)
    have HL := Lib.hid (fun w => q_lower t[2] w)
    rcases Nat.lt_or_ge 15 (hval t[2] true) with hv | hv
    · have H : Hid (uneS t.data.toList = (0, 2, 2)) := une_x2b t h2 HX.out hv
      have HD := Lib.hid (fun w => q_hexAt_no t[2] w hv)
      clear hv
      go_enter Tryd.func64, Tryd.ntmps64
      go_wp2_with fail
      refine wp_loop_rounds 3 ?_
      rw [rounds_succ]
      go_wp2_with fail
      refine (HL.out _).mono ?_
      rintro e w1 ⟨rfl, rfl⟩
      go_wp2_with fail
      refine (HD.out _).mono ?_
      rintro e w1 ⟨rfl, rfl⟩
      go_wp2_with fail
      go_ret3
      exact ⟨by rw [H.out]; rfl, rfl⟩
    · obtain ⟨a, ha⟩ : ∃ a, hval t[2] true = a := ⟨_, rfl⟩
      have HA := Lib.hid ha
      rw [ha] at hv
      have HD := Lib.hid (fun w => q_hexAt t[2] a w ha hv)
      clear ha
      have s1 : IntKind.u8.wrap ((0 : Int) * 16) = 0 := by decide
      have o1 : bits .or .u8 0 (a : Int) = (a : Int) := by
        have := or_lowq 0 a (by omega) (by omega)
        simpa using this
      by_cases h3 : 3 < t.size
      · have e3 : ((3 : Int) == (t.size : Int)) = false := beq_eq_false_iff_ne.2 (by omega)
        have HM := Lib.hid (fun w => q_lower t[3] w)
        rcases Nat.lt_or_ge 15 (hval t[3] true) with hu | hu
        · have H : Hid (uneS t.data.toList = (0, 3, 2)) := une_x3b t h3 HX.out (by rw [HA.out]; exact hv) hu
          have HE := Lib.hid (fun w => q_hexAt_no t[3] w hu)
          clear hu
          go_enter Tryd.func64, Tryd.ntmps64
          go_wp2_with fail
          refine wp_loop_rounds 3 ?_
          rw [rounds_succ]
          go_wp2_with fail
          refine (HL.out _).mono ?_
          rintro e w1 ⟨rfl, rfl⟩
          go_wp2_with fail
          refine (HD.out _).mono ?_
          rintro e w1 ⟨rfl, rfl⟩
          go_wp2_with fail
          rw [rounds_succ]
          go_wp2_with fail
          refine (HM.out _).mono ?_
          rintro e w1 ⟨rfl, rfl⟩
          go_wp2_with fail
          refine (HE.out _).mono ?_
          rintro e w1 ⟨rfl, rfl⟩
          go_wp2_with fail
          go_ret3
          exact ⟨by rw [H.out]; rfl, rfl⟩
        · obtain ⟨b, hb⟩ : ∃ b, hval t[3] true = b := ⟨_, rfl⟩
          have HBB := Lib.hid hb
          rw [hb] at hu
          have HE := Lib.hid (fun w => q_hexAt t[3] b w hb hu)
          clear hb
          have H : Hid (uneS t.data.toList = (UInt8.ofNat (16 * a + b), 4, 0)) := by
            have := une_x4 t h3 HX.out (by rw [HA.out]; exact hv) (by rw [HBB.out]; exact hu)
            rwa [HA.out, HBB.out] at this
          have HN : Hid (((UInt8.ofNat (16 * a + b)).toNat : Int) = 16 * (a : Int) + (b : Int)) := by
            show _ = _
            rw [UInt8.toNat_ofNat_of_lt' (by simp only [UInt8.size]; omega)]; omega
          have s2 : IntKind.u8.wrap ((a : Int) * 16) = ((16 * a : Nat) : Int) := by rw [IntKind.wrap_u8]; omega
          have o2 : bits .or .u8 (16 * (a : Int)) (b : Int) = 16 * (a : Int) + (b : Int) := by
            have := or_lowq a b (by omega) (by omega)
            simpa using this
          go_enter Tryd.func64, Tryd.ntmps64
          go_wp2_with fail
          refine wp_loop_rounds 3 ?_
          rw [rounds_succ]
          go_wp2_with fail
          refine (HL.out _).mono ?_
          rintro e w1 ⟨rfl, rfl⟩
          go_wp2_with fail
          refine (HD.out _).mono ?_
          rintro e w1 ⟨rfl, rfl⟩
          go_wp2_with fail
          rw [rounds_succ]
          go_wp2_with fail
          refine (HM.out _).mono ?_
          rintro e w1 ⟨rfl, rfl⟩
          go_wp2_with fail
          refine (HE.out _).mono ?_
          rintro e w1 ⟨rfl, rfl⟩
          go_wp2_with fail
          rw [rounds_succ]
          go_wp2_with fail
          go_ret3
          exact ⟨by rw [H.out]; simp only [uneV]; rw [HN.out]; rfl, rfl⟩
      · have H : Hid (uneS t.data.toList = (0, 3, 10)) := une_x3 t (by omega) HX.out (by rw [HA.out]; exact hv)
        have e3 : ((3 : Int) == (t.size : Int)) = true := beq_iff_eq.2 (by omega)
        go_enter Tryd.func64, Tryd.ntmps64
        go_wp2_with fail
        refine wp_loop_rounds 3 ?_
        rw [rounds_succ]
        go_wp2_with fail
        refine (HL.out _).mono ?_
        rintro e w1 ⟨rfl, rfl⟩
        go_wp2_with fail
        refine (HD.out _).mono ?_
        rintro e w1 ⟨rfl, rfl⟩
        go_wp2_with fail
        rw [rounds_succ]
        go_wp2_with fail
        go_ret3
        exact ⟨by rw [H.out]; rfl, rfl⟩
  · have H : Hid (uneS t.data.toList = (0, 2, 10)) := une_x2 t (by omega) HX.out
    have e2 : ((2 : Int) == (t.size : Int)) = true := beq_iff_eq.2 (by omega)
    clear h2
    go_enter Tryd.func64, Tryd.ntmps64
    go_wp2_with fail
    refine wp_loop_rounds 3 ?_
    rw [rounds_succ]
    go_wp2_with fail
    go_ret3
    exact ⟨by rw [H.out]; rfl, rfl⟩
end Go.Proofs.YtgdlkaoadlipmaaDoor
