/- The contracts of package quote's readers of digits and of escapes. -/
import Derived.Test.YtgdlkaoadlipmaaGreatDoorQt2
import Derived.Test.YtgdlkaoadlipmaaGreatDoorRef02Unquote
namespace Go.Proofs.YtgdlkaoadlipmaaGreatDoor
open Go.RowKit

theorem byte_all (p : UInt8 → Bool) (h : ((List.range 256).all fun n => p (UInt8.ofNat n)) = true) (c : UInt8) : p c = true := by
  rw [List.all_eq_true] at h
  have h1 := h c.toNat (List.mem_range.2 c.toNat_lt)
  rwa [show UInt8.ofNat c.toNat = c by simp] at h1
def hexL : List UInt8 := [48, 49, 50, 51, 52, 53, 54, 55, 56, 57, 97, 98, 99, 100, 101, 102]
theorem index_hex (c : UInt8) : Lib.indexByte hexL c = if hval c false ≤ 15 then (hval c false : Int) else -1 := by
  have := byte_all (fun c => decide (Lib.indexByte hexL c = if hval c false ≤ 15 then (hval c false : Int) else -1)) (by decide +kernel) c
  simpa using this
def lowS (c : UInt8) : UInt8 := if 65 ≤ c.toNat ∧ c.toNat ≤ 70 then UInt8.ofNat (c.toNat + 32) else c
theorem hval_low (c : UInt8) : hval (lowS c) false = hval c true := by
  have := byte_all (fun c => decide (hval (lowS c) false = hval c true)) (by decide +kernel) c
  simpa using this
theorem or_lowq (a b : Nat) (ha : a < 16) (hb : b < 16) : bits .or .u8 ((16 * a : Nat) : Int) (b : Int) = ((16 * a + b : Nat) : Int) := by
  have : ∀ a b : Fin 16, bits .or .u8 ((16 * a.val : Nat) : Int) (b.val : Int) = ((16 * a.val + b.val : Nat) : Int) := by decide +kernel
  exact this ⟨a, ha⟩ ⟨b, hb⟩

theorem q_index_hex (c : UInt8) (w : World) : Calls Tryz.prog 77 #[.string ⟨#[48, 49, 50, 51, 52, 53, 54, 55, 56, 57, 97, 98, 99, 100, 101, 102]⟩, .int .u8 (c.toNat : Int)] w fun e w' => e = .returned (.int .i64 (if hval c false ≤ 15 then (hval c false : Int) else -1)) ∧ w = w' := by
  refine (Tryz.strings_IndexByte ⟨#[48, 49, 50, 51, 52, 53, 54, 55, 56, 57, 97, 98, 99, 100, 101, 102]⟩ (c.toNat : Int) w).mono ?_
  rintro e w' ⟨rfl, rfl⟩
  refine ⟨?_, rfl⟩
  rw [← index_hex]
  have h1 : ((c.toNat : Int)).toNat.toUInt8 = c := by simp
  rw [h1]
  rfl
theorem q_digitOf (c : UInt8) (w : World) (h : hval c false ≤ 15) : Calls Tryz.prog 69 #[.int .u8 (c.toNat : Int)] w fun e w' => e = .returned (.tuple #[.int .u8 ((hval c false : Nat) : Int), .bool true]) ∧ w = w' := by
  have HI := Lib.hid (fun w => q_index_hex c w)
  rw [if_pos h] at HI
  obtain ⟨n, hn⟩ : ∃ n, hval c false = n := ⟨_, rfl⟩
  rw [hn] at HI h ⊢
  clear hn
  have h0 : ¬ (n : Int) < 0 := by omega
  have h1 : IntKind.u8.wrap (n : Int) = (n : Int) := by rw [IntKind.wrap_u8]; omega
  go_enter Tryz.func69, Tryz.ntmps69
  go_wp2_with fail
  refine (HI.out _).mono ?_
  rintro e w1 ⟨rfl, rfl⟩
  go_wp2_with fail
  go_ret2
  exact ⟨rfl, rfl⟩
theorem q_digitOf_no (c : UInt8) (w : World) (h : 15 < hval c false) : Calls Tryz.prog 69 #[.int .u8 (c.toNat : Int)] w fun e w' => e = .returned (.tuple #[.int .u8 0, .bool false]) ∧ w = w' := by
  have HI := Lib.hid (fun w => q_index_hex c w)
  rw [if_neg (by omega)] at HI
  clear h
  go_enter Tryz.func69, Tryz.ntmps69
  go_wp2_with fail
  refine (HI.out _).mono ?_
  rintro e w1 ⟨rfl, rfl⟩
  go_wp2_with fail
  go_ret2
  exact ⟨rfl, rfl⟩
theorem q_lower (c : UInt8) (w : World) : Calls Tryz.prog 70 #[.int .u8 (c.toNat : Int)] w fun e w' => e = .returned (.int .u8 ((lowS c).toNat : Int)) ∧ w = w' := by
  have hc : (c.toNat : Int) < 256 := by have := c.toNat_lt; omega
  by_cases h : 65 ≤ c.toNat ∧ c.toNat ≤ 70
  · have H : Hid (((lowS c).toNat : Int) = (c.toNat : Int) + 97 - 65) := by
      show _ = _
      unfold lowS
      rw [if_pos h, UInt8.toNat_ofNat_of_lt' (by simp only [UInt8.size]; omega)]; omega
    have h1 : (65 : Int) ≤ c.toNat := by omega
    have h2 : (c.toNat : Int) ≤ 70 := by omega
    clear h
    go_enter Tryz.func70, Tryz.ntmps70
    go_wp2
    go_ret
    exact ⟨by rw [H.out]; rfl, rfl⟩
  · have H : Hid (lowS c = c) := if_neg h
    rcases Nat.lt_or_ge c.toNat 65 with h1 | h1
    · have h2 : ¬ (65 : Int) ≤ c.toNat := by omega
      clear h h1
      go_enter Tryz.func70, Tryz.ntmps70
      go_wp2
      go_ret
      exact ⟨by rw [H.out]; rfl, rfl⟩
    · have h2 : (65 : Int) ≤ c.toNat := by omega
      have h3 : ¬ (c.toNat : Int) ≤ 70 := by omega
      clear h h1
      go_enter Tryz.func70, Tryz.ntmps70
      go_wp2
      go_ret
      exact ⟨by rw [H.out]; rfl, rfl⟩
theorem q_meaningOf (c : UInt8) (w : World) (hT : Esc w) : Calls Tryz.prog 59 #[.int .u8 (c.toNat : Int)] w fun e w' => e = .returned (.tuple #[.int .u8 (((escS c).getD 0).toNat : Int), .bool (escS c).isSome]) ∧ Below w.heap.size w w' := by
  by_cases h34 : (c.toNat : Int) = 34
  · rw [esc_self (.inl h34)]
    simp only [Option.getD_some, Option.isSome_some]
    rw [h34]
    exact q_meaningOf_34 w hT
  by_cases h92 : (c.toNat : Int) = 92
  · rw [esc_self (.inr (.inl h92))]
    simp only [Option.getD_some, Option.isSome_some]
    rw [h92]
    exact q_meaningOf_92 w hT
  by_cases h47 : (c.toNat : Int) = 47
  · rw [esc_self (.inr (.inr h47))]
    simp only [Option.getD_some, Option.isSome_some]
    rw [h47]
    exact q_meaningOf_47 w hT
  by_cases h110 : (c.toNat : Int) = 110
  · rw [esc_n h110, h110]
    exact q_meaningOf_110 w hT
  by_cases h116 : (c.toNat : Int) = 116
  · rw [esc_t h116, h116]
    exact q_meaningOf_116 w hT
  by_cases h114 : (c.toNat : Int) = 114
  · rw [esc_r h114, h114]
    exact q_meaningOf_114 w hT
  rw [esc_none ⟨by omega, h110, h116, h114⟩]
  exact q_meaningOf_x _ w hT (beq_eq_false_iff_ne.2 (Ne.symm h34)) (beq_eq_false_iff_ne.2 (Ne.symm h92)) (beq_eq_false_iff_ne.2 (Ne.symm h110)) (beq_eq_false_iff_ne.2 (Ne.symm h116)) (beq_eq_false_iff_ne.2 (Ne.symm h114)) (beq_eq_false_iff_ne.2 (Ne.symm h47))
end Go.Proofs.YtgdlkaoadlipmaaGreatDoor
