/- The contracts of package mix's lowest bits and chunks, and of the document's own. -/
import Derived.Test.YteikjkfeadpdhaaMixWalks
namespace Go.Proofs.Yteikjkfeadpdhaa
open Go.RowKit

theorem pow_nat (m : Nat) : (2 : Int) ^ m = ((2 ^ m : Nat) : Int) := by rw [Int.natCast_pow]; rfl
theorem div_pow_nat (h m : Nat) : (h : Int) / 2 ^ m = ((h / 2 ^ m : Nat) : Int) := by rw [pow_nat, div_nat]
theorem pow_lt {m : Nat} (hm : m < 64) : 2 ^ m < 18446744073709551616 := Nat.pow_lt_pow_right (by decide) hm

theorem mask_nat (m : Nat) (hm : m ≤ 64) : IntKind.u64.wrap (IntKind.u64.wrap ((2 : Int) ^ m) - 1) = ((2 ^ m - 1 : Nat) : Int) := by
  by_cases h : m = 64
  · subst h; decide
  · have h1 := pow_lt (show m < 64 by omega)
    have h2 := Nat.two_pow_pos m
    rw [pow_nat, IntKind.wrap_u64, IntKind.wrap_u64]
    omega

def narrowN (h : Nat) (k : Int) : Nat := h % 2 ^ (min (max k 0) 64).toNat
def chunkN (h : Nat) (k : Int) : Nat := if 0 ≤ k ∧ k ≤ 12 then h / 2 ^ (5 * k).toNat % 32 else 0

theorem narrowN_lt {h : Nat} (k : Int) (hh : h < 18446744073709551616) : narrowN h k < 18446744073709551616 := Nat.lt_of_le_of_lt (Nat.mod_le _ _) hh
theorem chunkN_lt (h : Nat) (k : Int) : chunkN h k < 32 := by unfold chunkN; split <;> omega

theorem mix_Narrow (h : Nat) (k : Int) (hh : h < 18446744073709551616) (w : World) :
    Calls Try.prog 18 #[.int .u64 (h : Int), .int .i64 k] w fun e w' => e = .returned (.int .u64 (narrowN h k : Int)) ∧ w = w' := by
  have e : bits .and .u64 (h : Int) (IntKind.u64.wrap (IntKind.u64.wrap ((2 : Int) ^ (min (max k 0) 64).toNat) - 1)) = (narrowN h k : Int) := by
    have hm : (min (max k 0) 64).toNat ≤ 64 := by omega
    have hp : 2 ^ (min (max k 0) 64).toNat ≤ 2 ^ 64 := Nat.pow_le_pow_right (by decide) hm
    rw [mask_nat _ hm, bits_and_u64_nat h _ hh (by omega), and_mask]
    rfl
  have H := Lib.hid e
  clear e hh
  go_enter Try.func18, Try.ntmps18
  go_wp2
  go_ret
  exact ⟨ret_u64 H.out, rfl⟩

theorem mix_Chunk (h : Nat) (k : Int) (hh : h < 18446744073709551616) (w : World) :
    Calls Try.prog 20 #[.int .u64 (h : Int), .int .i64 k] w fun e w' => e = .returned (.int .i64 (chunkN h k : Int)) ∧ w = w' := by
  by_cases hk : 0 ≤ k ∧ k ≤ 12
  · obtain ⟨q, hq⟩ : ∃ q, q = h / 2 ^ (5 * k).toNat := ⟨_, rfl⟩
    have H := Lib.hid (fun w => mix_Narrow q 5 (hq ▸ Nat.lt_of_le_of_lt (Nat.div_le_self _ _) hh) w)
    have h1 := div_pow_nat h (5 * k).toNat
    rw [← hq] at h1
    have h2 : wrap64 (narrowN q 5 : Int) = (chunkN h k : Int) := by
      have e : narrowN q 5 = q % 32 := rfl
      rw [e, chunkN, if_pos hk, ← hq]
      unfold wrap64; omega
    obtain ⟨k1, k2⟩ := hk
    clear hh hq
    go_enter Try.func20, Try.ntmps20
    go_wp2_with fail
    refine (H.out w).mono ?_
    rintro e w1 ⟨rfl, rfl⟩
    go_wp2_with fail
    go_ret
    exact ⟨ret_i64 h2, rfl⟩
  · have h2 : chunkN h k = 0 := by rw [chunkN, if_neg hk]
    have H := Lib.hid h2
    clear h2 hh
    by_cases h0 : k < 0
    · clear hk
      go_enter Try.func20, Try.ntmps20
      go_wp2_with fail
      go_ret
      exact ⟨ret_i64 (by rw [H.out]; rfl), rfl⟩
    · have h12 : 12 < k := by omega
      clear hk
      go_enter Try.func20, Try.ntmps20
      go_wp2_with fail
      go_ret
      exact ⟨ret_i64 (by rw [H.out]; rfl), rfl⟩

theorem ref_Chunk (h : Nat) (k : Int) (w : World) :
    Calls Try.prog 21 #[.int .u64 (h : Int), .int .i64 k] w fun e w' => e = .returned (.int .i64 (chunkN h k : Int)) ∧ w = w' := by
  by_cases hk : 0 ≤ k ∧ k ≤ 12
  · obtain ⟨q, hq⟩ : ∃ q, q = h / 2 ^ (5 * k).toNat := ⟨_, rfl⟩
    have h1 := div_pow_nat h (5 * k).toNat
    rw [← hq] at h1
    have h2 : (q : Int) % 32 = (chunkN h k : Int) := by rw [chunkN, if_pos hk, ← hq]; omega
    have H2 := Lib.hid h2
    clear h2
    obtain ⟨k1, k2⟩ := hk
    clear hq
    go_enter Try.func21, Try.ntmps21
    go_wp2_with fail
    go_ret
    exact ⟨ret_i64 H2.out, rfl⟩
  · have h2 : chunkN h k = 0 := by rw [chunkN, if_neg hk]
    have H := Lib.hid h2
    clear h2
    by_cases h0 : k < 0
    · clear hk
      go_enter Try.func21, Try.ntmps21
      go_wp2_with fail
      go_ret
      exact ⟨ret_i64 (by rw [H.out]; rfl), rfl⟩
    · have h12 : 12 < k := by omega
      clear hk
      go_enter Try.func21, Try.ntmps21
      go_wp2_with fail
      go_ret
      exact ⟨ret_i64 (by rw [H.out]; rfl), rfl⟩
end Go.Proofs.Yteikjkfeadpdhaa
