/- The contracts of package mix's lowest bits and chunks, and of the document's own. -/
import Derived.Test.YtjefaibnlhnaiaaMixWalks
namespace Go.Proofs.Ytjefaibnlhnaiaa
open Go.RowKit

theorem pow_nat (m : Nat) : (2 : Int) ^ m = ((2 ^ m : Nat) : Int) := by rw [Int.natCast_pow]; rfl
theorem div_pow_nat (h m : Nat) : (h : Int) / 2 ^ m = ((h / 2 ^ m : Nat) : Int) := by rw [pow_nat, div_nat]
theorem pow_lt {m : Nat} (hm : m < 64) : 2 ^ m < 18446744073709551616 := Nat.pow_lt_pow_right (by decide) hm

theorem mask_nat (m : Nat) (hm : m ≤ 64) : IntKind.u64.wrap (IntKind.u64.wrap ((2 : Int) ^ m) - 1) = ((2 ^ m - 1 : Nat) : Int) := by
  by_cases h : m = 64
  · subst h; decide
  · have h1 := pow_lt (show m < 64 by omega)
    have h2 := Nat.two_pow_pos m
    rw [pow_nat, IntKind.wrap_u64, IntKind.wrap_u64]
    omega

def narrowN (h : Nat) (k : Int) : Nat := h % 2 ^ (min (max k 0) 64).toNat
def chunkN (h : Nat) (k : Int) : Nat := if 0 ≤ k ∧ k ≤ 12 then h / 2 ^ (5 * k).toNat % 32 else 0

theorem narrowN_lt {h : Nat} (k : Int) (hh : h < 18446744073709551616) : narrowN h k < 18446744073709551616 := Nat.lt_of_le_of_lt (Nat.mod_le _ _) hh
theorem chunkN_lt (h : Nat) (k : Int) : chunkN h k < 32 := by unfold chunkN; split <;> omega



end Go.Proofs.Ytjefaibnlhnaiaa
