/- The contracts of package mix's steps and ends, and of the document's own: each computes only. -/
import Derived.Test.YtjefaibnlhnaiaaChecked
import Derived.Test.YtjefaibnlhnaiaaMixPure
import Derived.WalkKit
import Derived.WalkSpells
import Derived.Outline
import Derived.Lib.Hide
import Derived.Lib.MinMax
namespace Go.Proofs.Ytjefaibnlhnaiaa
open Go.RowKit

theorem u64_mul_nat (a c : Nat) : IntKind.u64.wrap ((a : Int) * (c : Int)) = ((a * c % 18446744073709551616 : Nat) : Int) := by
  rw [IntKind.wrap_u64, ← Int.natCast_mul]; omega
theorem u64_add_nat (a c : Nat) : IntKind.u64.wrap ((a : Int) + (c : Int)) = (((a + c) % 18446744073709551616 : Nat) : Int) := by
  rw [IntKind.wrap_u64]; omega
theorem div_nat (a c : Nat) : (a : Int) / (c : Int) = ((a / c : Nat) : Int) := (Int.natCast_ediv a c).symm
theorem ret_u64 {x y : Int} (h : x = y) : Ending.returned (.int .u64 x) = .returned (.int .u64 y) := by rw [h]
theorem ret_i64 {x y : Int} (h : x = y) : Ending.returned (.int .i64 x) = .returned (.int .i64 y) := by rw [h]

/-- a rotation by 31, as the walk spells it -/
theorem rot_nat (t : Nat) (ht : t < 18446744073709551616) :
    bits .or .u64 (IntKind.u64.wrap ((t : Int) * 2147483648)) ((t : Int) / 8589934592) = (rotT t : Int) := by
  have e1 := u64_mul_nat t 2147483648
  have e2 := div_nat t 8589934592
  have e3 := bits_or_u64_nat (t * 2147483648 % 18446744073709551616) (t / 8589934592) (Nat.mod_lt _ (by decide)) (by omega)
  rw [← e1, ← e2] at e3
  exact e3
theorem fold_nat (h : Nat) (hh : h < 18446744073709551616) : bits .xor .u64 (h : Int) ((h : Int) / 4294967296) = (foldN h : Int) :=
  xorShift_u64 h 4294967296 hh

theorem mix_rotl (x : Nat) (hx : x < 18446744073709551616) (w : World) :
    Calls Try.prog 49 #[.int .u64 (x : Int), .int .i64 31] w fun e w' => e = .returned (.int .u64 (rotT x : Int)) ∧ w = w' := by
  have H := Lib.hid (rot_nat x hx)
  have hb : bits BinOp.and IntKind.u64 31 63 = 31 := by decide
  go_enter Try.func49, Try.ntmps49
  go_wp2
  go_ret
  exact ⟨ret_u64 H.out, rfl⟩

theorem mix_fold (h : Nat) (hh : h < 18446744073709551616) (w : World) :
    Calls Try.prog 50 #[.int .u64 (h : Int)] w fun e w' => e = .returned (.int .u64 (foldN h : Int)) ∧ w = w' := by
  have H := Lib.hid (fold_nat h hh)
  go_enter Try.func50, Try.ntmps50
  go_wp2
  go_ret
  exact ⟨ret_u64 H.out, rfl⟩

theorem xmul_nat (h x : Nat) (hh : h < 18446744073709551616) (hx : x < 18446744073709551616) :
    IntKind.u64.wrap (bits .xor .u64 (h : Int) (x : Int) * 11400714819323198485) = (stepT (h ^^^ x) : Int) := by
  rw [bits_xor_u64_nat h x hh hx]; exact u64_mul_nat _ 11400714819323198485

theorem mix_Step (h x : Nat) (hh : h < 18446744073709551616) (hx : x < 18446744073709551616) (w : World) :
    Calls Try.prog 43 #[.int .u64 (h : Int), .int .u64 (x : Int)] w fun e w' => e = .returned (.int .u64 (stepN h x : Int)) ∧ w = w' := by
  have h1 := xmul_nat h x hh hx
  have H2 := Lib.hid (u64_add_nat (rotT (stepT (h ^^^ x))) 15485907386658061715)
  have l : stepT (h ^^^ x) < 18446744073709551616 := Nat.mod_lt _ (by decide)
  have L := Lib.hid l
  clear l hh hx
  go_enter Try.func43, Try.ntmps43
  go_wp2_with fail
  refine (mix_rotl _ L.out w).mono ?_
  rintro e w1 ⟨rfl, rfl⟩
  go_wp2_with fail
  go_ret
  exact ⟨ret_u64 H2.out, rfl⟩

theorem mix_End (h : Nat) (hh : h < 18446744073709551616) (w : World) :
    Calls Try.prog 45 #[.int .u64 (h : Int)] w fun e w' => e = .returned (.int .u64 (endN h : Int)) ∧ w = w' := by
  have h1 := u64_mul_nat (foldN h) 15485907386658061715
  have l : foldN h * 15485907386658061715 % 18446744073709551616 < 18446744073709551616 := Nat.mod_lt _ (by decide)
  obtain ⟨m, hm⟩ : ∃ m, m = foldN h * 15485907386658061715 % 18446744073709551616 := ⟨_, rfl⟩
  rw [← hm] at h1 l
  have h2 : IntKind.u64.wrap ((foldN h : Int) * 15485907386658061715) = (m : Int) := h1
  have E := Lib.hid (show endN h = foldN m by rw [hm]; rfl)
  have L := Lib.hid l
  have HH := Lib.hid hh
  clear hm h1 l hh
  go_enter Try.func45, Try.ntmps45
  go_wp2_with fail
  refine (mix_fold _ HH.out w).mono ?_
  rintro e w1 ⟨rfl, rfl⟩
  go_wp2_with fail
  refine (mix_fold _ L.out w).mono ?_
  rintro e w1 ⟨rfl, rfl⟩
  go_wp2_with fail
  go_ret
  exact ⟨ret_u64 (by rw [E.out]), rfl⟩

theorem ref_Step (h x : Nat) (hh : h < 18446744073709551616) (hx : x < 18446744073709551616) (w : World) :
    Calls Try.prog 46 #[.int .u64 (h : Int), .int .u64 (x : Int)] w fun e w' => e = .returned (.int .u64 (stepN h x : Int)) ∧ w = w' := by
  have h1 := xmul_nat h x hh hx
  have h2 := rot_nat (stepT (h ^^^ x)) (Nat.mod_lt _ (by decide))
  have H3 := Lib.hid (u64_add_nat (rotT (stepT (h ^^^ x))) 15485907386658061715)
  clear hh hx
  go_enter Try.func46, Try.ntmps46
  go_wp2
  go_ret
  exact ⟨ret_u64 H3.out, rfl⟩

theorem ref_End (h : Nat) (hh : h < 18446744073709551616) (w : World) :
    Calls Try.prog 47 #[.int .u64 (h : Int)] w fun e w' => e = .returned (.int .u64 (endN h : Int)) ∧ w = w' := by
  have h1 := u64_mul_nat (foldN h) 15485907386658061715
  have l : foldN h * 15485907386658061715 % 18446744073709551616 < 18446744073709551616 := Nat.mod_lt _ (by decide)
  obtain ⟨m, hm⟩ : ∃ m, m = foldN h * 15485907386658061715 % 18446744073709551616 := ⟨_, rfl⟩
  rw [← hm] at h1 l
  have h0 := fold_nat h hh
  have h2 : IntKind.u64.wrap ((foldN h : Int) * 15485907386658061715) = (m : Int) := h1
  have E := Lib.hid (show endN h = foldN m by rw [hm]; rfl)
  have h3 := fold_nat m l
  clear hm h1 l hh
  go_enter Try.func47, Try.ntmps47
  go_wp2
  go_ret
  exact ⟨ret_u64 (by rw [E.out]), rfl⟩
end Go.Proofs.Ytjefaibnlhnaiaa
