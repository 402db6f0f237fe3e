/- Package sparse: the bit of a place; how many bits a word has; its lowest place. -/
import Derived.Test.YtmdfpkklnaekmaaDoorSparseList
import Derived.Test.YtmdfpkklnaekmaaDoorCells
import Derived.Handy
import Derived.Deep.QuietTactic
import Derived.BigQuiet
import Derived.Deep.RegionWith
import Derived.Deep.Cut
import Derived.Lib.Tables
namespace Go.Proofs.YtmdfpkklnaekmaaDoor
open Go.RowKit
set_option maxRecDepth 1000000
set_option linter.unusedSimpArgs false

set_option maxHeartbeats 1000000 in
theorem sp_bit_off (i : Int) (h : ¬ onP i = true) (w : World) : Calls Tryd.prog 30 #[.int .i64 i] w fun e w' => e = .returned (.int .u32 0) ∧ w' = w := by
  have h' : i < 0 ∨ 32 ≤ i := by simp [onP] at h; omega
  by_cases h1 : i < 0
  · go_enter Tryd.func30, Tryd.ntmps30
    go_wp2
    go_ret
    exact ⟨rfl, rfl⟩
  · have h2 : 32 ≤ i := by omega
    have h3 : 0 ≤ i := by omega
    clear h h'
    go_enter Tryd.func30, Tryd.ntmps30
    go_wp2
    go_ret
    exact ⟨rfl, rfl⟩
theorem pow_word {j : Nat} (hj : j < 32) : (2 : Int) ^ j % 4294967296 = ((2 ^ j : Nat) : Int) := by
  have h : 2 ^ j < 4294967296 := Nat.pow_lt_pow_right (show 1 < 2 by decide) hj
  have e : ((2 : Int) ^ j) = ((2 ^ j : Nat) : Int) := by simp
  rw [e]
  generalize 2 ^ j = m at h
  omega
set_option maxHeartbeats 1000000 in
theorem sp_bit_on (j : Nat) (hj : j < 32) (w : World) : Calls Tryd.prog 30 #[.int .i64 (j : Int)] w fun e w' => e = .returned (.int .u32 ((2 ^ j : Nat) : Int)) ∧ w' = w := by
  have hp := Lib.hid (pow_word hj)
  have h1 : (j : Int) < 32 := by omega
  have h2 : 0 ≤ (j : Int) := by omega
  go_enter Tryd.func30, Tryd.ntmps30
  go_wp2
  go_ret
  exact ⟨congrArg (fun x => Ending.returned (.int .u32 x)) hp.out, rfl⟩
theorem mask_8 (x : Int) (h0 : 0 ≤ x) (h1 : x < 4294967296) : bits .and .u32 x 255 = x % 256 :=
  bits_mask .u32 32 (by decide) (fun n a c => by rw [IntKind.wrap_u32]; simp only [Int.reducePow] at c; omega) 8 (by decide) x h0 (by simp only [Int.reducePow]; omega)
theorem pop8_rk : ∀ n : Fin 256, Lib.pop8 (n.val : Int) = (rkN n.val 8 : Int) := by decide +kernel
theorem pop8_at (n : Nat) (h : n < 256) : Lib.pop8 (n : Int) = (rkN n 8 : Int) := pop8_rk ⟨n, h⟩
set_option maxHeartbeats 1000000 in
theorem sp_ones (x : Nat) (hx : x < 4294967296) (w : World) : Calls Tryd.prog 38 #[.int .u32 (x : Int)] w fun e w' => e = .returned (.int .i64 (rkN x 32 : Nat)) ∧ ∃ n, w' = w.drewN n := by
  have h1 : 0 ≤ (x : Int) := by omega
  have h2 : (x : Int) < 4294967296 := by omega
  have h3 : 0 ≤ (x : Int) / 16777216 := by omega
  have h4 : (x : Int) / 16777216 ≤ 255 := by omega
  have h5 : 0 ≤ (x : Int) / 65536 := by omega
  have h6 : 0 ≤ (x : Int) / 256 := by omega
  have hv : Hid ((Lib.pop8 ((x : Int) / 16777216) + Lib.pop8 ((x : Int) / 65536 % 256) + Lib.pop8 ((x : Int) / 256 % 256) + Lib.pop8 ((x : Int) % 256)) % 256 = ((rkN x 32 : Nat) : Int)) := by
    show _ = _
    have q1 : Lib.pop8 ((x : Int) / 16777216) = ((rkN (x / 16777216) 8 : Nat) : Int) := pop8_at (x / 16777216) (by omega)
    have q2 : Lib.pop8 ((x : Int) / 65536 % 256) = ((rkN (x / 65536 % 256) 8 : Nat) : Int) := pop8_at (x / 65536 % 256) (by omega)
    have q3 : Lib.pop8 ((x : Int) / 256 % 256) = ((rkN (x / 256 % 256) 8 : Nat) : Int) := pop8_at (x / 256 % 256) (by omega)
    have q4 : Lib.pop8 ((x : Int) % 256) = ((rkN (x % 256) 8 : Nat) : Int) := pop8_at (x % 256) (by omega)
    have g1 := rk_le (x / 16777216) 8
    have g2 := rk_le (x / 65536 % 256) 8
    have g3 := rk_le (x / 256 % 256) 8
    have g4 := rk_le (x % 256) 8
    rw [q1, q2, q3, q4, rk_bytes]
    omega
  have m1 := mask_8 ((x : Int) / 65536) (by omega) (by omega)
  have m2 := mask_8 ((x : Int) / 256) (by omega) (by omega)
  have m3 := mask_8 (x : Int) (by omega) (by omega)
  go_enter Tryd.func38, Tryd.ntmps38
  go_upto_region 1 with fail
  generalize hT : (ByteArray.mk (List.toArray _) : ByteArray) = t
  obtain rfl : Lib.pop8tab = t := by rw [← hT]; decide +kernel
  clear hT
  go_quiet (fail)
  go_wp2
  go_ret
  exact ⟨congrArg (fun v => Ending.returned (.int .i64 v)) hv.out, nq, rfl⟩
set_option maxHeartbeats 1000000 in
theorem sp_count (x : Nat) (hx : x < 4294967296) (w : World) : Calls Tryd.prog 36 #[.int .u32 (x : Int)] w fun e w' => e = .returned (.int .i64 (rkN x 32 : Nat)) ∧ ∃ n, w' = w.drewN n := by
  go_enter Tryd.func36, Tryd.ntmps36
  go_wp2_with (go_at_call 38; refine (sp_ones x hx _).mono ?_; rintro e w1 ⟨rfl, n, rfl⟩)
  go_ret
  exact ⟨rfl, n, rfl⟩
/-- The library's table of the lowest bits lies where the program's text lays it. -/
def Tab6 (w : World) : Prop := ∀ j, j < 32 → w.cell? ⟨0, j, none⟩ = some (.int .u8 (Lib.deBruijn32tab.getD j 0 : Nat))
theorem Tab6.below {w w' : World} (h : Tab6 w) (hb : Below w.heap.size w w') : Tab6 w' := fun j hj => (hb.cell (p := ⟨0, j, none⟩) (World.block_lt_of_cell? w _ (h j hj))).trans (h j hj)
theorem sp_key (x a : Nat) (hx : x < 4294967296) (hx0 : x ≠ 0) (hlow : x &&& (4294967296 - x) = a) :
    bits BinOp.and IntKind.u32 (x : Int) (-(x : Int) % 4294967296) * 125613361 % 4294967296 / 134217728 = ((a * 125613361 % 4294967296 / 134217728 : Nat) : Int) := by
  have e1 : -(x : Int) % 4294967296 = ((4294967296 - x : Nat) : Int) := by omega
  rw [e1, and_32 x _ hx, hlow]
  omega
set_option maxHeartbeats 1000000 in
theorem sp_zeros_core (x k idx : Nat) (w : World) (hx0 : ((x : Int) == 0) = false)
    (key : bits BinOp.and IntKind.u32 (x : Int) (-(x : Int) % 4294967296) * 125613361 % 4294967296 / 134217728 = (idx : Int))
    (hi : idx < 32) (hk : k < 32) (hcell : w.cell? ⟨0, idx, none⟩ = some (.int .u8 k)) :
    Calls Tryd.prog 35 #[.int .u32 x] w fun e w' => e = .returned (.int .i64 k) ∧ w' = w := by
  go_enter Tryd.func35, Tryd.ntmps35
  go_wp2_with (simp only [key])
  go_ret
  exact ⟨rfl, rfl⟩
theorem sp_zeros (x : Nat) (hx : x < 4294967296) (hx0 : x ≠ 0) (w : World) (hT : Tab6 w) :
    Calls Tryd.prog 35 #[.int .u32 x] w fun e w' => e = .returned (.int .i64 (Lib.ctz 32 x : Nat)) ∧ w' = w := by
  obtain ⟨hlow, hk⟩ := Lib.lowest_bit 32 x hx0 hx
  obtain ⟨hi, htab⟩ := Lib.deBruijn32_at _ hk
  have hcell := hT _ hi
  rw [htab] at hcell
  exact sp_zeros_core x _ _ w (by simp; omega) (sp_key x _ hx hx0 hlow) hi hk hcell
set_option maxHeartbeats 2000000 in
theorem sp_around (b : Nat) (hb : b < 4294967296) (v : Value) (j : Nat) (hj : j < 32) (w : World) :
    Calls Tryd.prog 31 #[.agg #[.int .u32 (b : Int), v], .int .i64 (j : Int)] w fun e w' => e = .returned (.tuple #[.int .i64 (rkN b j : Nat), .int .i64 (rkN b (j + 1) : Nat)]) ∧ Below w.heap.size w w' := by
  have hB := sp_bit_on j hj
  obtain ⟨p, hp⟩ : ∃ p, p = 2 ^ j := ⟨_, rfl⟩
  rw [← hp] at hB
  have hp1 : 0 < p := by rw [hp]; exact Nat.two_pow_pos j
  have hp2 : p < 4294967296 := by rw [hp]; exact Nat.pow_lt_pow_right (show 1 < 2 by decide) hj
  obtain ⟨m, hm⟩ : ∃ m, m = p - 1 := ⟨_, rfl⟩
  have e1 : (p : Int) - 1 = (m : Int) := by omega
  obtain ⟨q, hq⟩ : ∃ q, q = m ||| p := ⟨_, rfl⟩
  have hm32 : m < 2 ^ 32 := by
    show m < 4294967296
    omega
  have hp32 : p < 2 ^ 32 := hp2
  have e2 : bits .or .u32 (m : Int) (p : Int) = (q : Int) := by rw [hq]; exact (bits_nat .u32 32 (by decide) (fun n a c => by rw [IntKind.wrap_u32]; simp only [Int.reducePow] at c; omega) m p hm32 hp32).2
  obtain ⟨x1, hx1⟩ : ∃ x, x = b &&& m := ⟨_, rfl⟩
  obtain ⟨x2, hx2⟩ : ∃ x, x = b &&& q := ⟨_, rfl⟩
  have e3 : bits .and .u32 (b : Int) (m : Int) = (x1 : Int) := by rw [hx1]; exact and_32 b m hb
  have e4 : bits .and .u32 (b : Int) (q : Int) = (x2 : Int) := by rw [hx2]; exact and_32 b q hb
  have l1 : x1 < 4294967296 := by rw [hx1]; exact Nat.lt_of_le_of_lt Nat.and_le_left hb
  have l2 : x2 < 4294967296 := by rw [hx2]; exact Nat.lt_of_le_of_lt Nat.and_le_left hb
  have hq2 : q = 2 ^ (j + 1) - 1 := by
    have := Nat.two_pow_add_eq_or_of_lt (i := j) (b := m) (by omega) 1
    rw [Nat.mul_one, ← hp, Nat.or_comm, ← hq] at this
    rw [← this, Nat.pow_succ, ← hp]
    omega
  have r1 : rkN x1 32 = rkN b j := by rw [hx1, hm, hp]; exact rk_low b j (by omega)
  have r2 : rkN x2 32 = rkN b (j + 1) := by rw [hx2, hq2]; exact rk_low b (j + 1) (by omega)
  have c1 := sp_count x1 l1
  have c2 := sp_count x2 l2
  rw [r1] at c1
  rw [r2] at c2
  have C1 := Lib.hid c1
  have C2 := Lib.hid c2
  have HB := Lib.hid hB
  clear c1 c2 hB hq2 hp hm hq hx1 hx2 r1 r2 hm32 hp32
  go_enter Tryd.func31, Tryd.ntmps31
  go_upto_region 2 with (go_at_call 30; refine (HB.out _).mono ?_; rintro e w1 ⟨rfl, rfl⟩)
  go_quiet (first | (go_at_call 30; exact Calls.quiet_of_same (HB.out _)) | (go_at_call_of 36 (Value.int IntKind.u32 (x1 : Int)); exact Calls.quiet_of (C1.out _)) | (go_at_call_of 36 (Value.int IntKind.u32 (x2 : Int)); exact Calls.quiet_of (C2.out _)))
  go_wp2
  go_ret2
  exact ⟨rfl, Below.drewMany (Below.newly' _ _) _⟩
end Go.Proofs.YtmdfpkklnaekmaaDoor
