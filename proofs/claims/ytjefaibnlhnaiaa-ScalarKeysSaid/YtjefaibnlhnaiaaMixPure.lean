/- Plain facts on whole numbers below 2^64, as package mix takes them: steps and ends and that they can be undone; the lowest bits; chunks; the words of a text. No program is imported. -/
import Derived.Laws.ShiftsVarLaws
import Derived.WalkKit
namespace Go.Proofs.Ytjefaibnlhnaiaa
open Go.RowKit


/-- two to the 64 -/
abbrev M64 : Nat := 18446744073709551616

def stepT (a : Nat) : Nat := a * 11400714819323198485 % 18446744073709551616
def rotT (t : Nat) : Nat := t * 2147483648 % 18446744073709551616 ||| t / 8589934592
def stepN (h x : Nat) : Nat := (rotT (stepT (h ^^^ x)) + 15485907386658061715) % 18446744073709551616
def foldN (h : Nat) : Nat := h ^^^ h / 4294967296
def endN (h : Nat) : Nat := foldN (foldN h * 15485907386658061715 % 18446744073709551616)

theorem xor_lt {a b : Nat} (ha : a < 18446744073709551616) (hb : b < 18446744073709551616) : a ^^^ b < 18446744073709551616 := Nat.xor_lt_two_pow (n := 64) ha hb
theorem or_lt {a b : Nat} (ha : a < 18446744073709551616) (hb : b < 18446744073709551616) : a ||| b < 18446744073709551616 := Nat.or_lt_two_pow (n := 64) ha hb
theorem stepN_lt (h x : Nat) : stepN h x < 18446744073709551616 := Nat.mod_lt _ (by decide)
theorem foldN_lt {h : Nat} (hh : h < 18446744073709551616) : foldN h < 18446744073709551616 := xor_lt hh (Nat.lt_of_le_of_lt (Nat.div_le_self _ _) hh)
theorem endN_lt (h : Nat) : endN h < 18446744073709551616 := foldN_lt (Nat.mod_lt _ (by decide))

theorem foldN_foldN {h : Nat} (hh : h < 18446744073709551616) : foldN (foldN h) = h := by
  have e : ∀ n : Nat, n / 4294967296 = n >>> 32 := fun n => by rw [Nat.shiftRight_eq_div_pow]
  have z : h >>> 32 >>> 32 = 0 := by rw [← Nat.shiftRight_add, Nat.shiftRight_eq_div_pow]; exact Nat.div_eq_of_lt hh
  unfold foldN
  rw [e, e, Nat.shiftRight_xor_distrib, z, Nat.xor_zero, Nat.xor_assoc, Nat.xor_self, Nat.xor_zero]

theorem foldN_inj {a b : Nat} (ha : a < 18446744073709551616) (hb : b < 18446744073709551616) (h : foldN a = foldN b) : a = b := by
  rw [← foldN_foldN ha, ← foldN_foldN hb, h]

theorem mul_inj (c d : Nat) (hcd : c * d % 18446744073709551616 = 1) {a b : Nat} (ha : a < 18446744073709551616) (hb : b < 18446744073709551616) (h : a * c % 18446744073709551616 = b * c % 18446744073709551616) : a = b := by
  have back : ∀ n : Nat, n < 18446744073709551616 → (n * c % 18446744073709551616) * d % 18446744073709551616 = n := fun n hn => by
    rw [Nat.mod_mul_mod, Nat.mul_assoc, Nat.mul_mod, hcd, Nat.mul_one, Nat.mod_mod, Nat.mod_eq_of_lt hn]
  rw [← back a ha, ← back b hb, h]

theorem rotT_eq {t : Nat} (ht : t < 18446744073709551616) : rotT t = 2147483648 * (t % 8589934592) + t / 8589934592 := by
  unfold rotT
  have e : t * 2147483648 % 18446744073709551616 = 2 ^ 31 * (t % 8589934592) := by
    show _ = 2147483648 * _
    omega
  rw [e, ← Nat.two_pow_add_eq_or_of_lt (i := 31) (by omega)]

theorem rotT_inj {a b : Nat} (ha : a < 18446744073709551616) (hb : b < 18446744073709551616) (h : rotT a = rotT b) : a = b := by
  rw [rotT_eq ha, rotT_eq hb] at h
  have q1 : a / 8589934592 = b / 8589934592 := by omega
  have q2 : a % 8589934592 = b % 8589934592 := by omega
  rw [← Nat.div_add_mod a 8589934592, ← Nat.div_add_mod b 8589934592, q1, q2]

theorem rotT_lt {a : Nat} (ha : a < 18446744073709551616) : rotT a < 18446744073709551616 := by
  rw [rotT_eq ha]
  omega

theorem stepN_inj {a b : Nat} (ha : a < 18446744073709551616) (hb : b < 18446744073709551616)
    (h : (rotT (stepT a) + 15485907386658061715) % 18446744073709551616 = (rotT (stepT b) + 15485907386658061715) % 18446744073709551616) : a = b := by
  have l : ∀ n, stepT n < 18446744073709551616 := fun n => Nat.mod_lt _ (by decide)
  have h1 := rotT_lt (l a)
  have h2 := rotT_lt (l b)
  have h3 : rotT (stepT a) = rotT (stepT b) := by omega
  have h4 := rotT_inj (l a) (l b) h3
  exact mul_inj 11400714819323198485 17428512612931826493 (by decide) ha hb h4

theorem xor_left_inj' {a b c : Nat} (h : a ^^^ b = a ^^^ c) : b = c := by
  have : a ^^^ (a ^^^ b) = a ^^^ (a ^^^ c) := by rw [h]
  rwa [← Nat.xor_assoc, ← Nat.xor_assoc, Nat.xor_self, Nat.zero_xor, Nat.zero_xor] at this

theorem step_right {h x y : Nat} (hh : h < 18446744073709551616) (hx : x < 18446744073709551616) (hy : y < 18446744073709551616) : stepN h x = stepN h y ↔ x = y :=
  ⟨fun e => xor_left_inj' (stepN_inj (xor_lt hh hx) (xor_lt hh hy) e), fun e => by rw [e]⟩
theorem step_left {g h x : Nat} (hg : g < 18446744073709551616) (hh : h < 18446744073709551616) (hx : x < 18446744073709551616) : stepN g x = stepN h x ↔ g = h :=
  ⟨fun e => by
    have := stepN_inj (xor_lt hg hx) (xor_lt hh hx) e
    rw [Nat.xor_comm g, Nat.xor_comm h] at this
    exact xor_left_inj' this, fun e => by rw [e]⟩
theorem end_inj {g h : Nat} (hg : g < 18446744073709551616) (hh : h < 18446744073709551616) : endN g = endN h ↔ g = h :=
  ⟨fun e => by
    have l : ∀ n : Nat, n % 18446744073709551616 < 18446744073709551616 := fun n => Nat.mod_lt _ (by decide)
    have h1 := foldN_inj (l _) (l _) e
    exact foldN_inj hg hh (mul_inj 15485907386658061715 14982988110149298331 (by decide) (foldN_lt hg) (foldN_lt hh) h1), fun e => by rw [e]⟩

/-- the lowest k bits -/
theorem and_mask (h k : Nat) : h &&& (2 ^ k - 1) = h % 2 ^ k := Nat.and_two_pow_sub_one_eq_mod h k

/-- one bit more -/
theorem low_bit (h i : Nat) : h % 2 ^ i ||| (h &&& 2 ^ i) = h % 2 ^ (i + 1) := by
  apply Nat.eq_of_testBit_eq
  intro j
  simp only [Nat.testBit_or, Nat.testBit_mod_two_pow, Nat.testBit_and, Nat.testBit_two_pow]
  by_cases h1 : j < i
  · have : i ≠ j := by omega
    simp [h1, show j < i + 1 by omega, this]
  · by_cases h2 : i = j
    · subst h2; simp
    · simp [h1, h2, show ¬ j < i + 1 by omega]

/-- one chunk more -/
theorem low_chunk (h i : Nat) : h % 2 ^ (5 * i) ||| (h / 2 ^ (5 * i) % 32) * 2 ^ (5 * i) = h % 2 ^ (5 * (i + 1)) := by
  have e : h % 2 ^ (5 * (i + 1)) = 2 ^ (5 * i) * (h / 2 ^ (5 * i) % 32) + h % 2 ^ (5 * i) := by
    rw [show 5 * (i + 1) = 5 * i + 5 by omega, Nat.pow_add, Nat.mod_mul]
    show _ + _ * (_ % 32) = _
    omega
  rw [e, Nat.two_pow_add_eq_or_of_lt (Nat.mod_lt _ (Nat.two_pow_pos _)), Nat.or_comm, Nat.mul_comm]

/-- a chunk of narrowed bits -/
theorem chunk_low_lt (h n l : Nat) (hl : l < n) : h % 2 ^ (5 * n) / 2 ^ (5 * l) % 32 = h / 2 ^ (5 * l) % 32 := by
  obtain ⟨d, rfl⟩ : ∃ d, n = l + 1 + d := ⟨n - (l + 1), by omega⟩
  rw [show 5 * (l + 1 + d) = 5 * l + (5 + 5 * d) by omega, Nat.pow_add, Nat.mod_mul_right_div_self, Nat.pow_add]
  exact Nat.mod_mul_right_mod _ 32 _

theorem chunk_low_ge (h n l : Nat) (hl : n ≤ l) : h % 2 ^ (5 * n) / 2 ^ (5 * l) % 32 = 0 := by
  have : h % 2 ^ (5 * n) < 2 ^ (5 * l) := Nat.lt_of_lt_of_le (Nat.mod_lt _ (Nat.two_pow_pos _)) (Nat.pow_le_pow_right (by decide) (by omega))
  rw [Nat.div_eq_of_lt this]

/-! ### the words of a text -/

/-- the first k bytes of l, the first one highest of eight -/
def wd (l : List UInt8) : Nat → Nat
  | 0 => 0
  | k + 1 => wd l k ||| (l.getD k 0).toNat * 2 ^ (8 * (7 - k))

/-- the sum behind j words -/
def hs (seed : Nat) (l : List UInt8) : Nat → Nat
  | 0 => stepN seed l.length
  | j + 1 => stepN (hs seed l j) (wd (l.drop (8 * j)) (min (l.length - 8 * j) 8))

def txtN (seed : Nat) (l : List UInt8) : Nat := endN (hs seed l ((l.length + 7) / 8))

/-- the sum behind j of these words -/
def ws (seed : Nat) (l : List Nat) : Nat → Nat
  | 0 => stepN seed l.length
  | j + 1 => stepN (ws seed l j) (l.getD j 0)

def wordsN (seed : Nat) (l : List Nat) : Nat := endN (ws seed l l.length)

theorem byte_lt (c : UInt8) (k : Nat) (_ : k ≤ 7) : c.toNat * 2 ^ (8 * (7 - k)) < 18446744073709551616 := by
  have hc : c.toNat < 256 := c.toNat_lt
  calc c.toNat * 2 ^ (8 * (7 - k)) < 256 * 2 ^ (8 * (7 - k)) := Nat.mul_lt_mul_of_pos_right hc (Nat.two_pow_pos _)
    _ ≤ 256 * 2 ^ 56 := Nat.mul_le_mul_left _ (Nat.pow_le_pow_right (by decide) (by omega))
    _ = 18446744073709551616 := by decide

theorem wd_lt (l : List UInt8) : ∀ k, k ≤ 8 → wd l k < 18446744073709551616
  | 0, _ => Nat.zero_lt_succ _
  | k + 1, h => or_lt (wd_lt l k (by omega)) (byte_lt _ k (by omega))

theorem hs_lt (seed : Nat) (l : List UInt8) : ∀ j, hs seed l j < 18446744073709551616
  | 0 => stepN_lt _ _
  | _ + 1 => stepN_lt _ _

theorem ws_lt (seed : Nat) (l : List Nat) : ∀ j, ws seed l j < 18446744073709551616
  | 0 => stepN_lt _ _
  | _ + 1 => stepN_lt _ _
end Go.Proofs.Ytjefaibnlhnaiaa
