/- Plain facts of layer 6: rows of 32 places. No program is imported. -/
import Derived.Test.YtmdfpkklnaekmaaDoorChecked
import Derived.WalkKit
import Derived.Laws.BitsLemmas
import Derived.Lib.EndianBits
namespace Go.Proofs.YtmdfpkklnaekmaaDoor
open Go.RowKit
set_option maxRecDepth 1000000

/-- A row, plainly: what is at each place. -/
abbrev Rw := Nat → Option Int
/-- Nothing beyond place 31; all that is there is a number of 64 bits. -/
structure Ok (R : Rw) : Prop where
  off : ∀ i, 32 ≤ i → R i = none
  inr : ∀ i n, R i = some n → -9223372036854775808 ≤ n ∧ n ≤ 9223372036854775807
def noR : Rw := fun _ => none
theorem Ok.no : Ok noR := ⟨fun _ _ => rfl, fun _ _ h => by cases h⟩
def onP (i : Int) : Bool := decide (0 ≤ i ∧ i < 32)
theorem on_nat {i : Int} (h : onP i = true) : ∃ j : Nat, i = (j : Int) ∧ j < 32 := by
  have h' : 0 ≤ i ∧ i < 32 := by simpa [onP] using h
  exact ⟨i.toNat, by omega, by omega⟩
theorem on_of {j : Nat} (h : j < 32) : onP (j : Int) = true := by simp [onP]; omega
def getR (R : Rw) (i : Int) : Int × Bool := if onP i = true then ((R i.toNat).getD 0, (R i.toNat).isSome) else (0, false)
theorem get_on {R : Rw} {j : Nat} (h : j < 32) : getR R (j : Int) = ((R j).getD 0, (R j).isSome) := by unfold getR; rw [if_pos (on_of h)]; rfl
theorem get_off {R : Rw} {i : Int} (h : ¬ onP i = true) : getR R i = (0, false) := by unfold getR; rw [if_neg h]
def setR (R : Rw) (i x : Int) : Rw := if onP i = true then fun j => if j = i.toNat then some x else R j else R
def cutR (R : Rw) (i : Int) : Rw := if onP i = true then fun j => if j = i.toNat then none else R j else R
theorem set_on {R : Rw} {j : Nat} (x : Int) (h : j < 32) : setR R (j : Int) x = fun k => if k = j then some x else R k := by unfold setR; rw [if_pos (on_of h)]; rfl
theorem cut_on {R : Rw} {j : Nat} (h : j < 32) : cutR R (j : Int) = fun k => if k = j then none else R k := by unfold cutR; rw [if_pos (on_of h)]; rfl
theorem set_off {R : Rw} {i x : Int} (h : ¬ onP i = true) : setR R i x = R := by unfold setR; rw [if_neg h]
theorem cut_off {R : Rw} {i : Int} (h : ¬ onP i = true) : cutR R i = R := by unfold cutR; rw [if_neg h]
theorem Ok.set {R : Rw} (h : Ok R) (i x : Int) (hx : -9223372036854775808 ≤ x ∧ x ≤ 9223372036854775807) : Ok (setR R i x) := by
  by_cases ho : onP i = true
  · obtain ⟨j, rfl, hj⟩ := on_nat ho
    rw [set_on x hj]
    refine ⟨fun k hk => ?_, fun k n hn => ?_⟩
    · show (if k = j then some x else R k) = none
      rw [if_neg (by omega)]; exact h.off k hk
    · replace hn : (if k = j then some x else R k) = some n := hn
      split at hn
      · cases hn; exact hx
      · exact h.inr k n hn
  · rw [set_off ho]; exact h
theorem Ok.cut {R : Rw} (h : Ok R) (i : Int) : Ok (cutR R i) := by
  by_cases ho : onP i = true
  · obtain ⟨j, rfl, hj⟩ := on_nat ho
    rw [cut_on hj]
    refine ⟨fun k hk => ?_, fun k n hn => ?_⟩
    · show (if k = j then none else R k) = none
      split
      · rfl
      · exact h.off k hk
    · replace hn : (if k = j then none else R k) = some n := hn
      split at hn
      · cases hn
      · exact h.inr k n hn
  · rw [cut_off ho]; exact h
/-- How many places below k have something. -/
def cntR (R : Rw) : Nat → Nat
  | 0 => 0
  | k + 1 => cntR R k + (if (R k).isSome = true then 1 else 0)
/-- The sum of 2^i of those. -/
def bitsR (R : Rw) : Nat → Nat
  | 0 => 0
  | k + 1 => bitsR R k + (if (R k).isSome = true then 2 ^ k else 0)
theorem cnt_le (R : Rw) : ∀ k, cntR R k ≤ k
  | 0 => Nat.le_refl _
  | k + 1 => by have := cnt_le R k; unfold cntR; split <;> omega
theorem bits_lt (R : Rw) : ∀ k, bitsR R k < 2 ^ k
  | 0 => Nat.zero_lt_one
  | k + 1 => by
    have h := bits_lt R k
    unfold bitsR
    rw [Nat.pow_succ]
    split <;> omega
theorem or_bit (b k : Nat) (hb : b < 2 ^ k) (hk : k < 32) : bits .or .u32 (b : Int) (IntKind.u32.wrap ((2 : Int) ^ k)) = ((b + 2 ^ k : Nat) : Int) := by
  have hp : (2 : Nat) ^ k ≤ 2 ^ 31 := Nat.pow_le_pow_right (by decide) (by omega)
  have e1 : (2 : Int) ^ k = ((2 ^ k : Nat) : Int) := by simp
  have e2 : IntKind.u32.wrap ((2 : Int) ^ k) = ((2 ^ k : Nat) : Int) := by
    rw [e1, IntKind.wrap_u32]
    have h31 : (2 : Nat) ^ 31 = 2147483648 := by decide
    omega
  rw [e2]
  have h31 : (2 : Nat) ^ 31 = 2147483648 := by decide
  have hp0 : 0 < (2 : Nat) ^ k := Nat.pow_pos (by decide)
  have g1 : (b : Int) < 2 ^ k := by rw [e1]; omega
  have g2 : ((2 ^ k : Nat) : Int) % 2 ^ k = 0 := by rw [e1]; exact Int.emod_self
  have := bits_join_low .u32 32 (by decide) (fun n a c => by rw [IntKind.wrap_u32]; simp only [Int.reducePow] at c; omega) k (b : Int) ((2 ^ k : Nat) : Int) (by omega) g1 (by simp only [Int.reducePow]; omega) (by omega) g2 (by simp only [Int.reducePow]; omega)
  rw [this]
  omega
def firstR (R : Rw) : Int × Int × Bool := match (List.range 32).find? (fun i => (R i).isSome) with
  | some i => ((i : Int), (R i).getD 0, true)
  | none => (0, 0, false)
theorem find_at (p : Nat → Bool) (n k : Nat) (hk : k < n) (h0 : ∀ j, j < k → p j = false) (h1 : p k = true) : (List.range n).find? p = some k := by
  rw [List.find?_range_eq_some]
  exact ⟨h1, by simpa using hk, fun j hj => by simpa using h0 j hj⟩
theorem first_at {R : Rw} {k : Nat} (hk : k < 32) (h0 : ∀ j, j < k → (R j).isSome = false) (h1 : (R k).isSome = true) : firstR R = ((k : Int), (R k).getD 0, true) := by
  unfold firstR
  rw [find_at _ 32 k hk h0 h1]
theorem first_none {R : Rw} (h0 : ∀ j, j < 32 → (R j).isSome = false) : firstR R = (0, 0, false) := by
  unfold firstR
  have : (List.range 32).find? (fun i => (R i).isSome) = none := by
    rw [List.find?_eq_none]
    intro j hj
    rw [h0 j (by simpa using hj)]
    decide
  rw [this]
/-- Bit i of b. -/
def bitN (b i : Nat) : Bool := b / 2 ^ i % 2 == 1
theorem bit_walk (b n : Nat) : (((b : Int) / 2 ^ n).tmod 2 == 1) = bitN b n := by
  have e : (b : Int) / 2 ^ n = ((b / 2 ^ n : Nat) : Int) := by simp
  rw [e]
  unfold bitN
  generalize b / 2 ^ n = q
  rw [Int.tmod_eq_emod_of_nonneg (by omega)]
  by_cases h : q % 2 = 1
  · rw [h, show (q : Int) % 2 = 1 by omega]; rfl
  · rw [beq_eq_false_iff_ne.2 h, beq_eq_false_iff_ne]
    omega
def rkN (b : Nat) : Nat → Nat
  | 0 => 0
  | k + 1 => rkN b k + (if bitN b k = true then 1 else 0)
theorem rk_le (b : Nat) : ∀ k, rkN b k ≤ k
  | 0 => Nat.le_refl _
  | k + 1 => by have := rk_le b k; unfold rkN; split <;> omega
/-- The row of bits and things, as far as place i. -/
def ofR (b : Nat) (l : List Int) (i : Nat) : Rw := fun j => if j < i ∧ bitN b j = true then l[rkN b j]? else none
theorem of_zero (b : Nat) (l : List Int) : ofR b l 0 = noR := by funext j; simp [ofR, noR]
theorem of_no {b : Nat} {l : List Int} {i : Nat} (h : ¬ bitN b i = true) : ofR b l (i + 1) = ofR b l i := by
  funext j
  unfold ofR
  by_cases hj : j = i
  · subst hj; simp [h]
  · have : (j < i + 1 ∧ bitN b j = true) ↔ (j < i ∧ bitN b j = true) := ⟨fun ⟨a, c⟩ => ⟨by omega, c⟩, fun ⟨a, c⟩ => ⟨by omega, c⟩⟩
    simp only [this]
theorem of_short {b : Nat} {l : List Int} {i : Nat} (h : ¬ rkN b i < l.length) : ofR b l (i + 1) = ofR b l i := by
  funext j
  unfold ofR
  by_cases hj : j = i
  · subst hj
    have h2 : l[rkN b j]? = none := List.getElem?_eq_none (by omega)
    simp [h2]
  · have : (j < i + 1 ∧ bitN b j = true) ↔ (j < i ∧ bitN b j = true) := ⟨fun ⟨a, c⟩ => ⟨by omega, c⟩, fun ⟨a, c⟩ => ⟨by omega, c⟩⟩
    simp only [this]
theorem of_set {b : Nat} {l : List Int} {i : Nat} (hi : i < 32) (h : bitN b i = true) (hl : rkN b i < l.length) : ofR b l (i + 1) = setR (ofR b l i) (i : Int) l[rkN b i] := by
  rw [set_on _ hi]
  funext j
  unfold ofR
  by_cases hj : j = i
  · subst hj
    rw [if_pos ⟨by omega, h⟩, if_pos rfl, List.getElem?_eq_getElem hl]
  · have : (j < i + 1 ∧ bitN b j = true) ↔ (j < i ∧ bitN b j = true) := ⟨fun ⟨a, c⟩ => ⟨by omega, c⟩, fun ⟨a, c⟩ => ⟨by omega, c⟩⟩
    rw [if_neg hj]
    simp only [this]
end Go.Proofs.YtmdfpkklnaekmaaDoor
