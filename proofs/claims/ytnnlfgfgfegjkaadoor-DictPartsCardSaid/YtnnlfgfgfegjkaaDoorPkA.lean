/- Texts put together: SparsePure SparseList Below Cells Ints Seg Runs RowsOwn Els RowG ResRow. -/
import Derived.Test.YtnnlfgfgfegjkaaDoorChecked
import Derived.WalkKit
import Derived.Laws.BitsLemmas
import Derived.Lib.EndianBits
import Derived.Lib.TrailingZeros
import Derived.Below
import Derived.Deep.Draws
import Derived.Lib.Hide
import Derived.Laws.Tables
import Derived.Laws.CopyRow
import Derived.Deep.WholeRow
import Derived.Deep.MidRow
import Derived.Laws.OwnMore
import Derived.Lib.FrozenHead2
import Derived.WalkSpells
import Derived.Lib.OthersKept
import Derived.Laws.CopyOwn
import Derived.Deep.OwnRows
import Derived.Deep.Cut
import Derived.Laws.MakeOwn
import Derived.Laws.IdiomCopy
import Derived.Great.BuildSlice
import Derived.Laws.Rows

/- Plain facts of layer 6: rows of 32 places. No program is imported. -/
namespace Go.Proofs.YtnnlfgfgfegjkaaDoor
open Go.RowKit
set_option maxRecDepth 1000000

/-- A row, plainly: what is at each place. -/
abbrev Rw := Nat → Option Int
/-- Nothing beyond place 31; all that is there is a number of 64 bits. -/
structure Ok (R : Rw) : Prop where
  off : ∀ i, 32 ≤ i → R i = none
  inr : ∀ i n, R i = some n → -9223372036854775808 ≤ n ∧ n ≤ 9223372036854775807
def noR : Rw := fun _ => none
theorem Ok.no : Ok noR := ⟨fun _ _ => rfl, fun _ _ h => by cases h⟩
def onP (i : Int) : Bool := decide (0 ≤ i ∧ i < 32)
theorem on_nat {i : Int} (h : onP i = true) : ∃ j : Nat, i = (j : Int) ∧ j < 32 := by
  have h' : 0 ≤ i ∧ i < 32 := by simpa [onP] using h
  exact ⟨i.toNat, by omega, by omega⟩
theorem on_of {j : Nat} (h : j < 32) : onP (j : Int) = true := by simp [onP]; omega
def getR (R : Rw) (i : Int) : Int × Bool := if onP i = true then ((R i.toNat).getD 0, (R i.toNat).isSome) else (0, false)
theorem get_on {R : Rw} {j : Nat} (h : j < 32) : getR R (j : Int) = ((R j).getD 0, (R j).isSome) := by unfold getR; rw [if_pos (on_of h)]; rfl
theorem get_off {R : Rw} {i : Int} (h : ¬ onP i = true) : getR R i = (0, false) := by unfold getR; rw [if_neg h]
def setR (R : Rw) (i x : Int) : Rw := if onP i = true then fun j => if j = i.toNat then some x else R j else R
def cutR (R : Rw) (i : Int) : Rw := if onP i = true then fun j => if j = i.toNat then none else R j else R
theorem set_on {R : Rw} {j : Nat} (x : Int) (h : j < 32) : setR R (j : Int) x = fun k => if k = j then some x else R k := by unfold setR; rw [if_pos (on_of h)]; rfl
theorem cut_on {R : Rw} {j : Nat} (h : j < 32) : cutR R (j : Int) = fun k => if k = j then none else R k := by unfold cutR; rw [if_pos (on_of h)]; rfl
theorem set_off {R : Rw} {i x : Int} (h : ¬ onP i = true) : setR R i x = R := by unfold setR; rw [if_neg h]
theorem cut_off {R : Rw} {i : Int} (h : ¬ onP i = true) : cutR R i = R := by unfold cutR; rw [if_neg h]
theorem Ok.set {R : Rw} (h : Ok R) (i x : Int) (hx : -9223372036854775808 ≤ x ∧ x ≤ 9223372036854775807) : Ok (setR R i x) := by
  by_cases ho : onP i = true
  · obtain ⟨j, rfl, hj⟩ := on_nat ho
    rw [set_on x hj]
    refine ⟨fun k hk => ?_, fun k n hn => ?_⟩
    · show (if k = j then some x else R k) = none
      rw [if_neg (by omega)]; exact h.off k hk
    · replace hn : (if k = j then some x else R k) = some n := hn
      split at hn
      · cases hn; exact hx
      · exact h.inr k n hn
  · rw [set_off ho]; exact h
theorem Ok.cut {R : Rw} (h : Ok R) (i : Int) : Ok (cutR R i) := by
  by_cases ho : onP i = true
  · obtain ⟨j, rfl, hj⟩ := on_nat ho
    rw [cut_on hj]
    refine ⟨fun k hk => ?_, fun k n hn => ?_⟩
    · show (if k = j then none else R k) = none
      split
      · rfl
      · exact h.off k hk
    · replace hn : (if k = j then none else R k) = some n := hn
      split at hn
      · cases hn
      · exact h.inr k n hn
  · rw [cut_off ho]; exact h
/-- How many places below k have something. -/
def cntR (R : Rw) : Nat → Nat
  | 0 => 0
  | k + 1 => cntR R k + (if (R k).isSome = true then 1 else 0)
/-- The sum of 2^i of those. -/
def bitsR (R : Rw) : Nat → Nat
  | 0 => 0
  | k + 1 => bitsR R k + (if (R k).isSome = true then 2 ^ k else 0)
theorem cnt_le (R : Rw) : ∀ k, cntR R k ≤ k
  | 0 => Nat.le_refl _
  | k + 1 => by have := cnt_le R k; unfold cntR; split <;> omega
theorem bits_lt (R : Rw) : ∀ k, bitsR R k < 2 ^ k
  | 0 => Nat.zero_lt_one
  | k + 1 => by
    have h := bits_lt R k
    unfold bitsR
    rw [Nat.pow_succ]
    split <;> omega
theorem or_bit (b k : Nat) (hb : b < 2 ^ k) (hk : k < 32) : bits .or .u32 (b : Int) (IntKind.u32.wrap ((2 : Int) ^ k)) = ((b + 2 ^ k : Nat) : Int) := by
  have hp : (2 : Nat) ^ k ≤ 2 ^ 31 := Nat.pow_le_pow_right (by decide) (by omega)
  have e1 : (2 : Int) ^ k = ((2 ^ k : Nat) : Int) := by simp
  have e2 : IntKind.u32.wrap ((2 : Int) ^ k) = ((2 ^ k : Nat) : Int) := by
    rw [e1, IntKind.wrap_u32]
    have h31 : (2 : Nat) ^ 31 = 2147483648 := by decide
    omega
  rw [e2]
  have h31 : (2 : Nat) ^ 31 = 2147483648 := by decide
  have hp0 : 0 < (2 : Nat) ^ k := Nat.pow_pos (by decide)
  have g1 : (b : Int) < 2 ^ k := by rw [e1]; omega
  have g2 : ((2 ^ k : Nat) : Int) % 2 ^ k = 0 := by rw [e1]; exact Int.emod_self
  have := bits_join_low .u32 32 (by decide) (fun n a c => by rw [IntKind.wrap_u32]; simp only [Int.reducePow] at c; omega) k (b : Int) ((2 ^ k : Nat) : Int) (by omega) g1 (by simp only [Int.reducePow]; omega) (by omega) g2 (by simp only [Int.reducePow]; omega)
  rw [this]
  omega
def firstR (R : Rw) : Int × Int × Bool := match (List.range 32).find? (fun i => (R i).isSome) with
  | some i => ((i : Int), (R i).getD 0, true)
  | none => (0, 0, false)
theorem find_at (p : Nat → Bool) (n k : Nat) (hk : k < n) (h0 : ∀ j, j < k → p j = false) (h1 : p k = true) : (List.range n).find? p = some k := by
  rw [List.find?_range_eq_some]
  exact ⟨h1, by simpa using hk, fun j hj => by simpa using h0 j hj⟩
theorem first_at {R : Rw} {k : Nat} (hk : k < 32) (h0 : ∀ j, j < k → (R j).isSome = false) (h1 : (R k).isSome = true) : firstR R = ((k : Int), (R k).getD 0, true) := by
  unfold firstR
  rw [find_at _ 32 k hk h0 h1]
theorem first_none {R : Rw} (h0 : ∀ j, j < 32 → (R j).isSome = false) : firstR R = (0, 0, false) := by
  unfold firstR
  have : (List.range 32).find? (fun i => (R i).isSome) = none := by
    rw [List.find?_eq_none]
    intro j hj
    rw [h0 j (by simpa using hj)]
    decide
  rw [this]
/-- Bit i of b. -/
def bitN (b i : Nat) : Bool := b / 2 ^ i % 2 == 1
theorem bit_walk (b n : Nat) : (((b : Int) / 2 ^ n).tmod 2 == 1) = bitN b n := by
  have e : (b : Int) / 2 ^ n = ((b / 2 ^ n : Nat) : Int) := by simp
  rw [e]
  unfold bitN
  generalize b / 2 ^ n = q
  rw [Int.tmod_eq_emod_of_nonneg (by omega)]
  by_cases h : q % 2 = 1
  · rw [h, show (q : Int) % 2 = 1 by omega]; rfl
  · rw [beq_eq_false_iff_ne.2 h, beq_eq_false_iff_ne]
    omega
def rkN (b : Nat) : Nat → Nat
  | 0 => 0
  | k + 1 => rkN b k + (if bitN b k = true then 1 else 0)
theorem rk_le (b : Nat) : ∀ k, rkN b k ≤ k
  | 0 => Nat.le_refl _
  | k + 1 => by have := rk_le b k; unfold rkN; split <;> omega
/-- The row of bits and things, as far as place i. -/
def ofR (b : Nat) (l : List Int) (i : Nat) : Rw := fun j => if j < i ∧ bitN b j = true then l[rkN b j]? else none
theorem of_zero (b : Nat) (l : List Int) : ofR b l 0 = noR := by funext j; simp [ofR, noR]
theorem of_no {b : Nat} {l : List Int} {i : Nat} (h : ¬ bitN b i = true) : ofR b l (i + 1) = ofR b l i := by
  funext j
  unfold ofR
  by_cases hj : j = i
  · subst hj; simp [h]
  · have : (j < i + 1 ∧ bitN b j = true) ↔ (j < i ∧ bitN b j = true) := ⟨fun ⟨a, c⟩ => ⟨by omega, c⟩, fun ⟨a, c⟩ => ⟨by omega, c⟩⟩
    simp only [this]
theorem of_short {b : Nat} {l : List Int} {i : Nat} (h : ¬ rkN b i < l.length) : ofR b l (i + 1) = ofR b l i := by
  funext j
  unfold ofR
  by_cases hj : j = i
  · subst hj
    have h2 : l[rkN b j]? = none := List.getElem?_eq_none (by omega)
    simp [h2]
  · have : (j < i + 1 ∧ bitN b j = true) ↔ (j < i ∧ bitN b j = true) := ⟨fun ⟨a, c⟩ => ⟨by omega, c⟩, fun ⟨a, c⟩ => ⟨by omega, c⟩⟩
    simp only [this]
theorem of_set {b : Nat} {l : List Int} {i : Nat} (hi : i < 32) (h : bitN b i = true) (hl : rkN b i < l.length) : ofR b l (i + 1) = setR (ofR b l i) (i : Int) l[rkN b i] := by
  rw [set_on _ hi]
  funext j
  unfold ofR
  by_cases hj : j = i
  · subst hj
    rw [if_pos ⟨by omega, h⟩, if_pos rfl, List.getElem?_eq_getElem hl]
  · have : (j < i + 1 ∧ bitN b j = true) ↔ (j < i ∧ bitN b j = true) := ⟨fun ⟨a, c⟩ => ⟨by omega, c⟩, fun ⟨a, c⟩ => ⟨by omega, c⟩⟩
    rw [if_neg hj]
    simp only [this]
end Go.Proofs.YtnnlfgfgfegjkaaDoor

/- Plain facts of package sparse's rows: a word, and a list of the things by rising places. No program is imported. -/
namespace Go.Proofs.YtnnlfgfgfegjkaaDoor
open Go.RowKit
set_option linter.unusedSimpArgs false

theorem bit_test (b i : Nat) : bitN b i = b.testBit i := by
  unfold bitN
  rw [Nat.testBit_eq_decide_div_mod_eq]
  rfl
theorem bits_test (R : Rw) : ∀ k i, (bitsR R k).testBit i = (decide (i < k) && (R i).isSome)
  | 0, i => by simp [bitsR]
  | k + 1, i => by
    have hlt := bits_lt R k
    unfold bitsR
    by_cases hk : (R k).isSome = true
    · have e := Nat.two_pow_add_eq_or_of_lt hlt 1
      rw [if_pos hk, Nat.add_comm, show (2 : Nat) ^ k = 2 ^ k * 1 by omega, e, Nat.testBit_or, Nat.mul_one, Nat.testBit_two_pow, bits_test R k i]
      by_cases h : k = i
      · subst h; simp [hk]
      · by_cases h2 : i < k
        · simp [h, h2, Nat.lt_succ_of_lt h2]
        · simp [h, h2, show ¬ i < k + 1 by omega]
    · rw [if_neg hk, Nat.add_zero, bits_test R k i]
      by_cases h : i = k
      · subst h; simp at hk; simp [hk]
      · by_cases h2 : i < k
        · simp [h2, Nat.lt_succ_of_lt h2]
        · simp [h2, show ¬ i < k + 1 by omega]
theorem bits_32 (R : Rw) (i : Nat) (hi : i < 32) : bitN (bitsR R 32) i = (R i).isSome := by
  rw [bit_test, bits_test]; simp [hi]
theorem lt_32 (R : Rw) : bitsR R 32 < 4294967296 := bits_lt R 32
/-- A number is told by its 32 bits. -/
theorem ext_32 {a b : Nat} (ha : a < 2 ^ 32) (hb : b < 2 ^ 32) (h : ∀ i, i < 32 → a.testBit i = b.testBit i) : a = b := by
  apply Nat.eq_of_testBit_eq
  intro i
  by_cases hi : i < 32
  · exact h i hi
  · rw [Nat.testBit_lt_two_pow (Nat.lt_of_lt_of_le ha (Nat.pow_le_pow_right (by decide) (by omega))), Nat.testBit_lt_two_pow (Nat.lt_of_lt_of_le hb (Nat.pow_le_pow_right (by decide) (by omega)))]
/-- What 'bits' makes of two words: a word told by its bits. -/
theorem word_of (op : BinOp) (a b n : Nat) (hn : n < 2 ^ 32) (h : ∀ i, i < 32 → (match op with
    | .and => BitVec.ofNat 32 a &&& BitVec.ofNat 32 b
    | .or => BitVec.ofNat 32 a ||| BitVec.ofNat 32 b
    | .xor => BitVec.ofNat 32 a ^^^ BitVec.ofNat 32 b
    | _ => BitVec.ofNat 32 a &&& ~~~(BitVec.ofNat 32 b)).getLsbD i = n.testBit i) : bits op .u32 (a : Int) (b : Int) = (n : Int) := by
  unfold bits
  show IntKind.u32.wrap _ = _
  have e : (match op with
    | .and => BitVec.ofInt 32 (a : Int) &&& BitVec.ofInt 32 (b : Int)
    | .or => BitVec.ofInt 32 (a : Int) ||| BitVec.ofInt 32 (b : Int)
    | .xor => BitVec.ofInt 32 (a : Int) ^^^ BitVec.ofInt 32 (b : Int)
    | _ => BitVec.ofInt 32 (a : Int) &&& ~~~(BitVec.ofInt 32 (b : Int))).toNat = n := by
    simp only [BitVec.ofInt_natCast]
    apply ext_32 (BitVec.isLt _) hn
    intro i hi
    rw [BitVec.testBit_toNat]
    exact h i hi
  rw [IntKind.wrap_u32]
  have hn2 : n < 4294967296 := hn
  refine Eq.trans (congrArg (fun m : Nat => (m : Int) % 4294967296) e) ?_
  omega
theorem nat_bit {a : Nat} {i : Nat} (hi : i < 32) : (BitVec.ofNat 32 a).getLsbD i = a.testBit i := by
  rw [BitVec.getLsbD_ofNat]; simp [hi]
theorem and_32 (a b : Nat) (ha : a < 2 ^ 32) : bits .and .u32 (a : Int) (b : Int) = ((a &&& b : Nat) : Int) :=
  word_of .and a b _ (Nat.lt_of_le_of_lt Nat.and_le_left ha) fun i hi => by simp only [BitVec.getLsbD_and, nat_bit hi, Nat.testBit_and]
theorem set_bits (R : Rw) (x : Int) {i : Nat} (hi : i < 32) : bits .or .u32 (bitsR R 32 : Nat) ((2 ^ i : Nat) : Int) = (bitsR (setR R (i : Int) x) 32 : Nat) :=
  word_of .or _ _ _ (bits_lt _ 32) fun k hk => by
    simp only [BitVec.getLsbD_or, nat_bit hk, bits_test, Nat.testBit_two_pow, set_on x hi, hk, decide_true, Bool.true_and]
    by_cases h : i = k
    · subst h; simp
    · simp [h, show ¬ k = i by omega]
theorem cut_bits (R : Rw) {i : Nat} (hi : i < 32) : bits .andNot .u32 (bitsR R 32 : Nat) ((2 ^ i : Nat) : Int) = (bitsR (cutR R (i : Int)) 32 : Nat) :=
  word_of .andNot _ _ _ (bits_lt _ 32) fun k hk => by
    simp only [BitVec.getLsbD_and, BitVec.getLsbD_not, nat_bit hk, bits_test, Nat.testBit_two_pow, cut_on hi, hk, decide_true, Bool.true_and]
    by_cases h : i = k
    · subst h; simp
    · simp [h, show ¬ k = i by omega]
theorem rk_eq {b c : Nat} : ∀ {k : Nat}, (∀ i, i < k → b.testBit i = c.testBit i) → rkN b k = rkN c k
  | 0, _ => rfl
  | k + 1, h => by
    unfold rkN
    rw [rk_eq (k := k) (fun i hi => h i (by omega)), bit_test, bit_test, h k (by omega)]
theorem rk_cnt (R : Rw) : ∀ k, k ≤ 32 → rkN (bitsR R 32) k = cntR R k
  | 0, _ => rfl
  | k + 1, h => by
    unfold rkN cntR
    rw [rk_cnt R k (by omega), bits_32 R k (by omega)]
theorem rk_flat {b : Nat} {i : Nat} : ∀ {k : Nat}, i ≤ k → (∀ j, i ≤ j → j < k → b.testBit j = false) → rkN b k = rkN b i
  | 0, h, _ => by obtain rfl : i = 0 := by omega
                  rfl
  | k + 1, h, h2 => by
    by_cases e : i = k + 1
    · subst e; rfl
    · rw [← rk_flat (k := k) (i := i) (by omega) fun j a c => h2 j a (by omega)]
      conv => lhs; unfold rkN
      rw [bit_test, h2 k (by omega) (by omega)]
      simp
/-- How many bits of a word lie below place i. -/
theorem rk_low (b i : Nat) (hi : i ≤ 32) : rkN (b &&& (2 ^ i - 1)) 32 = rkN b i := by
  rw [rk_flat hi fun j h1 _ => by rw [Nat.testBit_and, Nat.testBit_two_pow_sub_one]; simp; omega]
  exact rk_eq fun j hj => by rw [Nat.testBit_and, Nat.testBit_two_pow_sub_one]; simp [hj]
theorem rk_add (b m : Nat) : ∀ k, rkN b (m + k) = rkN b m + rkN (b / 2 ^ m) k
  | 0 => rfl
  | k + 1 => by
    show rkN b (m + k) + _ = _ + (rkN (b / 2 ^ m) k + _)
    rw [rk_add b m k, Nat.add_assoc, bit_test, bit_test, Nat.testBit_div_two_pow, Nat.add_comm k m]
    rfl
theorem rk_mod (b : Nat) : rkN (b % 256) 8 = rkN b 8 := rk_eq fun i hi => by
  rw [show (256 : Nat) = 2 ^ 8 by decide, Nat.testBit_mod_two_pow]; simp [hi]
/-- The bits of a word, byte by byte. -/
theorem rk_bytes (b : Nat) : rkN b 32 = rkN (b / 16777216) 8 + rkN (b / 65536 % 256) 8 + rkN (b / 256 % 256) 8 + rkN (b % 256) 8 := by
  rw [show (32 : Nat) = 8 + (8 + (8 + 8)) by decide, rk_add, rk_add, rk_add, rk_mod, rk_mod, rk_mod, Nat.div_div_eq_div_mul, Nat.div_div_eq_div_mul]
  simp only [Nat.reducePow, Nat.reduceMul]
  omega
/-- The places that have something, each with it. -/
def allR (R : Rw) : List (Nat × Int) := (List.range 32).filterMap fun i => (R i).map fun x => (i, x)
/-- The things of the places of l. -/
def lisL (R : Rw) (l : List Nat) : List Int := l.filterMap R
def lisR (R : Rw) : List Int := lisL R (List.range 32)
theorem lis_len (R : Rw) : ∀ k, (lisL R (List.range k)).length = cntR R k
  | 0 => rfl
  | k + 1 => by
    unfold cntR
    rw [List.range_succ]
    unfold lisL
    rw [List.filterMap_append, List.length_append]
    have := lis_len R k
    unfold lisL at this
    rw [this]
    cases h : R k <;> simp [h]
theorem cnt_succ (R : Rw) (k : Nat) : cntR R (k + 1) = cntR R k + (if (R k).isSome = true then 1 else 0) := rfl
theorem lisR_len (R : Rw) : (lisR R).length = cntR R 32 := lis_len R 32
theorem range_at {i : Nat} (hi : i < 32) : List.range 32 = List.range i ++ ([i] ++ (List.range (31 - i)).map (i + 1 + ·)) := by
  rw [show (32 : Nat) = (i + 1) + (31 - i) by omega, List.range_add, List.range_succ]
  simp
theorem lis_parts (R : Rw) {i : Nat} (hi : i < 32) : lisR R = lisL R (List.range i) ++ ((R i).toList ++ lisL R ((List.range (31 - i)).map (i + 1 + ·))) := by
  unfold lisR lisL
  conv => lhs; rw [range_at hi]
  rw [List.filterMap_append, List.filterMap_append]
  cases h : R i <;> simp [h]
theorem take_parts (R : Rw) {i : Nat} (hi : i < 32) : (lisR R).take (cntR R i) = lisL R (List.range i) := by
  rw [lis_parts R hi, ← lis_len R i, List.take_left]
theorem drop_parts (R : Rw) {i : Nat} (hi : i < 32) : (lisR R).drop (cntR R (i + 1)) = lisL R ((List.range (31 - i)).map (i + 1 + ·)) := by
  rw [lis_parts R hi, ← List.append_assoc]
  have e : cntR R (i + 1) = (lisL R (List.range i) ++ (R i).toList).length := by
    rw [List.length_append, lis_len, cnt_succ]
    cases h : R i <;> simp
  rw [e, List.drop_left]
theorem lis_congr {R T : Rw} : ∀ {l : List Nat}, (∀ k, k ∈ l → R k = T k) → lisL R l = lisL T l
  | [], _ => rfl
  | a :: l, h => by
    have ih := lis_congr (R := R) (T := T) (l := l) fun k hk => h k (List.mem_cons_of_mem _ hk)
    unfold lisL at ih ⊢
    rw [List.filterMap_cons, List.filterMap_cons, h a List.mem_cons_self, ih]
/-- Set: the things below, the new one, the things above. -/
theorem lis_set (R : Rw) (x : Int) {i : Nat} (hi : i < 32) : lisR (setR R (i : Int) x) = (lisR R).take (cntR R i) ++ ([x] ++ (lisR R).drop (cntR R (i + 1))) := by
  rw [take_parts R hi, drop_parts R hi, lis_parts (setR R (i : Int) x) hi, set_on x hi]
  congr 1
  · exact lis_congr fun k hk => by
      rw [List.mem_range] at hk
      exact if_neg (by omega)
  · congr 1
    · simp
    · exact lis_congr fun k hk => by
        rw [List.mem_map] at hk
        obtain ⟨j, _, rfl⟩ := hk
        exact if_neg (by omega)
theorem lis_cut (R : Rw) {i : Nat} (hi : i < 32) : lisR (cutR R (i : Int)) = (lisR R).take (cntR R i) ++ (lisR R).drop (cntR R (i + 1)) := by
  rw [take_parts R hi, drop_parts R hi, lis_parts (cutR R (i : Int)) hi, cut_on hi]
  congr 1
  · exact lis_congr fun k hk => by
      rw [List.mem_range] at hk
      exact if_neg (by omega)
  · rw [show (if i = i then none else R i).toList = ([] : List Int) by simp, List.nil_append]
    exact lis_congr fun k hk => by
      rw [List.mem_map] at hk
      obtain ⟨j, _, rfl⟩ := hk
      exact if_neg (by omega)
/-- What is at a place is in the list behind the things below. -/
theorem lis_at (R : Rw) {i : Nat} (hi : i < 32) {x : Int} (h : R i = some x) : (lisR R)[cntR R i]? = some x := by
  rw [lis_parts R hi, ← lis_len R i, h]
  simp
theorem lis_mem {R : Rw} {x : Int} (h : x ∈ lisR R) : ∃ i, R i = some x := by
  unfold lisR lisL at h
  rw [List.mem_filterMap] at h
  obtain ⟨i, _, hi⟩ := h
  exact ⟨i, hi⟩
theorem all_map (R : Rw) : (allR R).map (·.2) = lisR R := by
  unfold allR lisR lisL
  rw [List.map_filterMap]
  congr 1
  funext i
  cases R i <;> rfl
theorem all_len (R : Rw) : (allR R).length = cntR R 32 := by rw [← lisR_len, ← all_map, List.length_map]
theorem all_at (R : Rw) {i : Nat} (hi : i < 32) {x : Int} (h : R i = some x) : (allR R)[cntR R i]? = some (i, x) := by
  have hl : ((List.range i).filterMap fun i => (R i).map fun x => (i, x)).length = cntR R i := by
    rw [← lis_len R i]
    have e : ((List.range i).filterMap fun i => (R i).map fun x => (i, x)).map (·.2) = lisL R (List.range i) := by
      unfold lisL
      rw [List.map_filterMap]
      congr 1
      funext i
      cases R i <;> rfl
    rw [← e, List.length_map]
  unfold allR
  conv => lhs; rw [range_at hi]
  rw [List.filterMap_append, ← hl]
  simp [h]
theorem all_mem {R : Rw} {p : Nat × Int} (h : p ∈ allR R) : p.1 < 32 ∧ R p.1 = some p.2 := by
  unfold allR at h
  rw [List.mem_filterMap] at h
  obtain ⟨i, hi, e⟩ := h
  rw [List.mem_range] at hi
  cases hr : R i with
  | none => rw [hr] at e; cases e
  | some x => rw [hr] at e; cases e; exact ⟨hi, hr⟩
theorem cnt_flat {R : Rw} {p : Nat} : ∀ {q : Nat}, p ≤ q → (∀ j, p ≤ j → j < q → (R j).isSome = false) → cntR R q = cntR R p
  | 0, h, _ => by obtain rfl : p = 0 := by omega
                  rfl
  | q + 1, h, h2 => by
    by_cases e : p = q + 1
    · subst e; rfl
    · rw [← cnt_flat (p := p) (q := q) (by omega) fun j a c => h2 j a (by omega)]
      rw [cnt_succ, h2 q (by omega) (by omega)]
      simp
theorem cnt_mono (R : Rw) {p q : Nat} (h : p ≤ q) : cntR R p ≤ cntR R q := by
  induction q with
  | zero => obtain rfl : p = 0 := by omega
            exact Nat.le_refl _
  | succ q ih =>
    by_cases e : p = q + 1
    · subst e; exact Nat.le_refl _
    · have := ih (by omega)
      rw [cnt_succ]
      omega
/-- What is left of a word from place p on. -/
def leftN (b p : Nat) : Nat := b / 2 ^ p * 2 ^ p
theorem left_test (b p i : Nat) : (leftN b p).testBit i = (decide (p ≤ i) && b.testBit i) := by
  unfold leftN
  rw [Nat.testBit_mul_two_pow, Nat.testBit_div_two_pow]
  by_cases h : p ≤ i
  · simp [h]
  · simp [h]
theorem left_zero (b : Nat) : leftN b 0 = b := by simp [leftN]
theorem left_lt {b : Nat} (p : Nat) (h : b < 2 ^ 32) : leftN b p < 2 ^ 32 := Nat.lt_of_le_of_lt (Nat.div_mul_le_self b (2 ^ p)) h
/-- The lowest place from p on that has something. -/
theorem left_low (R : Rw) {p : Nat} (hc : cntR R p < cntR R 32) : ∃ q x, leftN (bitsR R 32) p ≠ 0 ∧ Lib.ctz 32 (leftN (bitsR R 32) p) = q ∧ p ≤ q ∧ q < 32 ∧ R q = some x ∧ cntR R q = cntR R p ∧ cntR R (q + 1) = cntR R p + 1 ∧
    leftN (bitsR R 32) p &&& (leftN (bitsR R 32) p - 1) = leftN (bitsR R 32) (q + 1) := by
  have hp : p < 32 := by
    apply Nat.lt_of_not_le
    intro h
    have := cnt_mono R h
    omega
  have h0 : leftN (bitsR R 32) p ≠ 0 := by
    intro h
    have e : cntR R 32 = cntR R p := cnt_flat (by omega) fun j h1 h2 => by
      have := left_test (bitsR R 32) p j
      rw [h, bits_test] at this
      simpa [h1, h2] using this
    omega
  have hlt := left_lt p (bits_lt R 32)
  generalize hL : leftN (bitsR R 32) p = L at h0 hlt
  obtain ⟨m, hm, _⟩ := Lib.ctzFrom_spec 32 L (by omega) hlt
  have hz : Lib.ctz 32 L = Lib.ctzFrom 32 L := by unfold Lib.ctz; rw [if_neg h0]
  have hq32 := (Lib.lowest_bit 32 L h0 hlt).2
  rw [← hz] at hm
  generalize hq : Lib.ctz 32 L = q at hm hq32
  have ht : ∀ i, L.testBit i = (decide (q ≤ i) && (2 * m + 1).testBit (i - q)) := fun i => by
    rw [hm, Nat.mul_comm, Nat.testBit_mul_two_pow]
  have hb : ∀ i, L.testBit i = (decide (p ≤ i) && (decide (i < 32) && (R i).isSome)) := fun i => by
    rw [← hL, left_test, bits_test]
  have hq1 : L.testBit q = true := by rw [ht]; simp
  have hpq : p ≤ q ∧ (R q).isSome = true := by
    rw [hb] at hq1
    simp only [Bool.and_eq_true, decide_eq_true_eq] at hq1
    exact ⟨hq1.1, hq1.2.2⟩
  obtain ⟨hpq, hs⟩ := hpq
  obtain ⟨x, hx⟩ := Option.isSome_iff_exists.1 hs
  have hlow : ∀ j, p ≤ j → j < q → (R j).isSome = false := fun j h1 h2 => by
    have e := hb j
    rw [ht j] at e
    simpa [h1, show ¬ q ≤ j by omega, show j < 32 by omega] using e.symm
  have hcq : cntR R q = cntR R p := cnt_flat hpq hlow
  refine ⟨q, x, by first | exact h0 | (rw [hL]; exact h0), rfl, hpq, hq32, hx, hcq, ?_, ?_⟩
  · rw [cnt_succ, hcq, hs]; rfl
  · apply Nat.eq_of_testBit_eq
    intro i
    rw [Nat.testBit_and, left_test, bits_test, hb]
    have e1 : L - 1 = 2 ^ q * (2 * m) + (2 ^ q - 1) := by
      rw [hm, Nat.mul_add, Nat.mul_one]
      have : 0 < 2 ^ q := Nat.two_pow_pos q
      omega
    have e2 : (L - 1).testBit i = if i < q then true else (2 * m).testBit (i - q) := by
      rw [e1, Nat.two_pow_add_eq_or_of_lt (by have : 0 < 2 ^ q := Nat.two_pow_pos q; omega), Nat.testBit_or, Nat.mul_comm, Nat.testBit_mul_two_pow, Nat.testBit_two_pow_sub_one]
      by_cases h : i < q
      · simp [h]
      · simp [h, show q ≤ i by omega]
    rw [e2]
    by_cases h : i < q
    · have : p ≤ i → (R i).isSome = false := fun h1 => hlow i h1 h
      rw [if_pos h]
      by_cases h1 : p ≤ i
      · simp [this h1]
      · simp [h1, show ¬ q + 1 ≤ i by omega]
    · rw [if_neg h]
      by_cases h1 : i = q
      · subst h1; simp; omega
      · obtain ⟨d, rfl⟩ : ∃ d, i = q + (d + 1) := ⟨i - q - 1, by omega⟩
        have e3 : (2 * m).testBit (d + 1) = (2 * m + 1).testBit (d + 1) := by
          rw [Nat.testBit_succ, Nat.testBit_succ]
          congr 1
          omega
        have e4 := ht (q + (d + 1))
        rw [hb] at e4
        simp only [show q + (d + 1) - q = d + 1 by omega, e3] at e4 ⊢
        rw [show decide (q ≤ q + (d + 1)) = true by simp, Bool.true_and] at e4
        rw [← e4]
        simp only [show p ≤ q + (d + 1) by omega, show q + 1 ≤ q + (d + 1) by omega, decide_true, Bool.true_and, Bool.and_self]
/-- The first of them. -/
theorem first_all (R : Rw) : firstR R = match allR R with
    | [] => (0, 0, false)
    | p :: _ => ((p.1 : Int), p.2, true) := by
  by_cases h : cntR R 32 = 0
  · have hn : allR R = [] := List.eq_nil_of_length_eq_zero (by rw [all_len, h])
    rw [hn]
    refine first_none fun j hj => ?_
    have h1 := cnt_mono R (show j + 1 ≤ 32 by omega)
    rw [h, cnt_succ] at h1
    cases hr : (R j).isSome with
    | false => rfl
    | true => rw [hr] at h1; simp at h1
  · obtain ⟨q, x, _, _, _, hq, hx, hc, _, _⟩ := left_low R (p := 0) (by show 0 < _; omega)
    have ha := all_at R hq hx
    rw [hc] at ha
    cases hr : allR R with
    | nil => rw [hr] at ha; cases ha
    | cons p t =>
      rw [hr] at ha
      obtain rfl : p = (q, x) := by simpa [cntR] using ha
      rw [first_at hq (fun j hj => ?_) (by rw [hx]; rfl), hx]
      · rfl
      · have h1 := cnt_mono R (show j + 1 ≤ q by omega)
        rw [hc, cnt_succ] at h1
        cases hr : (R j).isSome with
        | false => rfl
        | true => rw [hr] at h1; simp [cntR] at h1
end Go.Proofs.YtnnlfgfgfegjkaaDoor

/- What lies below a mark is as it was: small steps. -/
namespace Go.Proofs.YtnnlfgfgfegjkaaDoor
open Go.RowKit
theorem Below.drewMany {B : Nat} {w w1 : World} (h : Below B w w1) (n : Nat) : Below B w (w1.drewN n) := ⟨h.os, h.tape, h.output, h.size, h.block⟩
theorem Below.newly' (w : World) (o : Obj) : Below w.heap.size w (w.alloc o) := (Below.refl _ _).alloc (Nat.le_refl _) o
theorem Below.more {w w1 : World} (h : Below w.heap.size w w1) (o : Obj) : Below w.heap.size w (w1.alloc o) := h.alloc h.size o
theorem drawn_below (w : World) : Below w.heap.size w w.drew := Below.drewMany (Below.refl _ w) 1
end Go.Proofs.YtnnlfgfgfegjkaaDoor

/- Variables of a call's own that have many cells: what is stored into them and read out of them, in worlds of which little is known. -/
namespace Go.Proofs.YtnnlfgfgfegjkaaDoor
open Go.RowKit
set_option maxRecDepth 1000000

/-- Just block X is another one. -/
structure Only (X : Nat) (w w' : World) : Prop where
  by_ : w.grownBy w' (some X)
  size : w'.heap.size = w.heap.size
theorem Only.refl (X : Nat) (w : World) : Only X w w := ⟨⟨rfl, rfl, rfl, Nat.le_refl _, fun _ _ _ => rfl⟩, rfl⟩
theorem Only.below {X B : Nat} {w w' : World} (h : Only X w w') (hB : B ≤ X) : Below B w w' :=
  ⟨h.by_.os, h.by_.tape, h.by_.output, h.by_.size, fun k hk => by
    by_cases hlt : k < w.heap.size
    · exact h.by_.block k hlt (by simp; omega)
    · have hz := h.size
      rw [Array.getElem?_eq_none (by omega), Array.getElem?_eq_none (by omega)]⟩
theorem Only.trans {X : Nat} {a b c : World} (h : Only X a b) (k : Only X b c) : Only X a c :=
  ⟨⟨k.by_.os.trans h.by_.os, k.by_.tape.trans h.by_.tape, k.by_.output.trans h.by_.output, Nat.le_trans h.by_.size k.by_.size, fun i hi hne => (k.by_.block i (Nat.lt_of_lt_of_le hi h.by_.size) hne).trans (h.by_.block i hi hne)⟩, k.size.trans h.size⟩
theorem Only.other {X Y : Nat} {w w' : World} {o : Obj} (h : Only X w w') (hy : w.heap[Y]? = some o) (hne : Y ≠ X) : w'.heap[Y]? = some o :=
  (h.by_.block Y (Array.getElem?_eq_some_iff.1 hy).1 (by simpa using fun e => hne e)).trans hy
theorem only_setRow (w : World) (X : Nat) (c : Array Value) : Only X w (w.setRow X c) := by
  refine ⟨⟨rfl, rfl, rfl, by simp [World.setRow], fun j hj hne => ?_⟩, by simp [World.setRow]⟩
  simp only [World.setRow]
  rw [Array.getElem?_modify]
  split
  · subst_vars; simp at hne
  · rfl

/-- What a variable of many cells holds is read: some of them. -/
theorem cell_in {W : World} {X : Nat} {c : Array Value} {T : TypeId} {fr : Nat × Nat} (h : W.heap[X]? = some (.cells c T fr)) {j : Nat} {v : Value} (hv : c[j]? = some v) : W.cell? ⟨X, j, none⟩ = some v := by
  rw [cell_of_row W X j c T fr h, hv]

/-- A struct or an array goes whole into a variable. -/
theorem st_agg {ops : Array Oper} {rest : List Oper} {o : Oper} {a : Act} {w : World} {Q : Exit → Act → World → Prop} (hgd : o.guard = none) (ty : TypeId) (x y : Operand) (ho : o.op = .store ty x y)
    (X : Nat) (c' : Array Value) (hx : a.eval x = .pointer (some ⟨X, 0, none⟩)) (hy : a.eval y = .agg c') (T : TypeId) (c : Array Value) (hB : w.heap[X]? = some (.cells c T (0, 0)))
    (hi : (Tryd.prog.info? ty).map (·.size) = some c'.size) (hs : c.size = c'.size) (h1 : c'.all (·.oneCell') = true)
    (h : ∀ w', w'.heap[X]? = some (.cells c' T (0, 0)) → Only X w w' → wpList Tryd.prog ops Q rest (a.put o.dst undef) w') : wpList Tryd.prog ops Q (o :: rest) a w :=
  wpList_plain hgd fun _ hK => wp_store_row ty x y ho X _ hx hy T _ hB hi hs h1 (hK _ _ (h _ (setRow_heap w X _ _ _ _ hB) (only_setRow _ _ _)))

/-- .. where an operation is carried out by itself (in a region that draws its order). -/
theorem st_agg_wp {o : Oper} {a : Act} {w : World} {K : Act → World → Prop} {Q : Exit → Act → World → Prop} (ty : TypeId) (x y : Operand) (ho : o.op = .store ty x y)
    (X : Nat) (c' : Array Value) (hx : a.eval x = .pointer (some ⟨X, 0, none⟩)) (hy : a.eval y = .agg c') (T : TypeId) (c : Array Value) (hB : w.heap[X]? = some (.cells c T (0, 0)))
    (hi : (Tryd.prog.info? ty).map (·.size) = some c'.size) (hs : c.size = c'.size) (h1 : c'.all (·.oneCell') = true)
    (h : ∀ w', w'.heap[X]? = some (.cells c' T (0, 0)) → Only X w w' → K (a.put o.dst undef) w') : o.wp Tryd.prog a w K Q :=
  wp_store_row ty x y ho X _ hx hy T _ hB hi hs h1 (h _ (setRow_heap w X _ _ _ _ hB) (only_setRow _ _ _))

theorem run_storeVar_cell (w : World) (g k : Nat) (T ty : TypeId) (cur : Array Value) (v : Value) (hg : w.heap[g]? = some (.cells cur T (0, 0))) (hk : k < cur.size) (hi : (Tryd.prog.info? ty).map (·.size) = some 1)
    (h1 : v.oneCell' = true) : (storeVar ty ⟨g, k, none⟩ v).run Tryd.prog w = .ok () (w.setRow g (cur.setIfInBounds k v)) := by
  have := run_storeCells_at (P := Tryd.prog) g k T [v] 0 cur w hg (by simp; omega) (fun x hx => by simp at hx; subst hx; exact h1)
  have hc : v.cells = #[v] := by cases v <;> first | rfl | cases h1
  have e : (cur.toList.take (k + 0) ++ [v] ++ cur.toList.drop (k + 0 + [v].length)).toArray = cur.setIfInBounds k v := by
    apply Array.ext_getElem?
    intro i
    simp only [Nat.add_zero, List.length_cons, List.length_nil, List.getElem?_toArray, Array.getElem?_setIfInBounds]
    rw [List.append_assoc, List.getElem?_append]
    simp only [List.length_take, Array.length_toList]
    by_cases h : i < k
    · rw [if_pos (by omega), List.getElem?_take_of_lt h, if_neg (by omega)]
      simp
    · rw [if_neg (by omega)]
      by_cases h' : i = k
      · subst h'
        rw [if_pos rfl, if_pos hk, show i - min i cur.size = 0 by omega]
        simp
      · rw [if_neg (by omega), show i - min k cur.size = (i - k - 1) + 1 by omega]
        simp only [List.singleton_append, List.getElem?_cons_succ, List.getElem?_drop]
        rw [show k + (0 + 1) + (i - k - 1) = i by omega]
        simp
  rw [e] at this
  cases hq : Tryd.prog.info? ty with
  | none => simp [hq] at hi
  | some i =>
    have hs : i.size = 1 := by simpa [hq] using hi
    simp [storeVar, sizeOf, typeInfo, hq, hc, hs, this]
/-- One cell goes into a variable of many. -/
theorem st_cell {ops : Array Oper} {rest : List Oper} {o : Oper} {a : Act} {w : World} {Q : Exit → Act → World → Prop} (hgd : o.guard = none) (ty : TypeId) (x y : Operand) (ho : o.op = .store ty x y)
    (X k : Nat) (v : Value) (hx : a.eval x = .pointer (some ⟨X, k, none⟩)) (hy : a.eval y = v) (h1 : v.oneCell' = true) (T : TypeId) (c : Array Value) (hB : w.heap[X]? = some (.cells c T (0, 0)))
    (hi : (Tryd.prog.info? ty).map (·.size) = some 1) (hk : k < c.size)
    (h : ∀ w', w'.heap[X]? = some (.cells (c.setIfInBounds k v) T (0, 0)) → Only X w w' → wpList Tryd.prog ops Q rest (a.put o.dst undef) w') : wpList Tryd.prog ops Q (o :: rest) a w :=
  wpList_plain hgd fun _ hK => by
    unfold Oper.wp execOp
    simp only [ho, hx, hy, Instr.storeAt, Instr.sureAddr, Sem.run_bind, Sem.run_pure, Result.andThen_ok, run_storeVar_cell w X k T ty c v hB hk hi h1]
    exact hK _ _ (h _ (setRow_heap w X _ _ _ _ hB) (only_setRow _ _ _))
/-- A struct or an array is read whole out of a variable, where a guard is met (or there is none). -/
theorem ld_if {ops : Array Oper} {rest : List Oper} {o : Oper} {a : Act} {w : World} {Q : Exit → Act → World → Prop} (hwd : Region.wanted o (yielded ops a.tmps) = true) (ty : TypeId) (x : Operand) (ho : o.op = .load ty x)
    (X : Nat) (hx : a.eval x = .pointer (some ⟨X, 0, none⟩)) (T : TypeId) (c : Array Value) (fr : Nat × Nat) (d : TypeDesc) (hB : w.heap[X]? = some (.cells c T fr))
    (hu : Tryd.prog.underlying ty = some d) (hd : d.isRow = true) (hi : (Tryd.prog.info? ty).map (·.size) = some c.size)
    (h : wpList Tryd.prog ops Q rest (a.put o.dst (.agg c)) w) : wpList Tryd.prog ops Q (o :: rest) a w :=
  wpList_step fun _ hK => by
    rw [if_pos hwd]
    exact wp_load_row ty x ho X hx T c fr d hB hu (by cases d <;> simp_all [TypeDesc.isRow]) hi (hK _ _ h)
end Go.Proofs.YtnnlfgfgfegjkaaDoor

/- Lists of numbers: what they read as, and lists that a call owns. -/
namespace Go.Proofs.YtnnlfgfgfegjkaaDoor
open Go.RowKit

/-- v is a list that reads as these numbers -/
def IntsAt (w : World) (v : Value) (zs : List Int) : Prop :=
  ∃ (a : Option Addr) (cap b o : Nat), v = .slice a zs.length cap ∧ (0 < zs.length → a = some ⟨b, o, none⟩) ∧ (∀ j, j < zs.length → w.cell? ⟨b, o + j, none⟩ = some (.int .i64 (zs.getD j 0))) ∧
    (∀ n ∈ zs, -9223372036854775808 ≤ n ∧ n ≤ 9223372036854775807) ∧ zs.length ≤ maxLen

theorem IntsAt.later {w w' : World} {v : Value} {zs : List Int} (h : IntsAt w v zs) (hb : Below w.heap.size w w') : IntsAt w' v zs := by
  obtain ⟨a, cap, b, o, h1, h2, h3, h4⟩ := h
  exact ⟨a, cap, b, o, h1, h2, fun j hj => (hb.cell (p := ⟨b, o + j, none⟩) (World.block_lt_of_cell? w _ (h3 j hj))).trans (h3 j hj), h4⟩

/-- The cells of these numbers. -/
def iv (l : List Int) : List Value := l.map fun n => .int .i64 n
theorem iv_len (l : List Int) : (iv l).length = l.length := by simp [iv]
theorem iv_app (l r : List Int) : iv (l ++ r) = iv l ++ iv r := by simp [iv]
theorem iv_one {l : List Int} : ∀ u ∈ iv l, u.oneCell' = true := by
  intro u hu
  unfold iv at hu
  rw [List.mem_map] at hu
  obtain ⟨c, _, rfl⟩ := hu
  rfl

/-- v is a list of just these numbers, in a block from B on. -/
def Ints (B : Nat) (v : Value) (l : List Int) (w : World) : Prop := w.ownsRowF B 3 1 v l.length (iv l) ∧ B ≤ w.heap.size

section
variable {B : Nat} {v : Value} {l : List Int} {w w1 : World}
theorem Ints.nil (h : B ≤ w.heap.size) : Ints B (.slice none 0 0) [] w := ⟨World.ownsRowF_nil _ _ _ _, h⟩
theorem Ints.lit (hB : B ≤ w.heap.size) (cs : Array Value) (l : List Int) (hc : cs.toList = iv l) (hl4 : l.length ≤ 4096) :
    Ints B (.slice (some ⟨w.heap.size, 0, none⟩) l.length l.length) l (w.alloc (.cells cs 3)) := by
  have hl : l.length ≤ maxLen := by unfold maxLen; omega
  have hs : cs.size = l.length * 1 := by rw [← Array.length_toList, hc, iv_len]; omega
  refine ⟨?_, by simp; omega⟩
  have := World.ownsRowF_of (World.ownsRow_lit (base := B) (e := 3) (size := 1) w cs l.length hB hl hs)
  rwa [hc] at this
theorem Ints.low {B' : Nat} (h : Ints B v l w) (hB : B' ≤ B) : Ints B' v l w := by
  obtain ⟨⟨h1, h2⟩, h3⟩ := h
  refine ⟨⟨h1, ?_⟩, by omega⟩
  rcases h2 with h2 | ⟨g, cap, cur, fz, a1, a2, a3⟩
  · exact .inl h2
  · exact .inr ⟨g, cap, cur, fz, a1, by omega, a3⟩
/-- What keeps all blocks but one that is none of numbers keeps the list. -/
theorem Ints.grown {row : Option Nat} (h : Ints B v l w) (hg : w.grownBy w1 row) (hne : v.ownBlock = none ∨ v.ownBlock ≠ row) : Ints B v l w1 := ⟨h.1.kept hg hne, Nat.le_trans h.2 hg.size⟩
theorem Ints.later (h : Ints B v l w) (hb : Below w.heap.size w w1) : Ints B v l w1 := h.grown (row := none) ⟨hb.os, hb.tape, hb.output, hb.size, fun k hk _ => hb.block k hk⟩ (by cases v.ownBlock <;> simp)
theorem Ints.alloc (h : Ints B v l w) (o : Obj) : Ints B v l (w.alloc o) := h.later ((Below.refl _ _).alloc (Nat.le_refl _) o)
theorem Ints.others {b : Nat} (h : Ints B v l w) (hk : Lib.OthersKept 5 (some b) w w1) (hs : w.heap.size ≤ w1.heap.size) (hb : ∃ cs T fr, w.heap[b]? = some (.cells cs T fr) ∧ T ≠ 3) : Ints B v l w1 := by
  obtain ⟨⟨h1, h2⟩, h3⟩ := h
  refine ⟨⟨h1, ?_⟩, by omega⟩
  rcases h2 with h2 | ⟨g, cap, cur, fz, a1, a2, a3, a4⟩
  · exact .inl h2
  · refine .inr ⟨g, cap, cur, fz, a1, a2, hk g _ a3 ?_ ?_, a4⟩
    · intro e
      obtain ⟨cs, T, fr, hT, hne⟩ := hb
      obtain rfl := Option.some.inj e
      rw [a3] at hT
      simp only [Option.some.injEq, Obj.cells.injEq] at hT
      exact hne hT.2.1.symm
    · intro c fz' e
      simp only [Obj.cells.injEq] at e
      exact absurd e.2.1 (by decide)
theorem Ints.reads (h : Ints B v l w) (hl : ∀ n ∈ l, -9223372036854775808 ≤ n ∧ n ≤ 9223372036854775807) : IntsAt w v l := by
  obtain ⟨hr, _⟩ := h
  have hr' := hr
  obtain ⟨h1, h2⟩ := hr
  rcases h2 with ⟨rfl, h2⟩ | ⟨g, cap, cur, fz, a1, a2, a3, a4, a5, a6, a7⟩
  · obtain rfl := List.eq_nil_of_length_eq_zero h2
    exact ⟨none, 0, 0, 0, rfl, fun h => absurd h (by simp), fun j h => absurd h (by simp), fun n h => absurd h (by simp), by simp⟩
  · subst a1
    refine ⟨some ⟨g, 0, none⟩, cap, g, 0, rfl, fun _ => rfl, fun j hj => ?_, hl, by omega⟩
    have e : (⟨g, 0, none⟩ : Addr).add j = ⟨g, 0 + j, none⟩ := by unfold Addr.add; split <;> simp_all
    have := hr'.cells rfl j (.int .i64 (l.getD j 0)) (by rw [iv, List.getElem?_map, List.getElem?_eq_getElem hj]; simp [List.getD_eq_getElem?_getD, List.getElem?_eq_getElem hj])
    rw [e] at this
    exact this
/-- What a list yields that is appended: an address, and the cells behind it. -/
theorem Ints.src (h : Ints B v l w) (hn : l ≠ []) : ∃ ad c, v = .slice (some ad) l.length c ∧ ∀ j u, (iv l)[j]? = some u → w.cell? (ad.add j) = some u := by
  obtain ⟨hr, _⟩ := h
  have hr' := hr
  obtain ⟨h1, h2⟩ := hr
  rcases h2 with ⟨_, h2⟩ | ⟨g, cap, cur, fz, a1, a2, a3, a4⟩
  · exact absurd (List.eq_nil_of_length_eq_zero h2) hn
  · subst a1
    exact ⟨⟨g, 0, none⟩, cap, rfl, hr'.cells rfl⟩
theorem Ints.len (h : Ints B v l w) : ∃ a c, v = .slice a l.length c := by
  obtain ⟨⟨_, h2⟩, _⟩ := h
  rcases h2 with ⟨rfl, h2⟩ | ⟨g, cap, cur, fz, rfl, _⟩
  · exact ⟨none, 0, by rw [h2]⟩
  · exact ⟨_, _, rfl⟩
end

theorem ints_cap {B : Nat} {v : Value} {l : List Int} {w : World} (h : Ints B v l w) : ∃ a c, v = .slice a l.length c ∧ l.length ≤ c := by
  obtain ⟨⟨_, h2⟩, _⟩ := h
  rcases h2 with ⟨rfl, h2⟩ | ⟨g, cap, cur, fz, rfl, _, _, _, h3, _⟩
  · exact ⟨none, 0, by rw [h2], by omega⟩
  · exact ⟨_, _, rfl, h3⟩

theorem int_info : (Tryd.prog.info? 3).map (fun i => (i.zero, i.size, i.bytes)) = some (some (.int .i64 0), 1, 8) := by kernel_rfl

/-- 'append(out, x, y ..)', 'append(out, xs...)' of numbers that lie behind an address: the operation. -/
theorem ints_wp {o : Oper} {a : Act} {K : Act → World → Prop} {Q : Exit → Act → World → Prop} {w : World} (s x : Operand)
    (ho : o.op = .call { callee := .builtin .append, args := #[s, x], argTypes := #[38, 38] })
    {B : Nat} {v : Value} {l : List Int} (hs : a.eval s = v) (hb : Ints B v l w) (r : List Int) (ad : Addr) (c : Nat) (hx : a.eval x = .slice (some ad) r.length c)
    (hc : ∀ j u, (iv r)[j]? = some u → w.cell? (ad.add j) = some u) (hlen : l.length + r.length ≤ 17592186044416)
    (h : ∀ v' w', Ints B v' (l ++ r) w' → w.grownBy w' v.ownBlock → K (a.put o.dst v') w') : o.wp Tryd.prog a w K Q := by
  obtain ⟨i, hi, hz, h1, h2⟩ := info_parts int_info
  obtain ⟨v', w', hr, g1, g2, _⟩ := run_append_ownF (P := Tryd.prog) w B 38 o.type 3 i (.int .i64 0) 1 8 Tryd.underlying38 hi hz h1 h2 rfl (by decide) v l.length (iv l) hb.1 ad r.length c (iv r) (by rw [iv_len]; omega) hc iv_one
    (by unfold maxLen; omega) (by omega) hb.2
  unfold Oper.wp execOp
  simp only [ho, resolve, invoke, builtin, Sem.run_bind, Sem.run_pure, Result.andThen_ok, List.map_toArray, List.map_cons, List.map_nil, hs, hx, hr]
  exact h v' w' ⟨by rw [List.length_append, iv_app]; exact g1, Nat.le_trans hb.2 g2.size⟩ g2
/-- .. in a list of operations. -/
theorem ints_append {ops : Array Oper} {rest : List Oper} {o : Oper} {a : Act} {Q : Exit → Act → World → Prop} {w : World} (hgd : o.guard = none) (s x : Operand)
    (ho : o.op = .call { callee := .builtin .append, args := #[s, x], argTypes := #[38, 38] })
    {B : Nat} {v : Value} {l : List Int} (hs : a.eval s = v) (hb : Ints B v l w) (r : List Int) (ad : Addr) (c : Nat) (hx : a.eval x = .slice (some ad) r.length c)
    (hc : ∀ j u, (iv r)[j]? = some u → w.cell? (ad.add j) = some u) (hlen : l.length + r.length ≤ 17592186044416)
    (h : ∀ v' w', Ints B v' (l ++ r) w' → w.grownBy w' v.ownBlock → wpList Tryd.prog ops Q rest (a.put o.dst v') w') : wpList Tryd.prog ops Q (o :: rest) a w :=
  wpList_plain hgd fun _ hK => ints_wp s x ho hs hb r ad c hx hc hlen fun v' w' h1 h2 => hK _ _ (h v' w' h1 h2)
theorem new_ints (w : World) (r : List Int) (cs : Array Value) (hcs : cs = (iv r).toArray) : ∀ j u, (iv r)[j]? = some u → (w.alloc (.cells cs 3)).cell? ((⟨w.heap.size, 0, none⟩ : Addr).add j) = some u := by
  subst hcs
  intro j u hu
  have e : (⟨w.heap.size, 0, none⟩ : Addr).add j = ⟨w.heap.size, j, none⟩ := by
    simp [Addr.add]
    intro hj; exact hj.symm
  rw [e]
  simpa using hu
/-- .. of numbers that the statement itself has just laid. -/
theorem ints_append_new {ops : Array Oper} {rest : List Oper} {o : Oper} {a : Act} {Q : Exit → Act → World → Prop} {w : World} (hgd : o.guard = none) (s x : Operand)
    (ho : o.op = .call { callee := .builtin .append, args := #[s, x], argTypes := #[38, 38] })
    {B : Nat} {v : Value} {l : List Int} (hs : a.eval s = v) (hb : Ints B v l w) (r : List Int) (cs : Array Value) (hcs : cs = (iv r).toArray) (n c : Nat) (hn : n = r.length) (hx : a.eval x = .slice (some ⟨w.heap.size, 0, none⟩) n c)
    (hlen : l.length + r.length ≤ 17592186044416)
    (h : ∀ v' w', Ints B v' (l ++ r) w' → w.grownBy w' v.ownBlock → wpList Tryd.prog ops Q rest (a.put o.dst v') w') : wpList Tryd.prog ops Q (o :: rest) a (w.alloc (.cells cs 3)) := by
  subst hn
  exact ints_append hgd s x ho hs (hb.alloc _) r ⟨w.heap.size, 0, none⟩ c hx (new_ints w r cs hcs) hlen fun v' w' h1 h2 => h v' w' h1 ⟨h2.os, h2.tape, h2.output, by have := h2.size; simp at this; omega, fun k hk hne => (h2.block k (by simp; omega) hne).trans (Lib.alloc_old w _ k hk)⟩
/-- 'append(list, numbers..)', where a guard is met. -/
theorem ints_append_if {ops : Array Oper} {rest : List Oper} {o : Oper} {a : Act} {Q : Exit → Act → World → Prop} {w : World} (hwd : Region.wanted o (yielded ops a.tmps) = true) (s x : Operand)
    (ho : o.op = .call { callee := .builtin .append, args := #[s, x], argTypes := #[38, 38] })
    {B : Nat} {v : Value} {l : List Int} (hs : a.eval s = v) (hb : Ints B v l w) (r : List Int) (ad : Addr) (c : Nat) (hx : a.eval x = .slice (some ad) r.length c)
    (hc : ∀ j u, (iv r)[j]? = some u → w.cell? (ad.add j) = some u) (hlen : l.length + r.length ≤ 17592186044416)
    (h : ∀ v' w', Ints B v' (l ++ r) w' → w.grownBy w' v.ownBlock → wpList Tryd.prog ops Q rest (a.put o.dst v') w') : wpList Tryd.prog ops Q (o :: rest) a w :=
  wpList_step fun _ hK => by
    rw [if_pos hwd]
    exact ints_wp s x ho hs hb r ad c hx hc hlen fun v' w' h1 h2 => hK _ _ (h v' w' h1 h2)
theorem ints_append_new_if {ops : Array Oper} {rest : List Oper} {o : Oper} {a : Act} {Q : Exit → Act → World → Prop} {w : World} (hwd : Region.wanted o (yielded ops a.tmps) = true) (s x : Operand)
    (ho : o.op = .call { callee := .builtin .append, args := #[s, x], argTypes := #[38, 38] })
    {B : Nat} {v : Value} {l : List Int} (hs : a.eval s = v) (hb : Ints B v l w) (r : List Int) (cs : Array Value) (hcs : cs = (iv r).toArray) (n c : Nat) (hn : n = r.length) (hx : a.eval x = .slice (some ⟨w.heap.size, 0, none⟩) n c)
    (hlen : l.length + r.length ≤ 17592186044416)
    (h : ∀ v' w', Ints B v' (l ++ r) w' → w.grownBy w' v.ownBlock → wpList Tryd.prog ops Q rest (a.put o.dst v') w') : wpList Tryd.prog ops Q (o :: rest) a (w.alloc (.cells cs 3)) := by
  subst hn
  exact ints_append_if hwd s x ho hs (hb.alloc _) r ⟨w.heap.size, 0, none⟩ c hx (new_ints w r cs hcs) hlen fun v' w' h1 h2 => h v' w' h1 ⟨h2.os, h2.tape, h2.output, by have := h2.size; simp at this; omega, fun k hk hne => (h2.block k (by simp; omega) hne).trans (Lib.alloc_old w _ k hk)⟩
end Go.Proofs.YtnnlfgfgfegjkaaDoor

/- Lists of numbers, wherever they lie: what they read as; lists that nothing else is written into; what is cut of them; what lies from a mark on is as it was. -/
namespace Go.Proofs.YtnnlfgfgfegjkaaDoor
open Go.RowKit
set_option maxRecDepth 1000000
set_option linter.unusedSimpArgs false

/-- v reads as these numbers, wherever they lie. -/
def SegAt (w : World) (v : Value) (zs : List Int) : Prop := ∃ (a : Option Addr) (cap : Nat), v = .slice a zs.length cap ∧ (0 < zs.length → ∃ ad, a = some ad ∧ ∀ j u, (iv zs)[j]? = some u → w.cell? (ad.add j) = some u)
/-- v is a list of just these numbers that nothing else is written into: nil, if there is none. -/
def LisAt (w : World) (v : Value) (zs : List Int) : Prop :=
  (zs = [] ∧ v = .slice none 0 0) ∨ (0 < zs.length ∧ ∃ (g c : Nat) (cs : Array Value) (fr : Nat × Nat), v = .slice (some ⟨g, 0, none⟩) zs.length c ∧ zs.length ≤ c ∧ w.heap[g]? = some (.cells cs 3 fr) ∧ ∀ (j : Nat) (u : Value), (iv zs)[j]? = some u → cs[j]? = some u)
/-- .. that lies from block B on. -/
def LisFrom (B : Nat) (w : World) (v : Value) (zs : List Int) : Prop :=
  (zs = [] ∧ v = .slice none 0 0) ∨ (0 < zs.length ∧ ∃ (g c : Nat) (cs : Array Value) (fr : Nat × Nat), B ≤ g ∧ v = .slice (some ⟨g, 0, none⟩) zs.length c ∧ zs.length ≤ c ∧ w.heap[g]? = some (.cells cs 3 fr) ∧ ∀ (j : Nat) (u : Value), (iv zs)[j]? = some u → cs[j]? = some u)
theorem LisFrom.at_ {B : Nat} {w : World} {v : Value} {zs : List Int} : LisFrom B w v zs → LisAt w v zs
  | .inl h => .inl h
  | .inr ⟨h0, g, c, cs, fr, _, h⟩ => .inr ⟨h0, g, c, cs, fr, h⟩
theorem SegAt.later {w w' : World} {v : Value} {zs : List Int} (h : SegAt w v zs) (hb : Below w.heap.size w w') : SegAt w' v zs := by
  obtain ⟨a, cap, rfl, h2⟩ := h
  refine ⟨a, cap, rfl, fun h0 => ?_⟩
  obtain ⟨ad, rfl, hc⟩ := h2 h0
  exact ⟨ad, rfl, fun j u hu => (hb.cell (p := ad.add j) (World.block_lt_of_cell? w _ (hc j u hu))).trans (hc j u hu)⟩
theorem LisAt.nil (w : World) : LisAt w (.slice none 0 0) [] := .inl ⟨rfl, rfl⟩
theorem LisAt.kept {w w' : World} {v : Value} {zs : List Int} {row : Option Nat} (h : LisAt w v zs) (hg : w.grownBy w' row) (hT : ∀ X, row = some X → ∃ cs T fr, w.heap[X]? = some (.cells cs T fr) ∧ T ≠ 3) : LisAt w' v zs := by
  rcases h with h | ⟨h0, g, c, cs, fr, h1, h2, h3, h4⟩
  · exact .inl h
  · refine .inr ⟨h0, g, c, cs, fr, h1, h2, ?_, h4⟩
    refine (hg.block g (Array.getElem?_eq_some_iff.1 h3).1 ?_).trans h3
    intro e
    obtain ⟨cs', T, fr', hX, hne⟩ := hT g e.symm
    rw [h3] at hX
    simp only [Option.some.injEq, Obj.cells.injEq] at hX
    exact hne hX.2.1.symm
theorem add_at (g o j : Nat) : (⟨g, o, none⟩ : Addr).add j = ⟨g, o + j, none⟩ := by
  unfold Addr.add; split <;> simp_all
theorem LisAt.cells {w : World} {v : Value} {zs : List Int} (h : LisAt w v zs) : SegAt w v zs := by
  rcases h with ⟨rfl, rfl⟩ | ⟨h0, g, c, cs, fr, rfl, h2, h3, h4⟩
  · exact ⟨none, 0, rfl, fun h => absurd h (by simp)⟩
  · refine ⟨_, c, rfl, fun _ => ⟨_, rfl, fun j u hu => ?_⟩⟩
    rw [add_at, Nat.zero_add]
    exact cell_in h3 (h4 j u hu)
/-- What the first k of these lists have. -/
def catL (ls : List (Value × List Int)) (k : Nat) : List Int := (ls.take k).flatMap (·.2)
theorem cat_succ {ls : List (Value × List Int)} {k : Nat} (hk : k < ls.length) : catL ls (k + 1) = catL ls k ++ ls[k].2 := by
  unfold catL
  rw [List.take_succ_eq_append_getElem hk, List.flatMap_append]
  simp
theorem cat_le {ls : List (Value × List Int)} : ∀ {j : Nat} (k : Nat), k ≤ j → j ≤ ls.length → (catL ls k).length ≤ (catL ls j).length
  | 0, k, hk, _ => by obtain rfl : k = 0 := by omega
                      exact Nat.le_refl _
  | j + 1, k, hk, hj => by
    by_cases e : k = j + 1
    · subst e; exact Nat.le_refl _
    · have := cat_le (ls := ls) (j := j) k (by omega) (by omega)
      rw [cat_succ (by omega), List.length_append]
      omega
/-- The list being filled. -/
def midL (ls : List (Value × List Int)) (k n : Nat) : List Value := iv (catL ls k) ++ List.replicate (n - (catL ls k).length) (.int .i64 0)
theorem mid_len {ls : List (Value × List Int)} {k n : Nat} (h : (catL ls k).length ≤ n) : (midL ls k n).length = n := by
  unfold midL
  rw [List.length_append, iv_len, List.length_replicate]
  omega
theorem mid_succ {ls : List (Value × List Int)} {k n : Nat} (hk : k < ls.length) (h : (catL ls (k + 1)).length ≤ n) : splice (midL ls k n) (catL ls k).length (iv ls[k].2) = midL ls (k + 1) n := by
  have e := cat_succ hk
  have hl : (catL ls (k + 1)).length = (catL ls k).length + ls[k].2.length := by rw [e, List.length_append]
  unfold splice midL
  rw [e, iv_app, List.take_append_of_le_length (by rw [iv_len]; exact Nat.le_refl _), List.take_of_length_le (by rw [iv_len]; exact Nat.le_refl _), List.append_assoc]
  congr 2
  rw [iv_len, List.drop_append, List.drop_of_length_le (by rw [iv_len]; omega), List.nil_append, List.drop_replicate, iv_len, List.length_append]
  congr 1
  omega
theorem wr64 {x : Int} (h0 : -9223372036854775808 ≤ x) (h1 : x ≤ 9223372036854775807) : wrap64 x = x := by unfold wrap64; omega
theorem int_size : (Tryd.prog.info? 3).map (·.size) = some 1 := by kernel_rfl
theorem LisAt.later {w w' : World} {v : Value} {zs : List Int} (h : LisAt w v zs) (hb : Below w.heap.size w w') : LisAt w' v zs :=
  h.kept (row := none) ⟨hb.os, hb.tape, hb.output, hb.size, fun k hk _ => hb.block k hk⟩ (fun _ e => by cases e)
theorem LisAt.shape {w : World} {v : Value} {zs : List Int} (h : LisAt w v zs) : ∃ a n, v = .slice a zs.length n ∧ zs.length ≤ n := by
  rcases h with ⟨rfl, rfl⟩ | ⟨_, g, c, _, _, rfl, h, _, _⟩
  · exact ⟨none, 0, rfl, Nat.le_refl _⟩
  · exact ⟨_, c, rfl, h⟩
/-- 'list[:lo]' and 'list[hi:]'. -/
theorem sp_cuts {W : World} {v : Value} {l : List Int} (h : LisAt W v l) (lo hi : Nat) (hlo : lo ≤ l.length) (hhi : hi ≤ l.length) : ∃ a1 n1 c1 a3 n3 c3, SegAt W (.slice a1 n1 c1) (l.take lo) ∧ SegAt W (.slice a3 n3 c3) (l.drop hi) ∧
    (∀ w, (Instr.slice 38 v none (some (.int .i64 (lo : Int))) none).run Tryd.prog w = .ok (.slice a1 n1 c1) w) ∧ (∀ w, (Instr.slice 38 v (some (.int .i64 (hi : Int))) none none).run Tryd.prog w = .ok (.slice a3 n3 c3) w) := by
  have hu : Tryd.prog.underlying 38 = some (.slice (Tryd.prog.elem 38)) := by kernel_rfl
  have hs : ∀ w, (sizeOf (Tryd.prog.elem 38)).run Tryd.prog w = .ok 1 w := fun w => by
    have e : Tryd.prog.elem 38 = 3 := by kernel_rfl
    rw [e]
    obtain ⟨i, hi, _, h1, _⟩ := info_parts int_info
    simp [sizeOf, typeInfo, hi, h1]
  rcases h with ⟨rfl, rfl⟩ | ⟨h0, g, c, cs, fr, rfl, h2, h3, h4⟩
  · obtain rfl : lo = 0 := by simpa using hlo
    obtain rfl : hi = 0 := by simpa using hhi
    refine ⟨none, 0, 0, none, 0, 0, ⟨none, 0, rfl, fun h => absurd h (by simp)⟩, ⟨none, 0, rfl, fun h => absurd h (by simp)⟩, fun w => ?_, fun w => ?_⟩
    · rw [run_slice_h w _ _ _ _ hu _ _ (by simp) (by simp), hs]; rfl
    · rw [run_slice_l w _ _ _ _ hu _ _ (by simp) (by simp), hs]; rfl
  · refine ⟨some ⟨g, 0, none⟩, lo, c, (if c = hi then some ⟨g, 0, none⟩ else some ⟨g, hi, none⟩), l.length - hi, c - hi, ⟨_, c, by rw [List.length_take, Nat.min_eq_left hlo], fun _ => ⟨_, rfl, fun j u hu => ?_⟩⟩, ⟨_, c - hi, by rw [List.length_drop], fun hp => ?_⟩, fun w => ?_, fun w => ?_⟩
    · rw [add_at, Nat.zero_add]
      refine cell_in h3 (h4 j u ?_)
      rw [iv, List.map_take, List.getElem?_take] at hu
      split at hu
      · exact hu
      · cases hu
    · rw [List.length_drop] at hp
      rw [if_neg (by omega)]
      refine ⟨_, rfl, fun j u hu => ?_⟩
      rw [add_at]
      refine cell_in h3 (h4 (hi + j) u ?_)
      rw [iv, List.map_drop, List.getElem?_drop] at hu
      exact hu
    · rw [run_slice_h w _ _ _ _ hu _ _ (by omega) (by omega), hs]
      simp only [Result.andThen_ok, sliced, Int.toNat_natCast, Nat.sub_zero, Nat.zero_mul, Option.map_some, add_at, Nat.add_zero, ite_self]
    · rw [run_slice_l w _ _ _ _ hu _ _ (by omega) (by omega), hs]
      simp only [Result.andThen_ok, sliced, Int.toNat_natCast, Nat.mul_one, Option.map_some, add_at, Nat.zero_add]
theorem IntsAt.range {w : World} {v : Value} {zs : List Int} (h : IntsAt w v zs) : ∀ n ∈ zs, -9223372036854775808 ≤ n ∧ n ≤ 9223372036854775807 := by
  obtain ⟨_, _, _, _, _, _, _, h, _⟩ := h
  exact h
theorem IntsAt.seg {w : World} {v : Value} {zs : List Int} (h : IntsAt w v zs) : SegAt w v zs := by
  obtain ⟨a, cap, b, o, rfl, h1, h2, _⟩ := h
  refine ⟨a, cap, rfl, fun h0 => ⟨_, h1 h0, fun j u hu => ?_⟩⟩
  rw [iv, List.getElem?_map] at hu
  cases hj : zs[j]? with
  | none => rw [hj] at hu; cases hu
  | some z =>
    rw [hj] at hu
    obtain ⟨hlt, hz⟩ := List.getElem?_eq_some_iff.1 hj
    have := h2 j hlt
    rw [List.getD_eq_getElem?_getD, hj] at this
    rw [add_at, this]
    exact hu
/-- What lies from n on is as it was. -/
structure From (n : Nat) (w w' : World) : Prop where
  os : w'.os = w.os
  tape : w'.tape = w.tape
  output : w'.output = w.output
  size : w.heap.size ≤ w'.heap.size
  block : ∀ k, n ≤ k → k < w.heap.size → w'.heap[k]? = w.heap[k]?
theorem From.refl (n : Nat) (w : World) : From n w w := ⟨rfl, rfl, rfl, Nat.le_refl _, fun _ _ _ => rfl⟩
theorem From.trans {n : Nat} {a b c : World} (h : From n a b) (k : From n b c) : From n a c :=
  ⟨k.os.trans h.os, k.tape.trans h.tape, k.output.trans h.output, Nat.le_trans h.size k.size, fun j h1 h2 => (k.block j h1 (Nat.lt_of_lt_of_le h2 h.size)).trans (h.block j h1 h2)⟩
theorem From.below {n : Nat} {a b : World} (h : Below a.heap.size a b) : From n a b := ⟨h.os, h.tape, h.output, h.size, fun j _ h2 => h.block j h2⟩
theorem From.only {n X : Nat} {a b : World} (h : Only X a b) (hX : X < n) : From n a b :=
  ⟨h.by_.os, h.by_.tape, h.by_.output, h.by_.size, fun j h1 h2 => h.by_.block j h2 (by simp; omega)⟩
theorem LisFrom.from_ {B : Nat} {w w' : World} {v : Value} {zs : List Int} (h : LisFrom B w v zs) (hf : From B w w') : LisAt w' v zs := by
  rcases h with h | ⟨h0, g, c, cs, fr, hB, h1, h2, h3, h4⟩
  · exact .inl h
  · exact .inr ⟨h0, g, c, cs, fr, h1, h2, (hf.block g hB (Array.getElem?_eq_some_iff.1 h3).1).trans h3, h4⟩
end Go.Proofs.YtnnlfgfgfegjkaaDoor

/- Lists whose elements have any number of cells: what they read as, place by place; 'make', 'copy'; one element read, or stored. -/
namespace Go.Proofs.YtnnlfgfgfegjkaaDoor
open Go.RowKit
set_option maxRecDepth 1000000
set_option linter.unusedSimpArgs false

/-- v reads as n elements of s cells each, wherever they lie. -/
def PlacesAt (W : World) (s : Nat) (v : Value) (F : Nat → Value) (n : Nat) : Prop := ∃ (a : Option Addr) (cap : Nat), v = .slice a n cap ∧ (0 < n → ∃ ad, a = some ad ∧ ∀ j, j < n * s → W.cell? (ad.add j) = some (F j))
/-- v is a list of n elements of s cells each, in a block of the kind S that nothing else is written into: nil, if there is none. -/
def RunAt (S : Nat → Prop) (W : World) (T : TypeId) (s : Nat) (v : Value) (F : Nat → Value) (n : Nat) : Prop :=
  (n = 0 ∧ v = .slice none 0 0) ∨ (0 < n ∧ ∃ (g c : Nat) (cs : Array Value) (fr : Nat × Nat), v = .slice (some ⟨g, 0, none⟩) n c ∧ n ≤ c ∧ S g ∧ W.heap[g]? = some (.cells cs T fr) ∧ ∀ j, j < n * s → cs[j]? = some (F j))
section
variable {S S' : Nat → Prop} {W W' : World} {T : TypeId} {s n : Nat} {v : Value} {F G : Nat → Value}
theorem RunAt.none (S : Nat → Prop) (W : World) (T : TypeId) (s : Nat) (F : Nat → Value) : RunAt S W T s (.slice .none 0 0) F 0 := .inl ⟨rfl, rfl⟩
theorem RunAt.weak (h : RunAt S W T s v F n) (hs : ∀ g, S g → S' g) : RunAt S' W T s v F n := by
  rcases h with h | ⟨h0, g, c, cs, fr, h1, h2, h3, h4⟩
  · exact .inl h
  · exact .inr ⟨h0, g, c, cs, fr, h1, h2, hs g h3, h4⟩
theorem RunAt.old (h : RunAt S W T s v F n) : RunAt (fun g => S g ∧ g < W.heap.size) W T s v F n := by
  rcases h with h | ⟨h0, g, c, cs, fr, h1, h2, h3, h4, h5⟩
  · exact .inl h
  · exact .inr ⟨h0, g, c, cs, fr, h1, h2, ⟨h3, (Array.getElem?_eq_some_iff.1 h4).1⟩, h4, h5⟩
theorem RunAt.kept {row : Option Nat} (h : RunAt S W T s v F n) (hg : W.grownBy W' row) (hr : ∀ X, row = some X → ¬ S X) : RunAt S W' T s v F n := by
  rcases h with h | ⟨h0, g, c, cs, fr, h1, h2, h3, h4, h5⟩
  · exact .inl h
  · exact .inr ⟨h0, g, c, cs, fr, h1, h2, h3, (hg.block g (Array.getElem?_eq_some_iff.1 h4).1 (fun e => hr g e.symm h3)).trans h4, h5⟩
theorem RunAt.keptT {row : Option Nat} (h : RunAt S W T s v F n) (hg : W.grownBy W' row) (hT : ∀ X, row = some X → ∃ o : Obj, W.heap[X]? = some o ∧ ∀ cs fr, o ≠ .cells cs T fr) : RunAt S W' T s v F n := by
  rcases h with h | ⟨h0, g, c, cs, fr, h1, h2, h3, h4, h5⟩
  · exact .inl h
  · refine .inr ⟨h0, g, c, cs, fr, h1, h2, h3, (hg.block g (Array.getElem?_eq_some_iff.1 h4).1 (fun e => ?_)).trans h4, h5⟩
    obtain ⟨o, ho, hne⟩ := hT g e.symm
    rw [h4] at ho
    exact hne _ _ (Option.some.inj ho).symm
theorem RunAt.later (h : RunAt S W T s v F n) (hb : Below W.heap.size W W') : RunAt S W' T s v F n :=
  h.kept (row := .none) ⟨hb.os, hb.tape, hb.output, hb.size, fun k hk _ => hb.block k hk⟩ (fun _ e => by cases e)
theorem RunAt.congr (h : RunAt S W T s v F n) (e : ∀ j, j < n * s → F j = G j) : RunAt S W T s v G n := by
  rcases h with h | ⟨h0, g, c, cs, fr, h1, h2, h3, h4, h5⟩
  · exact .inl h
  · exact .inr ⟨h0, g, c, cs, fr, h1, h2, h3, h4, fun j hj => by rw [← e j hj]; exact h5 j hj⟩
theorem RunAt.places (h : RunAt S W T s v F n) : PlacesAt W s v F n := by
  rcases h with ⟨rfl, rfl⟩ | ⟨h0, g, c, cs, fr, rfl, h2, h3, h4, h5⟩
  · exact ⟨_, 0, rfl, fun h => absurd h (by omega)⟩
  · refine ⟨_, c, rfl, fun _ => ⟨_, rfl, fun j hj => ?_⟩⟩
    rw [add_at, Nat.zero_add]
    exact cell_in h4 (h5 j hj)
theorem RunAt.shape (h : RunAt S W T s v F n) : ∃ a c, v = .slice a n c ∧ n ≤ c := by
  rcases h with ⟨rfl, rfl⟩ | ⟨_, g, c, _, _, rfl, h, _⟩
  · exact ⟨_, 0, rfl, Nat.le_refl _⟩
  · exact ⟨_, c, rfl, h⟩
theorem RunAt.pos (h : RunAt S W T s v F n) (h0 : 0 < n) : ∃ (g c : Nat) (cs : Array Value) (fr : Nat × Nat), v = .slice (some ⟨g, 0, .none⟩) n c ∧ n ≤ c ∧ S g ∧ W.heap[g]? = some (.cells cs T fr) ∧ ∀ j, j < n * s → cs[j]? = some (F j) := by
  rcases h with ⟨rfl, _⟩ | ⟨_, h⟩
  · omega
  · exact h
theorem PlacesAt.later (h : PlacesAt W s v F n) (hb : Below W.heap.size W W') : PlacesAt W' s v F n := by
  obtain ⟨a, cap, rfl, h2⟩ := h
  refine ⟨a, cap, rfl, fun h0 => ?_⟩
  obtain ⟨ad, rfl, hc⟩ := h2 h0
  exact ⟨ad, rfl, fun j hj => (hb.cell (p := ad.add j) (World.block_lt_of_cell? W _ (hc j hj))).trans (hc j hj)⟩
theorem PlacesAt.congr (h : PlacesAt W s v F n) (e : ∀ j, j < n * s → F j = G j) : PlacesAt W s v G n := by
  obtain ⟨a, cap, rfl, h2⟩ := h
  refine ⟨a, cap, rfl, fun h0 => ?_⟩
  obtain ⟨ad, rfl, hc⟩ := h2 h0
  exact ⟨ad, rfl, fun j hj => by rw [← e j hj]; exact hc j hj⟩
end

/-- Numbers, place by place. -/
def fi (f : Nat → Int) : Nat → Value := fun j => .int .i64 (f j)
/-- The first n numbers of f. -/
def lsF (f : Nat → Int) (n : Nat) : List Int := (List.range n).map f
theorem lsF_len (f : Nat → Int) (n : Nat) : (lsF f n).length = n := by simp [lsF]
theorem lsF_at (f : Nat → Int) (n j : Nat) (h : j < n) : (lsF f n)[j]? = some (f j) := by simp [lsF, h]
theorem lsF_getD (l : List Int) : lsF (fun i => l.getD i 0) l.length = l := by
  apply List.ext_getElem?
  intro j
  rcases Nat.lt_or_ge j l.length with h | h
  · rw [lsF_at _ _ _ h, List.getElem?_eq_getElem h, List.getD_eq_getElem?_getD, List.getElem?_eq_getElem h]; rfl
  · rw [List.getElem?_eq_none (by rw [lsF_len]; exact h), List.getElem?_eq_none h]
theorem lsF_congr {f g : Nat → Int} {n : Nat} (h : ∀ j, j < n → f j = g j) : lsF f n = lsF g n := by
  unfold lsF
  exact List.map_congr_left fun j hj => h j (by simpa using hj)
theorem iv_at (zs : List Int) (j : Nat) (h : j < zs.length) : (iv zs)[j]? = some (.int .i64 (zs.getD j 0)) := by
  rw [iv, List.getElem?_map, List.getElem?_eq_getElem h, List.getD_eq_getElem?_getD, List.getElem?_eq_getElem h]; rfl
theorem SegAt.places {W : World} {v : Value} {zs : List Int} (h : SegAt W v zs) : PlacesAt W 1 v (fi fun i => zs.getD i 0) zs.length := by
  obtain ⟨a, cap, rfl, h2⟩ := h
  refine ⟨a, cap, rfl, fun h0 => ?_⟩
  obtain ⟨ad, rfl, hc⟩ := h2 h0
  exact ⟨ad, rfl, fun j hj => hc j _ (iv_at zs j (by omega))⟩
theorem PlacesAt.seg {W : World} {v : Value} {f : Nat → Int} {n : Nat} (h : PlacesAt W 1 v (fi f) n) : SegAt W v (lsF f n) := by
  obtain ⟨a, cap, rfl, h2⟩ := h
  refine ⟨a, cap, by rw [lsF_len], fun h0 => ?_⟩
  rw [lsF_len] at h0
  obtain ⟨ad, rfl, hc⟩ := h2 h0
  refine ⟨ad, rfl, fun j u hu => ?_⟩
  have hj := (List.getElem?_eq_some_iff.1 hu).1
  rw [iv_len, lsF_len] at hj
  rw [iv, List.getElem?_map, lsF_at _ _ _ hj] at hu
  rw [← hu]
  exact hc j (by omega)

section
variable {P : Program}
/-- 'make([]T, n)'. -/
theorem wpList_make_s (w : World) {ops : Array Oper} {rest : List Oper} {o : Oper} {a : Act} {Q : Exit → Act → World → Prop} (hg : o.guard = none) (l c : Operand) (t : TypeId) (hop : o.op = Op.makeSlice t l c)
    (e : TypeId) (i : TypeInfo) (z : Value) (s : Nat) (ht : P.underlying t = some (.slice e)) (hi : P.info? e = some i) (hz : i.zero = some z) (hsize : i.size = s)
    (kl kc : IntKind) (n : Nat) (hl : a.eval l = .int kl (n : Int)) (hc : a.eval c = .int kc (n : Int)) (hbytes : i.bytes * n ≤ 281474976710656) (h63 : n ≤ 9223372036854775807)
    (hK : wpList P ops Q rest (a.put o.dst (.slice (some ⟨w.heap.size, 0, none⟩) n n)) (w.alloc (.cells (madeCells z.cells (n * s)) e))) : wpList P ops Q (o :: rest) a w := by
  subst hsize
  refine wpList_plain hg fun K hK' => ?_
  have hrun := run_make (P := P) w t e i z ht hi hz kl kc n n (by omega) (Int.le_refl _) (by
    have h : ((i.bytes * n : Nat) : Int) ≤ 281474976710656 := by omega
    rwa [Int.natCast_mul] at h) (by omega)
  simp only [Int.toNat_natCast] at hrun
  unfold Oper.wp
  simp [execOp, hop, hl, hc, hrun, Result.andThen]
  exact hK' _ _ hK
theorem run_storeVar_at (w : World) (g o : Nat) (T ty : TypeId) (cur : Array Value) (v : Value) (vs : List Value) (hv : v.cells = vs.toArray) (hg : w.heap[g]? = some (.cells cur T (0, 0))) (hk : o + vs.length ≤ cur.size)
    (hi : (P.info? ty).map (·.size) = some vs.length) (h1 : ∀ x ∈ vs, x.oneCell' = true) :
    (storeVar ty ⟨g, o, none⟩ v).run P w = .ok () (w.setRow g (cur.toList.take o ++ vs ++ cur.toList.drop (o + vs.length)).toArray) := by
  have := run_storeCells_at (P := P) g o T vs 0 cur w hg (by simpa using hk) h1
  cases hq : P.info? ty with
  | none => simp [hq] at hi
  | some i =>
    have hs : i.size = vs.length := by simpa [hq] using hi
    simp only [Nat.add_zero] at this
    simp [storeVar, sizeOf, typeInfo, hq, hv, hs, this]
theorem laid_at (cur : Array Value) (o : Nat) (vs : List Value) (hk : o + vs.length ≤ cur.size) (j : Nat) :
    (cur.toList.take o ++ vs ++ cur.toList.drop (o + vs.length)).toArray[j]? = if o ≤ j ∧ j < o + vs.length then vs[j - o]? else cur[j]? := by
  have hl : (cur.toList.take o).length = o := by simp; omega
  rw [List.getElem?_toArray, List.append_assoc]
  by_cases h1 : j < o
  · rw [if_neg (by omega), List.getElem?_append_left (by omega), List.getElem?_take_of_lt h1, Array.getElem?_toList]
  · rw [List.getElem?_append_right (by omega), hl]
    by_cases h2 : j < o + vs.length
    · rw [if_pos ⟨by omega, h2⟩, List.getElem?_append_left (by omega)]
    · rw [if_neg (by omega), List.getElem?_append_right (by omega), List.getElem?_drop, Array.getElem?_toList]
      congr 1
      omega
theorem laid_size (cur : Array Value) (o : Nat) (vs : List Value) (hk : o + vs.length ≤ cur.size) : (cur.toList.take o ++ vs ++ cur.toList.drop (o + vs.length)).toArray.size = cur.size := by simp; omega
/-- An element of some cells goes into a block that is known whole. -/
theorem wpList_store_s {w : World} {ops : Array Oper} {rest : List Oper} {o : Oper} {a : Act} {Q : Exit → Act → World → Prop} (hgd : o.guard = none) (ty : TypeId) (x y : Operand) (ho : o.op = .store ty x y)
    (g k : Nat) (hx : a.eval x = .pointer (some ⟨g, k, none⟩)) (cells : Array Value) (hy : a.eval y = .agg cells) (T : TypeId) (cur : Array Value) (hg : w.heap[g]? = some (.cells cur T (0, 0)))
    (hi : (P.info? ty).map (·.size) = some cells.size) (hk : k + cells.size ≤ cur.size) (h1 : cells.all (·.oneCell') = true)
    (h : ∀ w' cur', w'.heap[g]? = some (.cells cur' T (0, 0)) → cur'.size = cur.size → (∀ j, cur'[j]? = if k ≤ j ∧ j < k + cells.size then cells[j - k]? else cur[j]?) → Only g w w' → wpList P ops Q rest (a.put o.dst undef) w') : wpList P ops Q (o :: rest) a w :=
  wpList_plain hgd fun _ hK => by
    have hrun := run_storeVar_at (P := P) w g k T ty cur (.agg cells) cells.toList (by simp [Value.cells]) hg (by simpa using hk) (by simpa using hi) (fun v hv => (Array.all_eq_true_iff_forall_mem.1 h1) v (by simpa using hv))
    unfold Oper.wp execOp
    simp only [ho, hx, hy, Instr.storeAt, Instr.sureAddr, Sem.run_bind, Sem.run_pure, Result.andThen_ok, hrun]
    refine hK _ _ (h _ _ (setRow_heap w g _ _ _ _ hg) (laid_size cur k cells.toList (by simpa using hk)) (fun j => ?_) (only_setRow _ _ _))
    rw [laid_at cur k cells.toList (by simpa using hk) j]
    simp
/-- 'copy(dst, src)' into a list that has room for all of src, from its beginning on. -/
theorem run_copy_s (w : World) (dT sT ty elem : TypeId) (g dLen dCap s : Nat) (a : Addr) (sLen sCap : Nat) (cur : Array Value) (t : TypeId) (cs : List Value)
    (hu : P.underlying dT = some (.slice elem)) (hs : (P.info? elem).map (·.size) = some s)
    (hg : w.heap[g]? = some (.cells cur t (0, 0))) (hle : sLen ≤ dLen) (hn : cs.length = sLen * s)
    (hsrc : ∀ j v, cs[j]? = some v → w.cell? (a.add j) = some v) (hfit : cs.length ≤ cur.size) (h1 : ∀ v ∈ cs, v.oneCell' = true) :
    (Builtin.copy_ #[dT, sT] ty #[.slice (some ⟨g, 0, none⟩) dLen dCap, .slice (some a) sLen sCap]).run P w =
      .ok (goInt sLen) (w.setRow g (cur.toList.take 0 ++ cs ++ cur.toList.drop (0 + cs.length)).toArray) := by
  have hl := run_loadCells_list (P := P) w a cs hsrc
  have hst := run_storeCells_at P g 0 t cs 0 cur w hg (by simpa using hfit) h1
  have hmin : Nat.min sLen dLen = sLen := Nat.min_eq_left hle
  cases hq : P.info? elem with
  | none => simp [hq] at hs
  | some i =>
    have hi : i.size = s := by simpa [hq] using hs
    rw [hn] at hl
    simp only [Nat.add_zero, Nat.zero_add] at hst ⊢
    simp [Builtin.copy_, run_underlying hu, Builtin.lenOf, Builtin.firstCells, sizeOf, typeInfo, hq, hi, hmin, hl, hst]
theorem run_copy_s0 (w : World) (dT sT ty elem : TypeId) (d sp : Option Addr) (dLen dCap s sCap : Nat) (hu : P.underlying dT = some (.slice elem)) (hs : (P.info? elem).map (·.size) = some s) :
    (Builtin.copy_ #[dT, sT] ty #[.slice d dLen dCap, .slice sp 0 sCap]).run P w = .ok (goInt 0) w := by
  have hmin : Nat.min 0 dLen = 0 := Nat.zero_min _
  cases hq : P.info? elem with
  | none => simp [hq] at hs
  | some i =>
    cases d <;> cases sp <;> simp [Builtin.copy_, run_underlying hu, Builtin.lenOf, Builtin.firstCells, sizeOf, typeInfo, hq, hmin, storeCells, loadCells, loadCellsFrom, Result.andThen]
theorem wpList_copy_s {w : World} {ops : Array Oper} {rest : List Oper} {o : Oper} {a : Act} {Q : Exit → Act → World → Prop} (hgd : o.guard = none) (d x : Operand) (dT sT : TypeId)
    (ho : o.op = .call { callee := .builtin .copy, args := #[d, x], argTypes := #[dT, sT] }) (elem : TypeId) (hu : P.underlying dT = some (.slice elem)) (s : Nat) (hsz : (P.info? elem).map (·.size) = some s)
    (g dLen dCap : Nat) (hd : a.eval d = .slice (some ⟨g, 0, none⟩) dLen dCap) (v : Value) (hv : a.eval x = v) (F : Nat → Value) (n : Nat) (hF : PlacesAt w s v F n) (hle : n ≤ dLen)
    (T : TypeId) (cur : Array Value) (hg : w.heap[g]? = some (.cells cur T (0, 0))) (hfit : n * s ≤ cur.size) (h1 : ∀ j, j < n * s → (F j).oneCell' = true)
    (h : ∀ w' cur', w'.heap[g]? = some (.cells cur' T (0, 0)) → cur'.size = cur.size → (∀ j, cur'[j]? = if j < n * s then some (F j) else cur[j]?) → Only g w w' → wpList P ops Q rest (a.put o.dst (goInt n)) w') : wpList P ops Q (o :: rest) a w := by
  refine wpList_plain hgd fun K hK => ?_
  obtain ⟨ap, cap, rfl, h2⟩ := hF
  by_cases h0 : n = 0
  · subst h0
    have hrun := run_copy_s0 (P := P) w dT sT o.type elem (some ⟨g, 0, none⟩) ap dLen dCap s cap hu hsz
    unfold Oper.wp
    simp [execOp, ho, resolve, invoke, builtin, hd, hv, hrun, Result.andThen]
    exact hK _ _ (h w cur hg rfl (fun j => by simp) (Only.refl _ _))
  · obtain ⟨ad, rfl, hc⟩ := h2 (by omega)
    have hlen : ((List.range (n * s)).map F).length = n * s := by simp
    have hrun := run_copy_s (P := P) w dT sT o.type elem g dLen dCap s ad n cap cur T ((List.range (n * s)).map F) hu hsz hg hle hlen (fun j u hu => by
      have hj : j < n * s := by have := (List.getElem?_eq_some_iff.1 hu).1; simpa using this
      rw [List.getElem?_map, List.getElem?_range hj] at hu
      rw [hc j hj]; exact hu) (by rw [hlen]; exact hfit) (fun u hu => by
      obtain ⟨j, hj, rfl⟩ := List.mem_map.1 hu
      exact h1 j (by simpa using hj))
    unfold Oper.wp
    simp [execOp, ho, resolve, invoke, builtin, hd, hv, hrun, Result.andThen]
    refine hK _ _ (h _ _ (by simpa using setRow_heap w g _ (cur.toList.take 0 ++ (List.range (n * s)).map F ++ cur.toList.drop (0 + ((List.range (n * s)).map F).length)).toArray _ _ hg) (by simpa using laid_size cur 0 ((List.range (n * s)).map F) (by rw [hlen]; omega)) (fun j => ?_) (by simpa using only_setRow w g (cur.toList.take 0 ++ (List.range (n * s)).map F ++ cur.toList.drop (0 + ((List.range (n * s)).map F).length)).toArray))
    have := laid_at cur 0 ((List.range (n * s)).map F) (by rw [hlen]; omega) j
    simp only [hlen, Nat.zero_add, Nat.zero_le, true_and, Nat.sub_zero] at this
    by_cases hj : j < n * s
    · rw [if_pos hj]
      rw [if_pos hj, List.getElem?_map, List.getElem?_range hj] at this
      simpa using this
    · rw [if_neg hj]
      rw [if_neg hj] at this
      simpa using this
end
theorem made_at (z : Array Value) (n j : Nat) (h : j < n) : (madeCells z n)[j]? = some (z[j % z.size]!) := by simp [madeCells, h]
end Go.Proofs.YtnnlfgfgfegjkaaDoor

/- Lists of structs, arrays or lists that a call owns. -/
namespace Go.Proofs.YtnnlfgfgfegjkaaDoor
open Go.RowKit
set_option maxRecDepth 1000000

/-- v is a list of just these structs or arrays of s cells each, in a block from B on. -/
def RowsOwn (B : Nat) (e : TypeId) (s : Nat) (v : Value) (cs : List (Array Value)) (w : World) : Prop :=
  w.ownsRowF B e s v cs.length (cs.flatMap Array.toList) ∧ B ≤ w.heap.size ∧ ∀ c ∈ cs, c.size = s
theorem flat_len' (s : Nat) : ∀ cs : List (Array Value), (∀ c ∈ cs, c.size = s) → (cs.flatMap Array.toList).length = cs.length * s
  | [], _ => by simp
  | c :: cs, h => by
    rw [List.flatMap_cons, List.length_append, flat_len' s cs (fun x hx => h x (List.mem_cons_of_mem _ hx)), Array.length_toList, h c (List.mem_cons_self ..), List.length_cons, Nat.add_mul]
    omega
theorem flat_get (s : Nat) : ∀ (cs : List (Array Value)) (i k : Nat) (c : Array Value), (∀ c ∈ cs, c.size = s) → cs[i]? = some c → k < s → (cs.flatMap Array.toList)[i * s + k]? = c[k]?
  | [], _, _, _, _, h, _ => by simp at h
  | a :: cs, 0, k, c, hs, h, hk => by
    simp at h
    subst h
    have := hs a (List.mem_cons_self ..)
    rw [List.flatMap_cons, List.getElem?_append_left (by simp; omega)]
    simp
  | a :: cs, i + 1, k, c, hs, h, hk => by
    have ha := hs a (List.mem_cons_self ..)
    rw [List.flatMap_cons, List.getElem?_append_right (by simp [ha, Nat.add_mul]; omega), Array.length_toList, ha,
      show (i + 1) * s + k - s = i * s + k by rw [Nat.add_mul]; omega]
    exact flat_get s cs i k c (fun x hx => hs x (List.mem_cons_of_mem _ hx)) (by simpa using h) hk
section
variable {B : Nat} {e : TypeId} {s : Nat} {v : Value} {cs : List (Array Value)} {w w' : World}
theorem RowsOwn.grown {row : Option Nat} (h : RowsOwn B e s v cs w) (hg : w.grownBy w' row) (hne : v.ownBlock = none ∨ v.ownBlock ≠ row) : RowsOwn B e s v cs w' :=
  ⟨h.1.kept hg hne, Nat.le_trans h.2.1 hg.size, h.2.2⟩
theorem RowsOwn.later (h : RowsOwn B e s v cs w) (hb : Below w.heap.size w w') : RowsOwn B e s v cs w' := h.grown (row := none) ⟨hb.os, hb.tape, hb.output, hb.size, fun k hk _ => hb.block k hk⟩ (by cases v.ownBlock <;> simp)
/-- Its block. -/
theorem RowsOwn.at_ (h : RowsOwn B e s v cs w) (hn : cs ≠ []) : ∃ g cap cur fz, v = .slice (some ⟨g, 0, none⟩) cs.length cap ∧ v.ownBlock = some g ∧ B ≤ g ∧ w.heap[g]? = some (.cells cur e fz) := by
  obtain ⟨⟨_, h2⟩, _, _⟩ := h
  rcases h2 with ⟨_, h2⟩ | ⟨g, cap, cur, fz, rfl, a2, a3, _⟩
  · exact absurd (List.eq_nil_of_length_eq_zero h2) hn
  · exact ⟨g, cap, cur, fz, rfl, rfl, a2, a3⟩
/-- Another variable is written. -/
theorem RowsOwn.but {X : Nat} (h : RowsOwn B e s v cs w) (hn : cs ≠ []) (k : Only X w w') (hX : X < B) : RowsOwn B e s v cs w' := by
  obtain ⟨g, cap, cur, fz, _, h2, h3, _⟩ := h.at_ hn
  exact h.grown k.by_ (.inr (by rw [h2]; simp; omega))
/-- Another list of another type grows. -/
theorem RowsOwn.apart {e' : TypeId} {s' : Nat} {v' : Value} {cs' : List (Array Value)} (h : RowsOwn B e s v cs w) (hn : cs ≠ []) (h' : RowsOwn B e' s' v' cs' w) (hn' : cs' ≠ []) (hT : e ≠ e') (hg : w.grownBy w' v'.ownBlock) : RowsOwn B e s v cs w' := by
  obtain ⟨g, cap, cur, fz, _, h2, _, h4⟩ := h.at_ hn
  obtain ⟨g', cap', cur', fz', _, h2', _, h4'⟩ := h'.at_ hn'
  refine h.grown hg (.inr ?_)
  rw [h2, h2']
  intro x
  obtain rfl := Option.some.inj x
  rw [h4] at h4'
  simp only [Option.some.injEq, Obj.cells.injEq] at h4'
  exact hT h4'.2.1
/-- What the list holds at i lies there. -/
theorem RowsOwn.read (h : RowsOwn B e s v cs w) {g cap n i : Nat} (hv : v = .slice (some ⟨g, 0, none⟩) n cap) {c : Array Value} (hc : cs[i]? = some c) : w.rangeAt g (i * s) c.toList := by
  obtain ⟨hr, _, hs⟩ := h
  intro j u hu
  have hcs : c.size = s := hs c (List.mem_of_getElem? hc)
  have hj : j < s := by have := (List.getElem?_eq_some_iff.1 hu).1; simp at this; omega
  have h1 := flat_get s cs i j c hs hc hj
  have h2 : (cs.flatMap Array.toList)[i * s + j]? = some u := by rw [h1]; simpa using hu
  have hr' := hr
  rcases hr.2 with ⟨h3, _⟩ | ⟨g', cap', cur, fz, h3, _⟩
  · rw [hv] at h3; cases h3
  · rw [hv] at h3
    simp only [Value.slice.injEq, Option.some.injEq, Addr.mk.injEq] at h3
    obtain ⟨⟨rfl, _, _⟩, rfl, rfl⟩ := h3
    have h4 := hr'.cells (by rw [hv]; rfl) _ u h2
    have e : (⟨g, 0, none⟩ : Addr).add (i * s + j) = ⟨g, i * s + j, none⟩ := by unfold Addr.add; split <;> simp_all
    rw [e] at h4
    exact h4
end
/-- A list of one struct: 'append(x, s)', '[]T{s}'. -/
theorem bs_wp {o : Oper} {a : Act} {w : World} {K : Act → World → Prop} {Q : Exit → Act → World → Prop} (t e : TypeId) (y : Operand) (ho : o.op = .buildSlice t 1 #[(0, y)]) (c : Array Value) (s : Nat) (z : Value)
    (hy : a.eval y = .agg c) (hc : c.size = s) (hs : 0 < s) (hs2 : s ≤ 4096) (hu : Tryd.prog.underlying t = some (.slice e)) (hi : (Tryd.prog.info? e).map (fun i => (i.size, i.zero)) = some (s, some z))
    (h : ∀ w', w'.heap[w.heap.size]? = some (.cells c e (0, 0)) → Below w.heap.size w w' → w'.heap.size = w.heap.size + 1 → K (a.put o.dst (.slice (some ⟨w.heap.size, 0, none⟩) 1 1)) w') : o.wp Tryd.prog a w K Q := by
  cases hq : Tryd.prog.info? e with
  | none => simp [hq] at hi
  | some i =>
    simp only [hq, Option.map_some, Option.some.injEq, Prod.mk.injEq] at hi
    obtain ⟨r, r1, r2, r3⟩ := Great.fill_dense hs [.agg c] 0 ((Array.range (1 * i.size)).map (z.cells[· % z.cells.size]!)) (fun v hv => by simp at hv; subst hv; exact hc) (by simp [hi.1])
    have e1 : r = c := by
      apply Array.ext_getElem?
      intro k
      rw [r3 k]
      by_cases hk : k < s
      · rw [if_pos ⟨by omega, by simp; omega⟩, Nat.div_eq_of_lt hk, Nat.mod_eq_of_lt hk]
        simp [Value.cells]
      · rw [if_neg (by simp; omega), Array.getElem?_eq_none (by simp [hi.1]; omega), Array.getElem?_eq_none (by omega)]
    subst e1
    refine wp_buildSlice t e 1 _ ho r i z hu hq hi.2 (by rw [hi.1]; omega) (by rw [hi.1]; omega) ?_ ?_
    · rw [← hi.1] at r1
      simpa [hy] using r1
    · refine h _ (heap_alloc_last w _) (Below.newly' _ _) (by simp)
theorem rows_lit {B : Nat} {e : TypeId} {s g : Nat} {c : Array Value} {w : World} (hB : B ≤ g) (hg : w.heap[g]? = some (.cells c e (0, 0))) (hc : c.size = s) : RowsOwn B e s (.slice (some ⟨g, 0, none⟩) 1 1) [c] w := by
  have hlt := (Array.getElem?_eq_some_iff.1 hg).1
  refine ⟨⟨by simp [hc], .inr ⟨g, 1, c, (0, 0), rfl, hB, hg, by simp, Nat.le_refl _, by decide, by omega, ?_⟩⟩, by omega, fun x hx => by simp at hx; subst hx; exact hc⟩
  rw [List.take_of_length_le (by simp; omega)]
  simp
/-- 'append(rows, x)' where the list of x has just been laid: the operation. -/
theorem rows_wp {o : Oper} {a : Act} {K : Act → World → Prop} {Q : Exit → Act → World → Prop} {w : World} (t e : TypeId) (p q : Operand)
    (ho : o.op = .call { callee := .builtin .append, args := #[p, q], argTypes := #[t, t] })
    {B s by_ : Nat} {z v : Value} {cs : List (Array Value)} {c : Array Value} (hs : a.eval p = v) (hb : RowsOwn B e s v cs w) (g : Nat) (hx : a.eval q = .slice (some ⟨g, 0, none⟩) 1 1)
    (hg : w.heap[g]? = some (.cells c e (0, 0))) (hc : c.size = s) (h1 : c.all (·.oneCell') = true) (hu : Tryd.prog.underlying t = some (.slice e)) (hi : (Tryd.prog.info? e).map (fun i => (i.zero, i.size, i.bytes)) = some (some z, s, by_))
    (hzs : z.cells.size = s) (hsz : 0 < s) (hlen : cs.length ≤ 100000) (hby : by_ ≤ 1000000)
    (h : ∀ v' w', RowsOwn B e s v' (cs ++ [c]) w' → w.grownBy w' v.ownBlock → K (a.put o.dst v') w') : o.wp Tryd.prog a w K Q := by
  obtain ⟨i, hi0, hz, h2, h3⟩ := info_parts hi
  have hcell : ∀ j u, c.toList[j]? = some u → w.cell? ((⟨g, 0, none⟩ : Addr).add j) = some u := fun j u hj => by
    have e : (⟨g, 0, none⟩ : Addr).add j = ⟨g, j, none⟩ := by unfold Addr.add; split <;> simp_all
    rw [e]
    exact cell_in hg (by simpa using hj)
  have hbytes : (cs.length + 1) * by_ ≤ 140737488355328 := by
    have : (cs.length + 1) * by_ ≤ 100001 * 1000000 := Nat.mul_le_mul (by omega) hby
    omega
  obtain ⟨v', w', hr, g1, g2, _⟩ := run_append_ownF (P := Tryd.prog) w B t o.type e i z s by_ hu hi0 hz h2 h3 hzs hsz v cs.length (cs.flatMap Array.toList) hb.1 ⟨g, 0, none⟩ 1 1 c.toList (by simp [hc]) hcell
    (fun u hu => (Array.all_eq_true_iff_forall_mem.1 h1) u (by simpa using hu)) (by unfold maxLen; omega) hbytes hb.2.1
  unfold Oper.wp execOp
  simp only [ho, resolve, invoke, builtin, Sem.run_bind, Sem.run_pure, Result.andThen_ok, List.map_toArray, List.map_cons, List.map_nil, hs, hx, hr]
  refine h v' w' ⟨?_, Nat.le_trans hb.2.1 g2.size, fun x hx => ?_⟩ g2
  · rw [List.length_append, List.flatMap_append]
    simpa using g1
  · rcases List.mem_append.1 hx with hx | hx
    · exact hb.2.2 x hx
    · simp at hx; subst hx; exact hc
section
variable {B : Nat} {e : TypeId} {s : Nat} {v : Value} {cs : List (Array Value)} {w w' : World}
theorem RowsOwn.own (h : RowsOwn B e s v cs w) : v.ownBlock = none ∨ ∃ g cur fz, v.ownBlock = some g ∧ B ≤ g ∧ w.heap[g]? = some (.cells cur e fz) := by
  obtain ⟨⟨_, h2⟩, _, _⟩ := h
  rcases h2 with ⟨rfl, _⟩ | ⟨g, cap, cur, fz, rfl, a2, a3, _⟩
  · exact .inl rfl
  · exact .inr ⟨g, cur, fz, rfl, a2, a3⟩
theorem RowsOwn.keeps (h : RowsOwn B e s v cs w) (hg : w.grownBy w' v.ownBlock) {X : Nat} {o : Obj} (hX : X < B) (ho : w.heap[X]? = some o) : w'.heap[X]? = some o := by
  refine (hg.block X (Array.getElem?_eq_some_iff.1 ho).1 ?_).trans ho
  rcases h.own with h1 | ⟨g, _, _, h1, h2, _⟩
  · rw [h1]; simp
  · rw [h1]; simp; omega
theorem RowsOwn.keepsT (h : RowsOwn B e s v cs w) (hg : w.grownBy w' v.ownBlock) {Y : Nat} {c : Array Value} {T : TypeId} {fr : Nat × Nat} (hT : e ≠ T) (ho : w.heap[Y]? = some (.cells c T fr)) : w'.heap[Y]? = some (.cells c T fr) := by
  refine (hg.block Y (Array.getElem?_eq_some_iff.1 ho).1 ?_).trans ho
  rcases h.own with h1 | ⟨g, _, _, h1, _, h3⟩
  · rw [h1]; simp
  · rw [h1]
    intro x
    obtain rfl := Option.some.inj x
    rw [h3] at ho
    simp only [Option.some.injEq, Obj.cells.injEq] at ho
    exact hT ho.2.1
theorem RowsOwn.typed' (h : RowsOwn B e s v cs w) : ∀ X, v.ownBlock = some X → ∃ cs fr, w.heap[X]? = some (.cells cs e fr) := by
  intro X hX
  rcases h.own with h1 | ⟨g, cur, fz, h1, _, h3⟩
  · rw [h1] at hX; cases hX
  · rw [h1] at hX
    obtain rfl := Option.some.inj hX
    exact ⟨cur, fz, h3⟩
theorem RowsOwn.typed (h : RowsOwn B e s v cs w) (hT : e ≠ 3) : ∀ X, v.ownBlock = some X → ∃ cs T fr, w.heap[X]? = some (.cells cs T fr) ∧ T ≠ 3 := by
  intro X hX
  rcases h.own with h1 | ⟨g, cur, fz, h1, _, h3⟩
  · rw [h1] at hX; cases hX
  · rw [h1] at hX
    obtain rfl := Option.some.inj hX
    exact ⟨cur, e, fz, h3, hT⟩
theorem RowsOwn.below (h : RowsOwn B e s v cs w) (hg : w.grownBy w' v.ownBlock) {X : Nat} (hX : X ≤ B) (hw : X ≤ w.heap.size) : Below X w w' := by
  refine ⟨hg.os, hg.tape, hg.output, hg.size, fun k hk => hg.block k (by omega) ?_⟩
  rcases h.own with h1 | ⟨g, _, _, h1, h2, _⟩
  · rw [h1]; simp
  · rw [h1]; simp; omega
end
/-- A struct that lies within a list is read whole. -/
theorem yieldsIf_arr {ops : Array Oper} {S : World → Prop} {op : Oper} {a : Act} (hw : Region.wanted op (yielded ops a.tmps) = true) (ty : TypeId) (y : Operand) (ho : op.op = .load ty y)
    (b k : Nat) (hx : a.eval y = .pointer (some ⟨b, k, none⟩)) (c : Array Value) (d : TypeDesc) (hS : ∀ w, S w → w.rangeAt b k c.toList) (hu : Tryd.prog.underlying ty = some d) (hd : d.isRow = true) (hi : (Tryd.prog.info? ty).map (·.size) = some c.size) : YieldsIf Tryd.prog ops S op (.agg c) a := by
  have h := yieldsIf_load_mid (P := Tryd.prog) hw ty y ho b k hx c.toList d hS hu hd (by rw [hi]; simp)
  simpa using h
theorem rangeAt_later {w w' : World} {b o : Nat} {cs : List Value} (h : w.rangeAt b o cs) (hb : Below w.heap.size w w') : w'.rangeAt b o cs := fun j v hv => (hb.cell (World.block_lt_of_cell? w _ (h j v hv))).trans (h j v hv)
/-- .. in a plain region. -/
theorem bs_list {ops : Array Oper} {rest : List Oper} {o : Oper} {a : Act} {w : World} {Q : Exit → Act → World → Prop} (hgd : o.guard = none) (t e : TypeId) (y : Operand) (ho : o.op = .buildSlice t 1 #[(0, y)]) (c : Array Value) (s : Nat) (z : Value)
    (hy : a.eval y = .agg c) (hc : c.size = s) (hs : 0 < s) (hs2 : s ≤ 4096) (hu : Tryd.prog.underlying t = some (.slice e)) (hi : (Tryd.prog.info? e).map (fun i => (i.size, i.zero)) = some (s, some z))
    (h : ∀ w', w'.heap[w.heap.size]? = some (.cells c e (0, 0)) → Below w.heap.size w w' → w'.heap.size = w.heap.size + 1 → wpList Tryd.prog ops Q rest (a.put o.dst (.slice (some ⟨w.heap.size, 0, none⟩) 1 1)) w') : wpList Tryd.prog ops Q (o :: rest) a w :=
  wpList_plain hgd fun _ hK => bs_wp t e y ho c s z hy hc hs hs2 hu hi fun w' h1 h2 h3 => hK _ _ (h w' h1 h2 h3)
theorem rows_list {ops : Array Oper} {rest : List Oper} {o : Oper} {a : Act} {Q : Exit → Act → World → Prop} {w : World} (hgd : o.guard = none) (t e : TypeId) (p q : Operand)
    (ho : o.op = .call { callee := .builtin .append, args := #[p, q], argTypes := #[t, t] })
    {B s by_ : Nat} {z v : Value} {cs : List (Array Value)} {c : Array Value} (hs : a.eval p = v) (hb : RowsOwn B e s v cs w) (g : Nat) (hx : a.eval q = .slice (some ⟨g, 0, none⟩) 1 1)
    (hg : w.heap[g]? = some (.cells c e (0, 0))) (hc : c.size = s) (h1 : c.all (·.oneCell') = true) (hu : Tryd.prog.underlying t = some (.slice e)) (hi : (Tryd.prog.info? e).map (fun i => (i.zero, i.size, i.bytes)) = some (some z, s, by_))
    (hzs : z.cells.size = s) (hsz : 0 < s) (hlen : cs.length ≤ 100000) (hby : by_ ≤ 1000000)
    (h : ∀ v' w', RowsOwn B e s v' (cs ++ [c]) w' → w.grownBy w' v.ownBlock → wpList Tryd.prog ops Q rest (a.put o.dst v') w') : wpList Tryd.prog ops Q (o :: rest) a w :=
  wpList_plain hgd fun _ hK => rows_wp t e p q ho hs hb g hx hg hc h1 hu hi hzs hsz hlen hby fun v' w' h1 h2 => hK _ _ (h v' w' h1 h2)
end Go.Proofs.YtnnlfgfgfegjkaaDoor

/- Lists whose elements have s cells each, as the list of their cells: read wherever they lie (CutAt), at the head of a block (HeadAt); what is cut of them. -/
namespace Go.Proofs.YtnnlfgfgfegjkaaDoor
open Go.RowKit
set_option maxRecDepth 1000000
set_option linter.unusedSimpArgs false

/-- v reads as n elements of s cells each, in a block of the kind S: nil, or anywhere in it. -/
def CutAt (S : Nat → Prop) (W : World) (s : Nat) (v : Value) (cs : List Value) (n : Nat) : Prop :=
  ∃ (a : Option Addr) (cap : Nat), v = .slice a n cap ∧ n ≤ cap ∧ cs.length = n * s ∧ ((a = none ∧ cap = 0) ∨ ∃ g o, a = some ⟨g, o, none⟩ ∧ S g ∧ g < W.heap.size ∧ ∀ (j : Nat) (u : Value), cs[j]? = some u → W.cell? ⟨g, o + j, none⟩ = some u)
/-- v is a list of n elements of s cells each, at the head of a block of the kind S that nothing else is written into: nil, if there is none. -/
def HeadAt (S : Nat → Prop) (W : World) (T : TypeId) (s : Nat) (v : Value) (cs : List Value) (n : Nat) : Prop :=
  cs.length = n * s ∧ ((n = 0 ∧ v = .slice none 0 0) ∨ (0 < n ∧ ∃ (g c : Nat) (cur : Array Value) (fr : Nat × Nat), v = .slice (some ⟨g, 0, none⟩) n c ∧ n ≤ c ∧ S g ∧ W.heap[g]? = some (.cells cur T fr) ∧ ∀ (j : Nat) (u : Value), cs[j]? = some u → cur[j]? = some u))
section
variable {S S' : Nat → Prop} {W W' : World} {T : TypeId} {s n n₀ : Nat} {v : Value} {cs : List Value}
theorem CutAt.weak (h : CutAt S W s v cs n) (hs : ∀ g, S g → S' g) : CutAt S' W s v cs n := by
  obtain ⟨a, cap, h1, h2, h3, h4⟩ := h
  refine ⟨a, cap, h1, h2, h3, h4.imp_right ?_⟩
  rintro ⟨g, o, e, hS, h⟩
  exact ⟨g, o, e, hs g hS, h⟩
theorem CutAt.old (h : CutAt S W s v cs n) : CutAt (fun g => S g ∧ g < W.heap.size) W s v cs n := by
  obtain ⟨a, cap, h1, h2, h3, h4⟩ := h
  refine ⟨a, cap, h1, h2, h3, h4.imp_right ?_⟩
  rintro ⟨g, o, e, hS, hg, h⟩
  exact ⟨g, o, e, ⟨hS, hg⟩, hg, h⟩
theorem CutAt.kept {row : Option Nat} (h : CutAt S W s v cs n) (hg : W.grownBy W' row) (hr : ∀ X, row = some X → ¬ S X) : CutAt S W' s v cs n := by
  obtain ⟨a, cap, h1, h2, h3, h4⟩ := h
  refine ⟨a, cap, h1, h2, h3, h4.imp_right ?_⟩
  rintro ⟨g, o, e, hS, hlt, h⟩
  have hb := hg.block g hlt (fun e => hr g e.symm hS)
  exact ⟨g, o, e, hS, Nat.lt_of_lt_of_le hlt hg.size, fun j u hu => (World.cell?_of_block (a := ⟨g, o + j, none⟩) hb).trans (h j u hu)⟩
theorem CutAt.later (h : CutAt S W s v cs n) (hb : Below W.heap.size W W') : CutAt S W' s v cs n :=
  h.kept (row := none) ⟨hb.os, hb.tape, hb.output, hb.size, fun k hk _ => hb.block k hk⟩ (fun _ e => by cases e)
theorem CutAt.len (h : CutAt S W s v cs n) : cs.length = n * s := by obtain ⟨_, _, _, _, h, _⟩ := h; exact h
theorem CutAt.shape (h : CutAt S W s v cs n) : ∃ a c, v = .slice a n c ∧ n ≤ c := by obtain ⟨a, c, h1, h2, _⟩ := h; exact ⟨a, c, h1, h2⟩
theorem CutAt.pos (h : CutAt S W s v cs n) (h0 : 0 < n) : ∃ g o c, v = .slice (some ⟨g, o, none⟩) n c ∧ n ≤ c ∧ S g ∧ g < W.heap.size ∧ ∀ (j : Nat) (u : Value), cs[j]? = some u → W.cell? ⟨g, o + j, none⟩ = some u := by
  obtain ⟨a, c, rfl, h2, h3, h4⟩ := h
  rcases h4 with ⟨rfl, rfl⟩ | ⟨g, o, rfl, h⟩
  · omega
  · exact ⟨g, o, c, rfl, h2, h⟩
theorem HeadAt.weak (h : HeadAt S W T s v cs n) (hs : ∀ g, S g → S' g) : HeadAt S' W T s v cs n := by
  obtain ⟨h0, h⟩ := h
  refine ⟨h0, h.imp_right ?_⟩
  rintro ⟨h1, g, c, cur, fr, h2, h3, hS, h4⟩
  exact ⟨h1, g, c, cur, fr, h2, h3, hs g hS, h4⟩
theorem HeadAt.old (h : HeadAt S W T s v cs n) : HeadAt (fun g => S g ∧ g < W.heap.size) W T s v cs n := by
  obtain ⟨h0, h⟩ := h
  refine ⟨h0, h.imp_right ?_⟩
  rintro ⟨h1, g, c, cur, fr, h2, h3, hS, h4, h5⟩
  exact ⟨h1, g, c, cur, fr, h2, h3, ⟨hS, (Array.getElem?_eq_some_iff.1 h4).1⟩, h4, h5⟩
theorem HeadAt.kept {row : Option Nat} (h : HeadAt S W T s v cs n) (hg : W.grownBy W' row) (hr : ∀ X, row = some X → ¬ S X) : HeadAt S W' T s v cs n := by
  obtain ⟨h0, h⟩ := h
  refine ⟨h0, h.imp_right ?_⟩
  rintro ⟨h1, g, c, cur, fr, h2, h3, hS, h4, h5⟩
  exact ⟨h1, g, c, cur, fr, h2, h3, hS, (hg.block g (Array.getElem?_eq_some_iff.1 h4).1 (fun e => hr g e.symm hS)).trans h4, h5⟩
theorem HeadAt.keptT {row : Option Nat} (h : HeadAt S W T s v cs n) (hg : W.grownBy W' row) (hT : ∀ X, row = some X → ∃ o : Obj, W.heap[X]? = some o ∧ ∀ cs fr, o ≠ .cells cs T fr) : HeadAt S W' T s v cs n := by
  obtain ⟨h0, h⟩ := h
  refine ⟨h0, h.imp_right ?_⟩
  rintro ⟨h1, g, c, cur, fr, h2, h3, hS, h4, h5⟩
  refine ⟨h1, g, c, cur, fr, h2, h3, hS, (hg.block g (Array.getElem?_eq_some_iff.1 h4).1 (fun e => ?_)).trans h4, h5⟩
  obtain ⟨o, ho, hne⟩ := hT g e.symm
  rw [h4] at ho
  exact hne _ _ (Option.some.inj ho).symm
theorem HeadAt.later (h : HeadAt S W T s v cs n) (hb : Below W.heap.size W W') : HeadAt S W' T s v cs n :=
  h.kept (row := none) ⟨hb.os, hb.tape, hb.output, hb.size, fun k hk _ => hb.block k hk⟩ (fun _ e => by cases e)
theorem HeadAt.low (h : HeadAt (fun g => g < n₀) W T s v cs n) (hb : Below n₀ W W') : HeadAt (fun g => g < n₀) W' T s v cs n := by
  obtain ⟨h0, h⟩ := h
  refine ⟨h0, h.imp_right ?_⟩
  rintro ⟨h1, g, c, cur, fr, h2, h3, hS, h4, h5⟩
  exact ⟨h1, g, c, cur, fr, h2, h3, hS, (hb.block g hS).trans h4, h5⟩
theorem HeadAt.shape (h : HeadAt S W T s v cs n) : ∃ a c, v = .slice a n c ∧ n ≤ c := by
  rcases h with ⟨_, ⟨rfl, rfl⟩ | ⟨_, g, c, _, _, rfl, h, _⟩⟩
  · exact ⟨_, 0, rfl, Nat.le_refl _⟩
  · exact ⟨_, c, rfl, h⟩
theorem HeadAt.pos (h : HeadAt S W T s v cs n) (h0 : 0 < n) : ∃ (g c : Nat) (cur : Array Value) (fr : Nat × Nat), v = .slice (some ⟨g, 0, none⟩) n c ∧ n ≤ c ∧ S g ∧ W.heap[g]? = some (.cells cur T fr) ∧ ∀ (j : Nat) (u : Value), cs[j]? = some u → cur[j]? = some u := by
  rcases h with ⟨_, ⟨rfl, _⟩ | ⟨_, h⟩⟩
  · omega
  · exact h
theorem HeadAt.cut (h : HeadAt S W T s v cs n) : CutAt S W s v cs n := by
  obtain ⟨hl, ⟨rfl, rfl⟩ | ⟨h0, g, c, cur, fr, rfl, h2, hS, h4, h5⟩⟩ := h
  · exact ⟨_, 0, rfl, Nat.le_refl _, hl, .inl ⟨rfl, rfl⟩⟩
  · refine ⟨_, c, rfl, h2, hl, .inr ⟨g, 0, rfl, hS, (Array.getElem?_eq_some_iff.1 h4).1, fun j u hu => ?_⟩⟩
    rw [Nat.zero_add]
    exact cell_in h4 (h5 j u hu)
theorem CutAt.places (h : CutAt S W s v cs n) : PlacesAt W s v (fun j => cs.getD j undef) n := by
  obtain ⟨a, cap, rfl, h2, h3, h4⟩ := h
  refine ⟨a, cap, rfl, fun h0 => ?_⟩
  rcases h4 with ⟨rfl, rfl⟩ | ⟨g, o, rfl, _, _, h5⟩
  · omega
  · refine ⟨_, rfl, fun j hj => ?_⟩
    rw [add_at]
    refine h5 j _ ?_
    show cs[j]? = some (cs.getD j undef)
    rw [List.getD_eq_getElem?_getD, List.getElem?_eq_getElem (by omega)]
    rfl
/-- What is cut of a list: from lo up to hi. -/
theorem sliced_cut {a : Option Addr} {cap lo hi : Nat} (h : CutAt S W s (.slice a n cap) cs n) (h1 : lo ≤ hi) (h2 : hi ≤ n) : CutAt S W s (sliced a lo hi cap s) ((cs.take (hi * s)).drop (lo * s)) (hi - lo) := by
  obtain ⟨a', cap', e, h3, h4, h5⟩ := h
  simp only [Value.slice.injEq, true_and] at e
  obtain ⟨rfl, rfl⟩ := e
  have hl : ((cs.take (hi * s)).drop (lo * s)).length = (hi - lo) * s := by
    rw [List.length_drop, List.length_take, h4, Nat.sub_mul, Nat.min_eq_left (Nat.mul_le_mul_right _ h2)]
  refine ⟨_, _, rfl, by omega, hl, ?_⟩
  rcases h5 with ⟨rfl, rfl⟩ | ⟨g, o, rfl, hS, hlt, h6⟩
  · exact .inl ⟨by split <;> rfl, by omega⟩
  · refine .inr ?_
    by_cases e : cap = lo
    · rw [if_pos e]
      refine ⟨g, o, rfl, hS, hlt, fun j u hu => ?_⟩
      have := (List.getElem?_eq_some_iff.1 hu).1
      rw [hl, show hi - lo = 0 by omega] at this
      simp at this
    · rw [if_neg e]
      refine ⟨g, o + lo * s, by simp [add_at], hS, hlt, fun j u hu => ?_⟩
      rw [Nat.add_assoc]
      refine h6 _ _ ?_
      rw [List.getElem?_drop, List.getElem?_take] at hu
      split at hu
      · exact hu
      · cases hu
end
section
variable {P : Program} {S : Nat → Prop} {W : World} {s n : Nat} {v : Value} {cs : List Value}
theorem cut_lh (t : TypeId) (ht : P.underlying t = some (.slice (P.elem t))) (hs : ∀ w, (sizeOf (P.elem t)).run P w = .ok s w) (h : CutAt S W s v cs n) {lo hi : Nat} (h1 : lo ≤ hi) (h2 : hi ≤ n) :
    ∃ a c, CutAt S W s (.slice a (hi - lo) c) ((cs.take (hi * s)).drop (lo * s)) (hi - lo) ∧ ∀ w, (Instr.slice t v (some (.int .i64 (lo : Int))) (some (.int .i64 (hi : Int))) none).run P w = .ok (.slice a (hi - lo) c) w := by
  obtain ⟨a, c, rfl, hc⟩ := h.shape
  refine ⟨_, _, sliced_cut h h1 h2, fun w => ?_⟩
  rw [run_slice_lh w t a n c ht _ _ _ _ (by omega) (by omega) (by omega), hs]
  simp only [Result.andThen_ok, Int.toNat_natCast]
  rfl
theorem cut_h (t : TypeId) (ht : P.underlying t = some (.slice (P.elem t))) (hs : ∀ w, (sizeOf (P.elem t)).run P w = .ok s w) (h : CutAt S W s v cs n) {hi : Nat} (h2 : hi ≤ n) :
    ∃ a c, CutAt S W s (.slice a hi c) (cs.take (hi * s)) hi ∧ ∀ w, (Instr.slice t v none (some (.int .i64 (hi : Int))) none).run P w = .ok (.slice a hi c) w := by
  obtain ⟨a, c, rfl, hc⟩ := h.shape
  have := sliced_cut h (Nat.zero_le _) h2
  rw [Nat.zero_mul, List.drop_zero] at this
  refine ⟨_, _, this, fun w => ?_⟩
  rw [run_slice_h w t a n c ht _ _ (by omega) (by omega), hs]
  simp only [Result.andThen_ok, Int.toNat_natCast]
  rfl
theorem cut_l (t : TypeId) (ht : P.underlying t = some (.slice (P.elem t))) (hs : ∀ w, (sizeOf (P.elem t)).run P w = .ok s w) (h : CutAt S W s v cs n) {lo : Nat} (h2 : lo ≤ n) :
    ∃ a c, CutAt S W s (.slice a (n - lo) c) (cs.drop (lo * s)) (n - lo) ∧ ∀ w, (Instr.slice t v (some (.int .i64 (lo : Int))) none none).run P w = .ok (.slice a (n - lo) c) w := by
  obtain ⟨a, c, rfl, hc⟩ := h.shape
  have := sliced_cut h h2 (Nat.le_refl _)
  rw [List.take_of_length_le (by rw [h.len]; exact Nat.le_refl _)] at this
  refine ⟨_, _, this, fun w => ?_⟩
  rw [run_slice_l w t a n c ht _ _ (by omega) (by omega), hs]
  simp only [Result.andThen_ok, Int.toNat_natCast]
  rfl
/-- A list that a call owns is read. -/
theorem ownsRow_cut {w : World} {base : Nat} {e : TypeId} (h : w.ownsRow base e s v n cs) : CutAt (fun g => base ≤ g) w s v cs n := by
  have h' := h
  obtain ⟨hl, ⟨rfl, rfl⟩ | ⟨g, cap, cur, rfl, hb, hg, hc, _⟩⟩ := h
  · exact ⟨_, 0, rfl, Nat.le_refl _, hl, .inl ⟨rfl, rfl⟩⟩
  · refine ⟨_, cap, rfl, hc, hl, .inr ⟨g, 0, rfl, hb, (Array.getElem?_eq_some_iff.1 hg).1, fun j u hu => ?_⟩⟩
    have := h'.cells (g := g) rfl j u hu
    rwa [add_at] at this
theorem ownsRow_head {w : World} {base : Nat} {e : TypeId} (h : w.ownsRow base e s v n cs) (h0 : 0 < n) : HeadAt (fun g => base ≤ g) w e s v cs n := by
  obtain ⟨hl, ⟨rfl, rfl⟩ | ⟨g, cap, cur, rfl, hb, hg, hc, h3, h4, h5⟩⟩ := h
  · omega
  · refine ⟨hl, .inr ⟨h0, g, cap, cur, (0, 0), rfl, hc, hb, hg, fun j u hu => ?_⟩⟩
    have hj := (List.getElem?_eq_some_iff.1 hu).1
    rw [hl] at hj
    rw [← h5, List.getElem?_take_of_lt hj, Array.getElem?_toList] at hu
    exact hu
theorem ownsRow_low {w : World} {base : Nat} {e : TypeId} (h : w.ownsRow base e s v n cs) : ∀ k, v.ownBlock = some k → base ≤ k := fun k hk => (h.lt k hk).1
/-- 'append(own, list..)'. -/
theorem run_append_cut {w : World} (base : Nat) (t ty e : TypeId) (i : TypeInfo) (z : Value) (bytes : Nat) (ht : P.underlying t = some (.slice e)) (hi : P.info? e = some i) (hz : i.zero = some z)
    (hsize : i.size = s) (hby : i.bytes = bytes) (hzs : z.cells.size = s) (hsz : 0 < s) {vo : Value} {m : Nat} {xs : List Value} (hown : w.ownsRow base e s vo m xs) (hc : CutAt S w s v cs n) (h1 : ∀ u ∈ cs, u.oneCell' = true)
    (h63 : m + n ≤ maxLen) (hbytes : (m + n) * bytes ≤ 140737488355328) (hbase : base ≤ w.heap.size) :
    ∃ v' w', (Builtin.append_ #[t, t] ty #[vo, v]).run P w = .ok v' w' ∧ w'.ownsRow base e s v' (m + n) (xs ++ cs) ∧ w.grownBy w' vo.ownBlock := by
  obtain ⟨a, cap, rfl, h2, h3, h4⟩ := hc
  rcases h4 with ⟨rfl, rfl⟩ | ⟨g, o, rfl, hS, hlt, h5⟩
  · obtain rfl : n = 0 := by omega
    obtain rfl : cs = [] := List.eq_nil_of_length_eq_zero (by simpa using h3)
    exact ⟨vo, w, run_append_owned_none w base t ty e i s ht hi vo m xs hown, by simpa using hown, ⟨rfl, rfl, rfl, Nat.le_refl _, fun _ _ _ => rfl⟩⟩
  · obtain ⟨v', w', r1, r2, r3, _⟩ := run_append_own w base t ty e i z s bytes ht hi hz hsize hby hzs hsz vo m xs hown ⟨g, o, none⟩ n cap cs h3 (fun j u hu => by rw [add_at]; exact h5 j u hu) h1 h63 hbytes hbase
    exact ⟨v', w', r1, r2, r3⟩
theorem wpList_append_cut {ops : Array Oper} {rest : List Oper} {o : Oper} {a : Act} {Q : Exit → Act → World → Prop} {w : World} (hgd : o.guard = none) (p x : Operand) (t : TypeId)
    (ho : o.op = .call { callee := .builtin .append, args := #[p, x], argTypes := #[t, t] }) (base : Nat) (e : TypeId) (i : TypeInfo) (z : Value) (bytes : Nat) (ht : P.underlying t = some (.slice e)) (hi : P.info? e = some i) (hz : i.zero = some z)
    (hsize : i.size = s) (hby : i.bytes = bytes) (hzs : z.cells.size = s) (hsz : 0 < s) {vo : Value} {m : Nat} {xs : List Value} (hp : a.eval p = vo) (hown : w.ownsRow base e s vo m xs) (hx : a.eval x = v) (hc : CutAt S w s v cs n) (h1 : ∀ u ∈ cs, u.oneCell' = true)
    (h63 : m + n ≤ maxLen) (hbytes : (m + n) * bytes ≤ 140737488355328) (hbase : base ≤ w.heap.size)
    (h : ∀ v' w', w'.ownsRow base e s v' (m + n) (xs ++ cs) → w.grownBy w' vo.ownBlock → wpList P ops Q rest (a.put o.dst v') w') : wpList P ops Q (o :: rest) a w := by
  obtain ⟨v', w', r1, r2, r3⟩ := run_append_cut (P := P) (w := w) base t o.type e i z bytes ht hi hz hsize hby hzs hsz hown hc h1 h63 hbytes hbase
  refine wpList_plain hgd fun K hK => ?_
  unfold Oper.wp execOp
  simp only [ho, resolve, invoke, builtin, Sem.run_bind, Sem.run_pure, Result.andThen_ok, List.map_toArray, List.map_cons, List.map_nil, hp, hx, r1]
  exact hK _ _ (h v' w' r2 r3)
end

/-- The cells of these elements. -/
def en {α : Type} (enc : α → List Value) (xs : List α) : List Value := xs.flatMap enc
section
variable {α : Type} {enc : α → List Value} {s : Nat}
theorem en_len (henc : ∀ x, (enc x).length = s) : ∀ xs : List α, (en enc xs).length = xs.length * s
  | [] => by simp [en]
  | x :: xs => by
    have := en_len henc xs
    unfold en at this ⊢
    rw [List.flatMap_cons, List.length_append, this, henc, List.length_cons, Nat.add_mul]
    omega
theorem en_app (xs ys : List α) : en enc (xs ++ ys) = en enc xs ++ en enc ys := by simp [en]
theorem en_take (henc : ∀ x, (enc x).length = s) (xs : List α) (k : Nat) : (en enc xs).take (k * s) = en enc (xs.take k) := by
  rcases Nat.lt_or_ge xs.length k with h | h
  · rw [List.take_of_length_le (by rw [en_len henc]; exact Nat.mul_le_mul_right _ (by omega)), List.take_of_length_le (by omega)]
  · have e := List.take_append_drop k xs
    have hl : (en enc (xs.take k)).length = k * s := by rw [en_len henc, List.length_take, Nat.min_eq_left h]
    rw [← e, en_app, List.take_append_of_le_length (by omega), List.take_of_length_le (by omega), e]
theorem en_drop (henc : ∀ x, (enc x).length = s) (xs : List α) (k : Nat) : (en enc xs).drop (k * s) = en enc (xs.drop k) := by
  rcases Nat.lt_or_ge xs.length k with h | h
  · rw [List.drop_of_length_le (by rw [en_len henc]; exact Nat.mul_le_mul_right _ (by omega)), List.drop_of_length_le (by omega)]; rfl
  · have e := List.take_append_drop k xs
    have hl : (en enc (xs.take k)).length = k * s := by rw [en_len henc, List.length_take, Nat.min_eq_left h]
    rw [← e, en_app, List.drop_append, List.drop_of_length_le (by omega), hl, Nat.sub_self, e]
    rfl
theorem en_one (hone : ∀ x, ∀ u ∈ enc x, u.oneCell' = true) (xs : List α) : ∀ u ∈ en enc xs, u.oneCell' = true := by
  intro u hu
  obtain ⟨x, _, hx⟩ := List.mem_flatMap.1 hu
  exact hone x u hx
theorem en_at (henc : ∀ x, (enc x).length = s) : ∀ (xs : List α) (i k : Nat) (x : α), xs[i]? = some x → k < s → (en enc xs)[i * s + k]? = (enc x)[k]?
  | [], _, _, _, h, _ => by simp at h
  | a :: xs, 0, k, x, h, hk => by
    simp at h
    subst h
    unfold en
    rw [List.flatMap_cons, List.getElem?_append_left (by rw [henc]; omega)]
    simp
  | a :: xs, i + 1, k, x, h, hk => by
    have := en_at henc xs i k x (by simpa using h) hk
    unfold en at this ⊢
    rw [List.flatMap_cons, List.getElem?_append_right (by rw [henc, Nat.add_mul]; omega), henc, show (i + 1) * s + k - s = i * s + k by rw [Nat.add_mul]; omega]
    exact this
/-- What all lists have, up to the k-th. -/
def catE (ls : List (Value × List α)) (k : Nat) : List α := (ls.take k).flatMap (·.2)
theorem catE_succ {ls : List (Value × List α)} {k : Nat} (hk : k < ls.length) : catE ls (k + 1) = catE ls k ++ ls[k].2 := by
  unfold catE
  rw [List.take_succ_eq_append_getElem hk, List.flatMap_append]
  simp
theorem catE_le {ls : List (Value × List α)} : ∀ {j : Nat} (k : Nat), k ≤ j → j ≤ ls.length → (catE ls k).length ≤ (catE ls j).length
  | 0, k, hk, _ => by obtain rfl : k = 0 := by omega
                      exact Nat.le_refl _
  | j + 1, k, hk, hj => by
    by_cases e : k = j + 1
    · subst e; exact Nat.le_refl _
    · have := catE_le (ls := ls) (j := j) k (by omega) (by omega)
      rw [catE_succ (by omega), List.length_append]
      omega
end
/-- A list laid into c lists of nearly one length. -/
def chunks {α : Type} : Nat → List α → List (List α)
  | 0, _ => []
  | c + 1, xs => xs.take (xs.length / (c + 1)) :: chunks c (xs.drop (xs.length / (c + 1)))
theorem chunks_len {α : Type} : ∀ (c : Nat) (xs : List α), (chunks c xs).length = c
  | 0, _ => rfl
  | c + 1, xs => by simp [chunks, chunks_len c]
theorem chunks_flat {α : Type} : ∀ (c : Nat) (xs : List α), (c = 0 → xs = []) → (chunks c xs).flatten = xs
  | 0, xs, h => by rw [h rfl]; rfl
  | c + 1, xs, _ => by
    rw [chunks, List.flatten_cons, chunks_flat c _ (fun h => ?_), List.take_append_drop]
    subst h
    simp
theorem chunk_step {b N c : Nat} (h : b * (c + 1) ≤ N) : b ≤ N / (c + 1) ∧ b * c ≤ N - N / (c + 1) := by
  have h1 : b ≤ N / (c + 1) := (Nat.le_div_iff_mul_le (by omega)).2 h
  refine ⟨h1, ?_⟩
  have h2 : N / (c + 1) * (c + 1) ≤ N := Nat.div_mul_le_self _ _
  have h3 : b * c ≤ N / (c + 1) * c := Nat.mul_le_mul_right _ h1
  rw [Nat.mul_add, Nat.mul_one] at h2
  omega
theorem chunk_step' {B N c : Nat} (h : N ≤ B * (c + 1)) : N / (c + 1) ≤ B ∧ N - N / (c + 1) ≤ B * c := by
  have h1 : N / (c + 1) ≤ B := by
    have := Nat.div_le_div_right (c := c + 1) h
    rwa [Nat.mul_div_cancel _ (by omega)] at this
  refine ⟨h1, ?_⟩
  have h2 : N < (N / (c + 1) + 1) * (c + 1) := by
    have := Nat.lt_div_mul_add (a := N) (b := c + 1) (by omega)
    rw [Nat.add_mul, Nat.one_mul]
    exact this
  rcases Nat.lt_or_ge (N / (c + 1)) B with h3 | h3
  · have h4 : (N / (c + 1) + 1) * c ≤ B * c := Nat.mul_le_mul_right _ h3
    rw [Nat.mul_add, Nat.mul_one] at h2
    omega
  · have e : N / (c + 1) = B := by omega
    rw [e]
    rw [Nat.mul_add, Nat.mul_one] at h
    omega
theorem chunks_mem {α : Type} {b B : Nat} : ∀ (c : Nat) (xs : List α), b * c ≤ xs.length → xs.length ≤ B * c → ∀ ys ∈ chunks c xs, b ≤ ys.length ∧ ys.length ≤ B
  | 0, _, _, _, _, h => by cases h
  | c + 1, xs, h1, h2, ys, h => by
    have s1 := chunk_step h1
    have s2 := chunk_step' h2
    have hle : xs.length / (c + 1) ≤ xs.length := Nat.div_le_self _ _
    rcases List.mem_cons.1 h with rfl | h
    · rw [List.length_take]
      omega
    · exact chunks_mem c _ (by rw [List.length_drop]; exact s1.2) (by rw [List.length_drop]; exact s2.2) ys h
/-- How many nodes have room for N. -/
def cntN (N : Nat) : Nat := (N + 15) / 16
theorem chunks_wide {α : Type} (xs : List α) : ∀ ys ∈ chunks (cntN xs.length) xs, 1 ≤ ys.length ∧ ys.length ≤ 16 ∧ (2 ≤ cntN xs.length → 8 ≤ ys.length) := by
  intro ys hy
  have h1 := chunks_mem (b := 1) (B := 16) _ xs (by unfold cntN; omega) (by unfold cntN; omega) ys hy
  refine ⟨h1.1, h1.2, fun h2 => ?_⟩
  exact (chunks_mem (b := 8) (B := 16) _ xs (by unfold cntN at h2 ⊢; omega) (by unfold cntN; omega) ys hy).1
theorem chunks_one {α : Type} (xs : List α) (h : cntN xs.length = 1) : chunks (cntN xs.length) xs = [xs] := by
  rw [h]
  simp [chunks]
end Go.Proofs.YtnnlfgfgfegjkaaDoor

/- Rows of 32 places, of things of any type: a word, and a list of the things by rising places (after SparsePure and SparseList; written by tools/gen09_rowg.py). No program is imported. -/
namespace Go.Proofs.YtnnlfgfgfegjkaaDoor
open Go.RowKit
set_option linter.unusedSimpArgs false

/-- A row, plainly: what is at each place. -/
abbrev Rg (α : Type) := Nat → Option α
def setG {α : Type} (R : Rg α) (i : Nat) (x : α) : Rg α := fun k => if k = i then some x else R k
def cutG {α : Type} (R : Rg α) (i : Nat) : Rg α := fun k => if k = i then none else R k
def noG {α : Type} : Rg α := fun _ => none
def cntG {α : Type} (R : Rg α) : Nat → Nat
  | 0 => 0
  | k + 1 => cntG R k + (if (R k).isSome = true then 1 else 0)
/-- The sum of 2^i of those. -/
def bitsG {α : Type} (R : Rg α) : Nat → Nat
  | 0 => 0
  | k + 1 => bitsG R k + (if (R k).isSome = true then 2 ^ k else 0)
theorem cnt_leG {α : Type} (R : Rg α) : ∀ k, cntG R k ≤ k
  | 0 => Nat.le_refl _
  | k + 1 => by have := cnt_leG R k; unfold cntG; split <;> omega
theorem bits_ltG {α : Type} (R : Rg α) : ∀ k, bitsG R k < 2 ^ k
  | 0 => Nat.zero_lt_one
  | k + 1 => by
    have h := bits_ltG R k
    unfold bitsG
    rw [Nat.pow_succ]
    split <;> omega
theorem bits_testG {α : Type} (R : Rg α) : ∀ k i, (bitsG R k).testBit i = (decide (i < k) && (R i).isSome)
  | 0, i => by simp [bitsG]
  | k + 1, i => by
    have hlt := bits_ltG R k
    unfold bitsG
    by_cases hk : (R k).isSome = true
    · have e := Nat.two_pow_add_eq_or_of_lt hlt 1
      rw [if_pos hk, Nat.add_comm, show (2 : Nat) ^ k = 2 ^ k * 1 by omega, e, Nat.testBit_or, Nat.mul_one, Nat.testBit_two_pow, bits_testG R k i]
      by_cases h : k = i
      · subst h; simp [hk]
      · by_cases h2 : i < k
        · simp [h, h2, Nat.lt_succ_of_lt h2]
        · simp [h, h2, show ¬ i < k + 1 by omega]
    · rw [if_neg hk, Nat.add_zero, bits_testG R k i]
      by_cases h : i = k
      · subst h; simp at hk; simp [hk]
      · by_cases h2 : i < k
        · simp [h2, Nat.lt_succ_of_lt h2]
        · simp [h2, show ¬ i < k + 1 by omega]
theorem bits_32G {α : Type} (R : Rg α) (i : Nat) (hi : i < 32) : bitN (bitsG R 32) i = (R i).isSome := by
  rw [bit_test, bits_testG]; simp [hi]
theorem lt_32G {α : Type} (R : Rg α) : bitsG R 32 < 4294967296 := bits_ltG R 32
/-- A number is told by its 32 bits. -/
theorem set_bitsG {α : Type} (R : Rg α) (x : α) (i : Nat) : bits .or .u32 (bitsG R 32 : Nat) ((2 ^ i : Nat) : Int) = (bitsG (setG R i x) 32 : Nat) :=
  word_of .or _ _ _ (bits_ltG _ 32) fun k hk => by
    simp only [BitVec.getLsbD_or, nat_bit hk, bits_testG, Nat.testBit_two_pow, setG, hk, decide_true, Bool.true_and]
    by_cases h : i = k
    · subst h; simp
    · simp [h, show ¬ k = i by omega]
theorem cut_bitsG {α : Type} (R : Rg α) (i : Nat) : bits .andNot .u32 (bitsG R 32 : Nat) ((2 ^ i : Nat) : Int) = (bitsG (cutG R i) 32 : Nat) :=
  word_of .andNot _ _ _ (bits_ltG _ 32) fun k hk => by
    simp only [BitVec.getLsbD_and, BitVec.getLsbD_not, nat_bit hk, bits_testG, Nat.testBit_two_pow, cutG, hk, decide_true, Bool.true_and]
    by_cases h : i = k
    · subst h; simp
    · simp [h, show ¬ k = i by omega]
theorem rk_cntG {α : Type} (R : Rg α) : ∀ k, k ≤ 32 → rkN (bitsG R 32) k = cntG R k
  | 0, _ => rfl
  | k + 1, h => by
    unfold rkN cntG
    rw [rk_cntG R k (by omega), bits_32G R k (by omega)]
def allG {α : Type} (R : Rg α) : List (Nat × α) := (List.range 32).filterMap fun i => (R i).map fun x => (i, x)
/-- The things of the places of l. -/
def lisLG {α : Type} (R : Rg α) (l : List Nat) : List α := l.filterMap R
def lisG {α : Type} (R : Rg α) : List α := lisLG R (List.range 32)
theorem lis_lenG {α : Type} (R : Rg α) : ∀ k, (lisLG R (List.range k)).length = cntG R k
  | 0 => rfl
  | k + 1 => by
    unfold cntG
    rw [List.range_succ]
    unfold lisLG
    rw [List.filterMap_append, List.length_append]
    have := lis_lenG R k
    unfold lisLG at this
    rw [this]
    cases h : R k <;> simp [h]
theorem cnt_succG {α : Type} (R : Rg α) (k : Nat) : cntG R (k + 1) = cntG R k + (if (R k).isSome = true then 1 else 0) := rfl
theorem lisG_len {α : Type} (R : Rg α) : (lisG R).length = cntG R 32 := lis_lenG R 32
theorem lis_partsG {α : Type} (R : Rg α) {i : Nat} (hi : i < 32) : lisG R = lisLG R (List.range i) ++ ((R i).toList ++ lisLG R ((List.range (31 - i)).map (i + 1 + ·))) := by
  unfold lisG lisLG
  conv => lhs; rw [range_at hi]
  rw [List.filterMap_append, List.filterMap_append]
  cases h : R i <;> simp [h]
theorem take_partsG {α : Type} (R : Rg α) {i : Nat} (hi : i < 32) : (lisG R).take (cntG R i) = lisLG R (List.range i) := by
  rw [lis_partsG R hi, ← lis_lenG R i, List.take_left]
theorem drop_partsG {α : Type} (R : Rg α) {i : Nat} (hi : i < 32) : (lisG R).drop (cntG R (i + 1)) = lisLG R ((List.range (31 - i)).map (i + 1 + ·)) := by
  rw [lis_partsG R hi, ← List.append_assoc]
  have e : cntG R (i + 1) = (lisLG R (List.range i) ++ (R i).toList).length := by
    rw [List.length_append, lis_lenG, cnt_succG]
    cases h : R i <;> simp
  rw [e, List.drop_left]
theorem lis_congrG {α : Type} {R T : Rg α} : ∀ {l : List Nat}, (∀ k, k ∈ l → R k = T k) → lisLG R l = lisLG T l
  | [], _ => rfl
  | a :: l, h => by
    have ih := lis_congrG (R := R) (T := T) (l := l) fun k hk => h k (List.mem_cons_of_mem _ hk)
    unfold lisLG at ih ⊢
    rw [List.filterMap_cons, List.filterMap_cons, h a List.mem_cons_self, ih]
/-- Set: the things below, the new one, the things above. -/
theorem lis_setG {α : Type} (R : Rg α) (x : α) {i : Nat} (hi : i < 32) : lisG (setG R i x) = (lisG R).take (cntG R i) ++ ([x] ++ (lisG R).drop (cntG R (i + 1))) := by
  rw [take_partsG R hi, drop_partsG R hi, lis_partsG (setG R i x) hi, setG]
  congr 1
  · exact lis_congrG fun k hk => by
      rw [List.mem_range] at hk
      exact if_neg (by omega)
  · congr 1
    · simp
    · exact lis_congrG fun k hk => by
        rw [List.mem_map] at hk
        obtain ⟨j, _, rfl⟩ := hk
        exact if_neg (by omega)
theorem lis_cutG {α : Type} (R : Rg α) {i : Nat} (hi : i < 32) : lisG (cutG R i) = (lisG R).take (cntG R i) ++ (lisG R).drop (cntG R (i + 1)) := by
  rw [take_partsG R hi, drop_partsG R hi, lis_partsG (cutG R i) hi, cutG]
  congr 1
  · exact lis_congrG fun k hk => by
      rw [List.mem_range] at hk
      exact if_neg (by omega)
  · rw [show (if i = i then none else R i).toList = ([] : List α) by simp, List.nil_append]
    exact lis_congrG fun k hk => by
      rw [List.mem_map] at hk
      obtain ⟨j, _, rfl⟩ := hk
      exact if_neg (by omega)
/-- What is at a place is in the list behind the things below. -/
theorem lis_atG {α : Type} (R : Rg α) {i : Nat} (hi : i < 32) {x : α} (h : R i = some x) : (lisG R)[cntG R i]? = some x := by
  rw [lis_partsG R hi, ← lis_lenG R i, h]
  simp
theorem lis_memG {α : Type} {R : Rg α} {x : α} (h : x ∈ lisG R) : ∃ i, R i = some x := by
  unfold lisG lisLG at h
  rw [List.mem_filterMap] at h
  obtain ⟨i, _, hi⟩ := h
  exact ⟨i, hi⟩
theorem all_mapG {α : Type} (R : Rg α) : (allG R).map (·.2) = lisG R := by
  unfold allG lisG lisLG
  rw [List.map_filterMap]
  congr 1
  funext i
  cases R i <;> rfl
theorem all_lenG {α : Type} (R : Rg α) : (allG R).length = cntG R 32 := by rw [← lisG_len, ← all_mapG, List.length_map]
theorem all_atG {α : Type} (R : Rg α) {i : Nat} (hi : i < 32) {x : α} (h : R i = some x) : (allG R)[cntG R i]? = some (i, x) := by
  have hl : ((List.range i).filterMap fun i => (R i).map fun x => (i, x)).length = cntG R i := by
    rw [← lis_lenG R i]
    have e : ((List.range i).filterMap fun i => (R i).map fun x => (i, x)).map (·.2) = lisLG R (List.range i) := by
      unfold lisLG
      rw [List.map_filterMap]
      congr 1
      funext i
      cases R i <;> rfl
    rw [← e, List.length_map]
  unfold allG
  conv => lhs; rw [range_at hi]
  rw [List.filterMap_append, ← hl]
  simp [h]
theorem all_memG {α : Type} {R : Rg α} {p : Nat × α} (h : p ∈ allG R) : p.1 < 32 ∧ R p.1 = some p.2 := by
  unfold allG at h
  rw [List.mem_filterMap] at h
  obtain ⟨i, hi, e⟩ := h
  rw [List.mem_range] at hi
  cases hr : R i with
  | none => rw [hr] at e; cases e
  | some x => rw [hr] at e; cases e; exact ⟨hi, hr⟩
theorem cnt_flatG {α : Type} {R : Rg α} {p : Nat} : ∀ {q : Nat}, p ≤ q → (∀ j, p ≤ j → j < q → (R j).isSome = false) → cntG R q = cntG R p
  | 0, h, _ => by obtain rfl : p = 0 := by omega
                  rfl
  | q + 1, h, h2 => by
    by_cases e : p = q + 1
    · subst e; rfl
    · rw [← cnt_flatG (p := p) (q := q) (by omega) fun j a c => h2 j a (by omega)]
      rw [cnt_succG, h2 q (by omega) (by omega)]
      simp
theorem cnt_monoG {α : Type} (R : Rg α) {p q : Nat} (h : p ≤ q) : cntG R p ≤ cntG R q := by
  induction q with
  | zero => obtain rfl : p = 0 := by omega
            exact Nat.le_refl _
  | succ q ih =>
    by_cases e : p = q + 1
    · subst e; exact Nat.le_refl _
    · have := ih (by omega)
      rw [cnt_succG]
      omega
/-- What is left of a word from place p on. -/
theorem left_lowG {α : Type} (R : Rg α) {p : Nat} (hc : cntG R p < cntG R 32) : ∃ q x, leftN (bitsG R 32) p ≠ 0 ∧ Lib.ctz 32 (leftN (bitsG R 32) p) = q ∧ p ≤ q ∧ q < 32 ∧ R q = some x ∧ cntG R q = cntG R p ∧ cntG R (q + 1) = cntG R p + 1 ∧
    leftN (bitsG R 32) p &&& (leftN (bitsG R 32) p - 1) = leftN (bitsG R 32) (q + 1) := by
  have hp : p < 32 := by
    apply Nat.lt_of_not_le
    intro h
    have := cnt_monoG R h
    omega
  have h0 : leftN (bitsG R 32) p ≠ 0 := by
    intro h
    have e : cntG R 32 = cntG R p := cnt_flatG (by omega) fun j h1 h2 => by
      have := left_test (bitsG R 32) p j
      rw [h, bits_testG] at this
      simpa [h1, h2] using this
    omega
  have hlt := left_lt p (bits_ltG R 32)
  generalize hL : leftN (bitsG R 32) p = L at h0 hlt
  obtain ⟨m, hm, _⟩ := Lib.ctzFrom_spec 32 L (by omega) hlt
  have hz : Lib.ctz 32 L = Lib.ctzFrom 32 L := by unfold Lib.ctz; rw [if_neg h0]
  have hq32 := (Lib.lowest_bit 32 L h0 hlt).2
  rw [← hz] at hm
  generalize hq : Lib.ctz 32 L = q at hm hq32
  have ht : ∀ i, L.testBit i = (decide (q ≤ i) && (2 * m + 1).testBit (i - q)) := fun i => by
    rw [hm, Nat.mul_comm, Nat.testBit_mul_two_pow]
  have hb : ∀ i, L.testBit i = (decide (p ≤ i) && (decide (i < 32) && (R i).isSome)) := fun i => by
    rw [← hL, left_test, bits_testG]
  have hq1 : L.testBit q = true := by rw [ht]; simp
  have hpq : p ≤ q ∧ (R q).isSome = true := by
    rw [hb] at hq1
    simp only [Bool.and_eq_true, decide_eq_true_eq] at hq1
    exact ⟨hq1.1, hq1.2.2⟩
  obtain ⟨hpq, hs⟩ := hpq
  obtain ⟨x, hx⟩ := Option.isSome_iff_exists.1 hs
  have hlow : ∀ j, p ≤ j → j < q → (R j).isSome = false := fun j h1 h2 => by
    have e := hb j
    rw [ht j] at e
    simpa [h1, show ¬ q ≤ j by omega, show j < 32 by omega] using e.symm
  have hcq : cntG R q = cntG R p := cnt_flatG hpq hlow
  refine ⟨q, x, by first | exact h0 | (rw [hL]; exact h0), rfl, hpq, hq32, hx, hcq, ?_, ?_⟩
  · rw [cnt_succG, hcq, hs]; rfl
  · apply Nat.eq_of_testBit_eq
    intro i
    rw [Nat.testBit_and, left_test, bits_testG, hb]
    have e1 : L - 1 = 2 ^ q * (2 * m) + (2 ^ q - 1) := by
      rw [hm, Nat.mul_add, Nat.mul_one]
      have : 0 < 2 ^ q := Nat.two_pow_pos q
      omega
    have e2 : (L - 1).testBit i = if i < q then true else (2 * m).testBit (i - q) := by
      rw [e1, Nat.two_pow_add_eq_or_of_lt (by have : 0 < 2 ^ q := Nat.two_pow_pos q; omega), Nat.testBit_or, Nat.mul_comm, Nat.testBit_mul_two_pow, Nat.testBit_two_pow_sub_one]
      by_cases h : i < q
      · simp [h]
      · simp [h, show q ≤ i by omega]
    rw [e2]
    by_cases h : i < q
    · have : p ≤ i → (R i).isSome = false := fun h1 => hlow i h1 h
      rw [if_pos h]
      by_cases h1 : p ≤ i
      · simp [this h1]
      · simp [h1, show ¬ q + 1 ≤ i by omega]
    · rw [if_neg h]
      by_cases h1 : i = q
      · subst h1; simp; omega
      · obtain ⟨d, rfl⟩ : ∃ d, i = q + (d + 1) := ⟨i - q - 1, by omega⟩
        have e3 : (2 * m).testBit (d + 1) = (2 * m + 1).testBit (d + 1) := by
          rw [Nat.testBit_succ, Nat.testBit_succ]
          congr 1
          omega
        have e4 := ht (q + (d + 1))
        rw [hb] at e4
        simp only [show q + (d + 1) - q = d + 1 by omega, e3] at e4 ⊢
        rw [show decide (q ≤ q + (d + 1)) = true by simp, Bool.true_and] at e4
        rw [← e4]
        simp only [show p ≤ q + (d + 1) by omega, show q + 1 ≤ q + (d + 1) by omega, decide_true, Bool.true_and, Bool.and_self]
end Go.Proofs.YtnnlfgfgfegjkaaDoor

/- A struct's variable and one more, or two more, as the results. -/
namespace Go.Proofs.YtnnlfgfgfegjkaaDoor
open Go.RowKit
/-- A struct's variable and one more as the results. -/
theorem results_cell_row1 {P : Program} {fn : Func} {p u : Tmp} {ty : TypeId} (h : fn.results = #[.cell p ty, .tmp u]) (tmps : Array Value) (w : World) (g : Nat) (t : TypeId) (cs : Array Value) (fr : Nat × Nat) (d : TypeDesc)
    (hp : tmps.getD p undef = .pointer (some ⟨g, 0, none⟩)) (hg : w.heap[g]? = some (.cells cs t fr))
    (hu : P.underlying ty = some d) (hd : (match d with | .struct _ | .array _ _ => true | _ => false) = true) (hi : (P.info? ty).map (·.size) = some cs.size) :
    (results fn tmps).run P w = .ok (.tuple #[.agg cs, tmps.getD u undef]) w := by
  have hp' : tmps[p]?.getD undef = .pointer (some ⟨g, 0, none⟩) := by simpa using hp
  simp [results, h, hp', asAddr, run_loadVar_row w g t ty cs fr d hg hu hd hi]
/-- A struct's variable and two more as the results. -/
theorem results_cell_row2 {P : Program} {fn : Func} {p u v : Tmp} {ty : TypeId} (h : fn.results = #[.cell p ty, .tmp u, .tmp v]) (tmps : Array Value) (w : World) (g : Nat) (t : TypeId) (cs : Array Value) (fr : Nat × Nat) (d : TypeDesc)
    (hp : tmps.getD p undef = .pointer (some ⟨g, 0, none⟩)) (hg : w.heap[g]? = some (.cells cs t fr))
    (hu : P.underlying ty = some d) (hd : (match d with | .struct _ | .array _ _ => true | _ => false) = true) (hi : (P.info? ty).map (·.size) = some cs.size) :
    (results fn tmps).run P w = .ok (.tuple #[.agg cs, tmps.getD u undef, tmps.getD v undef]) w := by
  have hp' : tmps[p]?.getD undef = .pointer (some ⟨g, 0, none⟩) := by simpa using hp
  simp [results, h, hp', asAddr, run_loadVar_row w g t ty cs fr d hg hu hd hi]
end Go.Proofs.YtnnlfgfgfegjkaaDoor
