/- Plain facts of package sparse's rows: a word, and a list of the things by rising places. No program is imported. -/
import Derived.Test.YtmdfpkklnaekmaaDoorSparsePure
import Derived.Laws.BitsLemmas
import Derived.Lib.TrailingZeros
namespace Go.Proofs.YtmdfpkklnaekmaaDoor
open Go.RowKit
set_option linter.unusedSimpArgs false

theorem bit_test (b i : Nat) : bitN b i = b.testBit i := by
  unfold bitN
  rw [Nat.testBit_eq_decide_div_mod_eq]
  rfl
theorem bits_test (R : Rw) : ∀ k i, (bitsR R k).testBit i = (decide (i < k) && (R i).isSome)
  | 0, i => by simp [bitsR]
  | k + 1, i => by
    have hlt := bits_lt R k
    unfold bitsR
    by_cases hk : (R k).isSome = true
    · have e := Nat.two_pow_add_eq_or_of_lt hlt 1
      rw [if_pos hk, Nat.add_comm, show (2 : Nat) ^ k = 2 ^ k * 1 by omega, e, Nat.testBit_or, Nat.mul_one, Nat.testBit_two_pow, bits_test R k i]
      by_cases h : k = i
      · subst h; simp [hk]
      · by_cases h2 : i < k
        · simp [h, h2, Nat.lt_succ_of_lt h2]
        · simp [h, h2, show ¬ i < k + 1 by omega]
    · rw [if_neg hk, Nat.add_zero, bits_test R k i]
      by_cases h : i = k
      · subst h; simp at hk; simp [hk]
      · by_cases h2 : i < k
        · simp [h2, Nat.lt_succ_of_lt h2]
        · simp [h2, show ¬ i < k + 1 by omega]
theorem bits_32 (R : Rw) (i : Nat) (hi : i < 32) : bitN (bitsR R 32) i = (R i).isSome := by
  rw [bit_test, bits_test]; simp [hi]
theorem lt_32 (R : Rw) : bitsR R 32 < 4294967296 := bits_lt R 32
/-- A number is told by its 32 bits. -/
theorem ext_32 {a b : Nat} (ha : a < 2 ^ 32) (hb : b < 2 ^ 32) (h : ∀ i, i < 32 → a.testBit i = b.testBit i) : a = b := by
  apply Nat.eq_of_testBit_eq
  intro i
  by_cases hi : i < 32
  · exact h i hi
  · rw [Nat.testBit_lt_two_pow (Nat.lt_of_lt_of_le ha (Nat.pow_le_pow_right (by decide) (by omega))), Nat.testBit_lt_two_pow (Nat.lt_of_lt_of_le hb (Nat.pow_le_pow_right (by decide) (by omega)))]
/-- What 'bits' makes of two words: a word told by its bits. -/
theorem word_of (op : BinOp) (a b n : Nat) (hn : n < 2 ^ 32) (h : ∀ i, i < 32 → (match op with
    | .and => BitVec.ofNat 32 a &&& BitVec.ofNat 32 b
    | .or => BitVec.ofNat 32 a ||| BitVec.ofNat 32 b
    | .xor => BitVec.ofNat 32 a ^^^ BitVec.ofNat 32 b
    | _ => BitVec.ofNat 32 a &&& ~~~(BitVec.ofNat 32 b)).getLsbD i = n.testBit i) : bits op .u32 (a : Int) (b : Int) = (n : Int) := by
  unfold bits
  show IntKind.u32.wrap _ = _
  have e : (match op with
    | .and => BitVec.ofInt 32 (a : Int) &&& BitVec.ofInt 32 (b : Int)
    | .or => BitVec.ofInt 32 (a : Int) ||| BitVec.ofInt 32 (b : Int)
    | .xor => BitVec.ofInt 32 (a : Int) ^^^ BitVec.ofInt 32 (b : Int)
    | _ => BitVec.ofInt 32 (a : Int) &&& ~~~(BitVec.ofInt 32 (b : Int))).toNat = n := by
    simp only [BitVec.ofInt_natCast]
    apply ext_32 (BitVec.isLt _) hn
    intro i hi
    rw [BitVec.testBit_toNat]
    exact h i hi
  rw [IntKind.wrap_u32]
  have hn2 : n < 4294967296 := hn
  refine Eq.trans (congrArg (fun m : Nat => (m : Int) % 4294967296) e) ?_
  omega
theorem nat_bit {a : Nat} {i : Nat} (hi : i < 32) : (BitVec.ofNat 32 a).getLsbD i = a.testBit i := by
  rw [BitVec.getLsbD_ofNat]; simp [hi]
theorem and_32 (a b : Nat) (ha : a < 2 ^ 32) : bits .and .u32 (a : Int) (b : Int) = ((a &&& b : Nat) : Int) :=
  word_of .and a b _ (Nat.lt_of_le_of_lt Nat.and_le_left ha) fun i hi => by simp only [BitVec.getLsbD_and, nat_bit hi, Nat.testBit_and]
theorem set_bits (R : Rw) (x : Int) {i : Nat} (hi : i < 32) : bits .or .u32 (bitsR R 32 : Nat) ((2 ^ i : Nat) : Int) = (bitsR (setR R (i : Int) x) 32 : Nat) :=
  word_of .or _ _ _ (bits_lt _ 32) fun k hk => by
    simp only [BitVec.getLsbD_or, nat_bit hk, bits_test, Nat.testBit_two_pow, set_on x hi, hk, decide_true, Bool.true_and]
    by_cases h : i = k
    · subst h; simp
    · simp [h, show ¬ k = i by omega]
theorem cut_bits (R : Rw) {i : Nat} (hi : i < 32) : bits .andNot .u32 (bitsR R 32 : Nat) ((2 ^ i : Nat) : Int) = (bitsR (cutR R (i : Int)) 32 : Nat) :=
  word_of .andNot _ _ _ (bits_lt _ 32) fun k hk => by
    simp only [BitVec.getLsbD_and, BitVec.getLsbD_not, nat_bit hk, bits_test, Nat.testBit_two_pow, cut_on hi, hk, decide_true, Bool.true_and]
    by_cases h : i = k
    · subst h; simp
    · simp [h, show ¬ k = i by omega]
theorem rk_eq {b c : Nat} : ∀ {k : Nat}, (∀ i, i < k → b.testBit i = c.testBit i) → rkN b k = rkN c k
  | 0, _ => rfl
  | k + 1, h => by
    unfold rkN
    rw [rk_eq (k := k) (fun i hi => h i (by omega)), bit_test, bit_test, h k (by omega)]
theorem rk_cnt (R : Rw) : ∀ k, k ≤ 32 → rkN (bitsR R 32) k = cntR R k
  | 0, _ => rfl
  | k + 1, h => by
    unfold rkN cntR
    rw [rk_cnt R k (by omega), bits_32 R k (by omega)]
theorem rk_flat {b : Nat} {i : Nat} : ∀ {k : Nat}, i ≤ k → (∀ j, i ≤ j → j < k → b.testBit j = false) → rkN b k = rkN b i
  | 0, h, _ => by obtain rfl : i = 0 := by omega
                  rfl
  | k + 1, h, h2 => by
    by_cases e : i = k + 1
    · subst e; rfl
    · rw [← rk_flat (k := k) (i := i) (by omega) fun j a c => h2 j a (by omega)]
      conv => lhs; unfold rkN
      rw [bit_test, h2 k (by omega) (by omega)]
      simp
/-- How many bits of a word lie below place i. -/
theorem rk_low (b i : Nat) (hi : i ≤ 32) : rkN (b &&& (2 ^ i - 1)) 32 = rkN b i := by
  rw [rk_flat hi fun j h1 _ => by rw [Nat.testBit_and, Nat.testBit_two_pow_sub_one]; simp; omega]
  exact rk_eq fun j hj => by rw [Nat.testBit_and, Nat.testBit_two_pow_sub_one]; simp [hj]
theorem rk_add (b m : Nat) : ∀ k, rkN b (m + k) = rkN b m + rkN (b / 2 ^ m) k
  | 0 => rfl
  | k + 1 => by
    show rkN b (m + k) + _ = _ + (rkN (b / 2 ^ m) k + _)
    rw [rk_add b m k, Nat.add_assoc, bit_test, bit_test, Nat.testBit_div_two_pow, Nat.add_comm k m]
    rfl
theorem rk_mod (b : Nat) : rkN (b % 256) 8 = rkN b 8 := rk_eq fun i hi => by
  rw [show (256 : Nat) = 2 ^ 8 by decide, Nat.testBit_mod_two_pow]; simp [hi]
/-- The bits of a word, byte by byte. -/
theorem rk_bytes (b : Nat) : rkN b 32 = rkN (b / 16777216) 8 + rkN (b / 65536 % 256) 8 + rkN (b / 256 % 256) 8 + rkN (b % 256) 8 := by
  rw [show (32 : Nat) = 8 + (8 + (8 + 8)) by decide, rk_add, rk_add, rk_add, rk_mod, rk_mod, rk_mod, Nat.div_div_eq_div_mul, Nat.div_div_eq_div_mul]
  simp only [Nat.reducePow, Nat.reduceMul]
  omega
/-- The places that have something, each with it. -/
def allR (R : Rw) : List (Nat × Int) := (List.range 32).filterMap fun i => (R i).map fun x => (i, x)
/-- The things of the places of l. -/
def lisL (R : Rw) (l : List Nat) : List Int := l.filterMap R
def lisR (R : Rw) : List Int := lisL R (List.range 32)
theorem lis_len (R : Rw) : ∀ k, (lisL R (List.range k)).length = cntR R k
  | 0 => rfl
  | k + 1 => by
    unfold cntR
    rw [List.range_succ]
    unfold lisL
    rw [List.filterMap_append, List.length_append]
    have := lis_len R k
    unfold lisL at this
    rw [this]
    cases h : R k <;> simp [h]
theorem cnt_succ (R : Rw) (k : Nat) : cntR R (k + 1) = cntR R k + (if (R k).isSome = true then 1 else 0) := rfl
theorem lisR_len (R : Rw) : (lisR R).length = cntR R 32 := lis_len R 32
theorem range_at {i : Nat} (hi : i < 32) : List.range 32 = List.range i ++ ([i] ++ (List.range (31 - i)).map (i + 1 + ·)) := by
  rw [show (32 : Nat) = (i + 1) + (31 - i) by omega, List.range_add, List.range_succ]
  simp
theorem lis_parts (R : Rw) {i : Nat} (hi : i < 32) : lisR R = lisL R (List.range i) ++ ((R i).toList ++ lisL R ((List.range (31 - i)).map (i + 1 + ·))) := by
  unfold lisR lisL
  conv => lhs; rw [range_at hi]
  rw [List.filterMap_append, List.filterMap_append]
  cases h : R i <;> simp [h]
theorem take_parts (R : Rw) {i : Nat} (hi : i < 32) : (lisR R).take (cntR R i) = lisL R (List.range i) := by
  rw [lis_parts R hi, ← lis_len R i, List.take_left]
theorem drop_parts (R : Rw) {i : Nat} (hi : i < 32) : (lisR R).drop (cntR R (i + 1)) = lisL R ((List.range (31 - i)).map (i + 1 + ·)) := by
  rw [lis_parts R hi, ← List.append_assoc]
  have e : cntR R (i + 1) = (lisL R (List.range i) ++ (R i).toList).length := by
    rw [List.length_append, lis_len, cnt_succ]
    cases h : R i <;> simp
  rw [e, List.drop_left]
theorem lis_congr {R T : Rw} : ∀ {l : List Nat}, (∀ k, k ∈ l → R k = T k) → lisL R l = lisL T l
  | [], _ => rfl
  | a :: l, h => by
    have ih := lis_congr (R := R) (T := T) (l := l) fun k hk => h k (List.mem_cons_of_mem _ hk)
    unfold lisL at ih ⊢
    rw [List.filterMap_cons, List.filterMap_cons, h a List.mem_cons_self, ih]
/-- Set: the things below, the new one, the things above. -/
theorem lis_set (R : Rw) (x : Int) {i : Nat} (hi : i < 32) : lisR (setR R (i : Int) x) = (lisR R).take (cntR R i) ++ ([x] ++ (lisR R).drop (cntR R (i + 1))) := by
  rw [take_parts R hi, drop_parts R hi, lis_parts (setR R (i : Int) x) hi, set_on x hi]
  congr 1
  · exact lis_congr fun k hk => by
      rw [List.mem_range] at hk
      exact if_neg (by omega)
  · congr 1
    · simp
    · exact lis_congr fun k hk => by
        rw [List.mem_map] at hk
        obtain ⟨j, _, rfl⟩ := hk
        exact if_neg (by omega)
theorem lis_cut (R : Rw) {i : Nat} (hi : i < 32) : lisR (cutR R (i : Int)) = (lisR R).take (cntR R i) ++ (lisR R).drop (cntR R (i + 1)) := by
  rw [take_parts R hi, drop_parts R hi, lis_parts (cutR R (i : Int)) hi, cut_on hi]
  congr 1
  · exact lis_congr fun k hk => by
      rw [List.mem_range] at hk
      exact if_neg (by omega)
  · rw [show (if i = i then none else R i).toList = ([] : List Int) by simp, List.nil_append]
    exact lis_congr fun k hk => by
      rw [List.mem_map] at hk
      obtain ⟨j, _, rfl⟩ := hk
      exact if_neg (by omega)
/-- What is at a place is in the list behind the things below. -/
theorem lis_at (R : Rw) {i : Nat} (hi : i < 32) {x : Int} (h : R i = some x) : (lisR R)[cntR R i]? = some x := by
  rw [lis_parts R hi, ← lis_len R i, h]
  simp
theorem lis_mem {R : Rw} {x : Int} (h : x ∈ lisR R) : ∃ i, R i = some x := by
  unfold lisR lisL at h
  rw [List.mem_filterMap] at h
  obtain ⟨i, _, hi⟩ := h
  exact ⟨i, hi⟩
theorem all_map (R : Rw) : (allR R).map (·.2) = lisR R := by
  unfold allR lisR lisL
  rw [List.map_filterMap]
  congr 1
  funext i
  cases R i <;> rfl
theorem all_len (R : Rw) : (allR R).length = cntR R 32 := by rw [← lisR_len, ← all_map, List.length_map]
theorem all_at (R : Rw) {i : Nat} (hi : i < 32) {x : Int} (h : R i = some x) : (allR R)[cntR R i]? = some (i, x) := by
  have hl : ((List.range i).filterMap fun i => (R i).map fun x => (i, x)).length = cntR R i := by
    rw [← lis_len R i]
    have e : ((List.range i).filterMap fun i => (R i).map fun x => (i, x)).map (·.2) = lisL R (List.range i) := by
      unfold lisL
      rw [List.map_filterMap]
      congr 1
      funext i
      cases R i <;> rfl
    rw [← e, List.length_map]
  unfold allR
  conv => lhs; rw [range_at hi]
  rw [List.filterMap_append, ← hl]
  simp [h]
theorem all_mem {R : Rw} {p : Nat × Int} (h : p ∈ allR R) : p.1 < 32 ∧ R p.1 = some p.2 := by
  unfold allR at h
  rw [List.mem_filterMap] at h
  obtain ⟨i, hi, e⟩ := h
  rw [List.mem_range] at hi
  cases hr : R i with
  | none => rw [hr] at e; cases e
  | some x => rw [hr] at e; cases e; exact ⟨hi, hr⟩
theorem cnt_flat {R : Rw} {p : Nat} : ∀ {q : Nat}, p ≤ q → (∀ j, p ≤ j → j < q → (R j).isSome = false) → cntR R q = cntR R p
  | 0, h, _ => by obtain rfl : p = 0 := by omega
                  rfl
  | q + 1, h, h2 => by
    by_cases e : p = q + 1
    · subst e; rfl
    · rw [← cnt_flat (p := p) (q := q) (by omega) fun j a c => h2 j a (by omega)]
      rw [cnt_succ, h2 q (by omega) (by omega)]
      simp
theorem cnt_mono (R : Rw) {p q : Nat} (h : p ≤ q) : cntR R p ≤ cntR R q := by
  induction q with
  | zero => obtain rfl : p = 0 := by omega
            exact Nat.le_refl _
  | succ q ih =>
    by_cases e : p = q + 1
    · subst e; exact Nat.le_refl _
    · have := ih (by omega)
      rw [cnt_succ]
      omega
/-- What is left of a word from place p on. -/
def leftN (b p : Nat) : Nat := b / 2 ^ p * 2 ^ p
theorem left_test (b p i : Nat) : (leftN b p).testBit i = (decide (p ≤ i) && b.testBit i) := by
  unfold leftN
  rw [Nat.testBit_mul_two_pow, Nat.testBit_div_two_pow]
  by_cases h : p ≤ i
  · simp [h]
  · simp [h]
theorem left_zero (b : Nat) : leftN b 0 = b := by simp [leftN]
theorem left_lt {b : Nat} (p : Nat) (h : b < 2 ^ 32) : leftN b p < 2 ^ 32 := Nat.lt_of_le_of_lt (Nat.div_mul_le_self b (2 ^ p)) h
/-- The lowest place from p on that has something. -/
theorem left_low (R : Rw) {p : Nat} (hc : cntR R p < cntR R 32) : ∃ q x, leftN (bitsR R 32) p ≠ 0 ∧ Lib.ctz 32 (leftN (bitsR R 32) p) = q ∧ p ≤ q ∧ q < 32 ∧ R q = some x ∧ cntR R q = cntR R p ∧ cntR R (q + 1) = cntR R p + 1 ∧
    leftN (bitsR R 32) p &&& (leftN (bitsR R 32) p - 1) = leftN (bitsR R 32) (q + 1) := by
  have hp : p < 32 := by
    apply Nat.lt_of_not_le
    intro h
    have := cnt_mono R h
    omega
  have h0 : leftN (bitsR R 32) p ≠ 0 := by
    intro h
    have e : cntR R 32 = cntR R p := cnt_flat (by omega) fun j h1 h2 => by
      have := left_test (bitsR R 32) p j
      rw [h, bits_test] at this
      simpa [h1, h2] using this
    omega
  have hlt := left_lt p (bits_lt R 32)
  generalize hL : leftN (bitsR R 32) p = L at h0 hlt
  obtain ⟨m, hm, _⟩ := Lib.ctzFrom_spec 32 L (by omega) hlt
  have hz : Lib.ctz 32 L = Lib.ctzFrom 32 L := by unfold Lib.ctz; rw [if_neg h0]
  have hq32 := (Lib.lowest_bit 32 L h0 hlt).2
  rw [← hz] at hm
  generalize hq : Lib.ctz 32 L = q at hm hq32
  have ht : ∀ i, L.testBit i = (decide (q ≤ i) && (2 * m + 1).testBit (i - q)) := fun i => by
    rw [hm, Nat.mul_comm, Nat.testBit_mul_two_pow]
  have hb : ∀ i, L.testBit i = (decide (p ≤ i) && (decide (i < 32) && (R i).isSome)) := fun i => by
    rw [← hL, left_test, bits_test]
  have hq1 : L.testBit q = true := by rw [ht]; simp
  have hpq : p ≤ q ∧ (R q).isSome = true := by
    rw [hb] at hq1
    simp only [Bool.and_eq_true, decide_eq_true_eq] at hq1
    exact ⟨hq1.1, hq1.2.2⟩
  obtain ⟨hpq, hs⟩ := hpq
  obtain ⟨x, hx⟩ := Option.isSome_iff_exists.1 hs
  have hlow : ∀ j, p ≤ j → j < q → (R j).isSome = false := fun j h1 h2 => by
    have e := hb j
    rw [ht j] at e
    simpa [h1, show ¬ q ≤ j by omega, show j < 32 by omega] using e.symm
  have hcq : cntR R q = cntR R p := cnt_flat hpq hlow
  refine ⟨q, x, by first | exact h0 | (rw [hL]; exact h0), rfl, hpq, hq32, hx, hcq, ?_, ?_⟩
  · rw [cnt_succ, hcq, hs]; rfl
  · apply Nat.eq_of_testBit_eq
    intro i
    rw [Nat.testBit_and, left_test, bits_test, hb]
    have e1 : L - 1 = 2 ^ q * (2 * m) + (2 ^ q - 1) := by
      rw [hm, Nat.mul_add, Nat.mul_one]
      have : 0 < 2 ^ q := Nat.two_pow_pos q
      omega
    have e2 : (L - 1).testBit i = if i < q then true else (2 * m).testBit (i - q) := by
      rw [e1, Nat.two_pow_add_eq_or_of_lt (by have : 0 < 2 ^ q := Nat.two_pow_pos q; omega), Nat.testBit_or, Nat.mul_comm, Nat.testBit_mul_two_pow, Nat.testBit_two_pow_sub_one]
      by_cases h : i < q
      · simp [h]
      · simp [h, show q ≤ i by omega]
    rw [e2]
    by_cases h : i < q
    · have : p ≤ i → (R i).isSome = false := fun h1 => hlow i h1 h
      rw [if_pos h]
      by_cases h1 : p ≤ i
      · simp [this h1]
      · simp [h1, show ¬ q + 1 ≤ i by omega]
    · rw [if_neg h]
      by_cases h1 : i = q
      · subst h1; simp; omega
      · obtain ⟨d, rfl⟩ : ∃ d, i = q + (d + 1) := ⟨i - q - 1, by omega⟩
        have e3 : (2 * m).testBit (d + 1) = (2 * m + 1).testBit (d + 1) := by
          rw [Nat.testBit_succ, Nat.testBit_succ]
          congr 1
          omega
        have e4 := ht (q + (d + 1))
        rw [hb] at e4
        simp only [show q + (d + 1) - q = d + 1 by omega, e3] at e4 ⊢
        rw [show decide (q ≤ q + (d + 1)) = true by simp, Bool.true_and] at e4
        rw [← e4]
        simp only [show p ≤ q + (d + 1) by omega, show q + 1 ≤ q + (d + 1) by omega, decide_true, Bool.true_and, Bool.and_self]
/-- The first of them. -/
theorem first_all (R : Rw) : firstR R = match allR R with
    | [] => (0, 0, false)
    | p :: _ => ((p.1 : Int), p.2, true) := by
  by_cases h : cntR R 32 = 0
  · have hn : allR R = [] := List.eq_nil_of_length_eq_zero (by rw [all_len, h])
    rw [hn]
    refine first_none fun j hj => ?_
    have h1 := cnt_mono R (show j + 1 ≤ 32 by omega)
    rw [h, cnt_succ] at h1
    cases hr : (R j).isSome with
    | false => rfl
    | true => rw [hr] at h1; simp at h1
  · obtain ⟨q, x, _, _, _, hq, hx, hc, _, _⟩ := left_low R (p := 0) (by show 0 < _; omega)
    have ha := all_at R hq hx
    rw [hc] at ha
    cases hr : allR R with
    | nil => rw [hr] at ha; cases ha
    | cons p t =>
      rw [hr] at ha
      obtain rfl : p = (q, x) := by simpa [cntR] using ha
      rw [first_at hq (fun j hj => ?_) (by rw [hx]; rfl), hx]
      · rfl
      · have h1 := cnt_mono R (show j + 1 ≤ q by omega)
        rw [hc, cnt_succ] at h1
        cases hr : (R j).isSome with
        | false => rfl
        | true => rw [hr] at h1; simp [cntR] at h1
end Go.Proofs.YtmdfpkklnaekmaaDoor
