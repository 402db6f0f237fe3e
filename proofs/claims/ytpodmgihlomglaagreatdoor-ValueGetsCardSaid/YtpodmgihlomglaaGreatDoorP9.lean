import Derived.Test.YtpodmgihlomglaaGreatDoorP8
namespace Go.Proofs.YtpodmgihlomglaaGreatDoor
open Go.RowKit
set_option linter.unusedSimpArgs false
set_option maxRecDepth 1000000
abbrev Rg (α : Type) := Nat → Option α
def setG {α : Type} (R : Rg α) (i : Nat) (x : α) : Rg α := fun k => if k = i then some x else R k
def noG {α : Type} : Rg α := fun _ => none
def cntG {α : Type} (R : Rg α) : Nat → Nat
 | 0 => 0
 | k + 1 => cntG R k + (if (R k).isSome = true then 1 else 0)
def bitsG {α : Type} (R : Rg α) : Nat → Nat
 | 0 => 0
 | k + 1 => bitsG R k + (if (R k).isSome = true then 2 ^ k else 0)
theorem cnt_leG {α : Type} (R : Rg α) : ∀ k, cntG R k ≤ k
 | 0 => Nat.le_refl _
 | k + 1 => by have := cnt_leG R k; unfold cntG; split <;> omega
theorem bits_ltG {α : Type} (R : Rg α) : ∀ k, bitsG R k < 2 ^ k
 | 0 => Nat.zero_lt_one
 | k + 1 => by
  have h := bits_ltG R k
  unfold bitsG
  rw [Nat.pow_succ]
  split <;> omega
theorem bits_testG {α : Type} (R : Rg α) : ∀ k i, (bitsG R k).testBit i = (decide (i < k) && (R i).isSome)
 | 0, i => by simp [bitsG]
 | k + 1, i => by
  have hlt := bits_ltG R k
  unfold bitsG
  by_cases hk : (R k).isSome = true
  ·have e := Nat.two_pow_add_eq_or_of_lt hlt 1
   rw [if_pos hk, Nat.add_comm, show (2 : Nat) ^ k = 2 ^ k * 1 by omega, e, Nat.testBit_or, Nat.mul_one, Nat.testBit_two_pow, bits_testG R k i]
   by_cases h : k = i
   ·subst h; simp [hk]
   ·by_cases h2 : i < k
    ·simp [h, h2, Nat.lt_succ_of_lt h2]
    ·simp [h, h2, show ¬ i < k + 1 by omega]
  ·rw [if_neg hk, Nat.add_zero, bits_testG R k i]
   by_cases h : i = k
   ·subst h; simp at hk; simp [hk]
   ·by_cases h2 : i < k
    ·simp [h2, Nat.lt_succ_of_lt h2]
    ·simp [h2, show ¬ i < k + 1 by omega]
theorem bits_32G {α : Type} (R : Rg α) (i : Nat) (hi : i < 32) : bitN (bitsG R 32) i = (R i).isSome := by
 rw [bit_test, bits_testG]; simp [hi]
theorem lt_32G {α : Type} (R : Rg α) : bitsG R 32 < 4294967296 := bits_ltG R 32
theorem set_bitsG {α : Type} (R : Rg α) (x : α) (i : Nat) : bits .or .u32 (bitsG R 32 : Nat) ((2 ^ i : Nat) : Int) = (bitsG (setG R i x) 32 : Nat) :=
 word_of .or _ _ _ (bits_ltG _ 32) fun k hk => by
  simp only [BitVec.getLsbD_or, nat_bit hk, bits_testG, Nat.testBit_two_pow, setG, hk, decide_true, Bool.true_and]
  by_cases h : i = k
  ·subst h; simp
  ·simp [h, show ¬ k = i by omega]
theorem rk_cntG {α : Type} (R : Rg α) : ∀ k, k ≤ 32 → rkN (bitsG R 32) k = cntG R k
 | 0, _ => rfl
 | k + 1, h => by
  unfold rkN cntG
  rw [rk_cntG R k (by omega), bits_32G R k (by omega)]
def allG {α : Type} (R : Rg α) : List (Nat × α) := (List.range 32).filterMap fun i => (R i).map fun x => (i, x)
def lisLG {α : Type} (R : Rg α) (l : List Nat) : List α := l.filterMap R
def lisG {α : Type} (R : Rg α) : List α := lisLG R (List.range 32)
theorem lis_lenG {α : Type} (R : Rg α) : ∀ k, (lisLG R (List.range k)).length = cntG R k
 | 0 => rfl
 | k + 1 => by
  unfold cntG
  rw [List.range_succ]
  unfold lisLG
  rw [List.filterMap_append, List.length_append]
  have := lis_lenG R k
  unfold lisLG at this
  rw [this]
  cases h : R k <;> simp [h]
theorem cnt_succG {α : Type} (R : Rg α) (k : Nat) : cntG R (k + 1) = cntG R k + (if (R k).isSome = true then 1 else 0) := rfl
theorem lisG_len {α : Type} (R : Rg α) : (lisG R).length = cntG R 32 := lis_lenG R 32
theorem lis_partsG {α : Type} (R : Rg α) {i : Nat} (hi : i < 32) : lisG R = lisLG R (List.range i) ++ ((R i).toList ++ lisLG R ((List.range (31 - i)).map (i + 1 + ·))) := by
 unfold lisG lisLG
 conv => lhs; rw [range_at hi]
 rw [List.filterMap_append, List.filterMap_append]
 cases h : R i <;> simp [h]
theorem take_partsG {α : Type} (R : Rg α) {i : Nat} (hi : i < 32) : (lisG R).take (cntG R i) = lisLG R (List.range i) := by
 rw [lis_partsG R hi, ← lis_lenG R i, List.take_left]
theorem drop_partsG {α : Type} (R : Rg α) {i : Nat} (hi : i < 32) : (lisG R).drop (cntG R (i + 1)) = lisLG R ((List.range (31 - i)).map (i + 1 + ·)) := by
 rw [lis_partsG R hi, ← List.append_assoc]
 have e : cntG R (i + 1) = (lisLG R (List.range i) ++ (R i).toList).length := by
  rw [List.length_append, lis_lenG, cnt_succG]
  cases h : R i <;> simp
 rw [e, List.drop_left]
theorem lis_congrG {α : Type} {R T : Rg α} : ∀ {l : List Nat}, (∀ k, k ∈ l → R k = T k) → lisLG R l = lisLG T l
 | [], _ => rfl
 | a :: l, h => by
  have ih := lis_congrG (R := R) (T := T) (l := l) fun k hk => h k (List.mem_cons_of_mem _ hk)
  unfold lisLG at ih ⊢
  rw [List.filterMap_cons, List.filterMap_cons, h a List.mem_cons_self, ih]
theorem lis_setG {α : Type} (R : Rg α) (x : α) {i : Nat} (hi : i < 32) : lisG (setG R i x) = (lisG R).take (cntG R i) ++ ([x] ++ (lisG R).drop (cntG R (i + 1))) := by
 rw [take_partsG R hi, drop_partsG R hi, lis_partsG (setG R i x) hi, setG]
 congr 1
 ·exact lis_congrG fun k hk => by
   rw [List.mem_range] at hk
   exact if_neg (by omega)
 ·congr 1
  ·simp
  ·exact lis_congrG fun k hk => by
    rw [List.mem_map] at hk
    obtain ⟨j, _, rfl⟩ := hk
    exact if_neg (by omega)
theorem lis_atG {α : Type} (R : Rg α) {i : Nat} (hi : i < 32) {x : α} (h : R i = some x) : (lisG R)[cntG R i]? = some x := by
 rw [lis_partsG R hi, ← lis_lenG R i, h]
 simp
theorem all_mapG {α : Type} (R : Rg α) : (allG R).map (·.2) = lisG R := by
 unfold allG lisG lisLG
 rw [List.map_filterMap]
 congr 1
 funext i
 cases R i <;> rfl
theorem all_lenG {α : Type} (R : Rg α) : (allG R).length = cntG R 32 := by rw [← lisG_len, ← all_mapG, List.length_map]
theorem all_atG {α : Type} (R : Rg α) {i : Nat} (hi : i < 32) {x : α} (h : R i = some x) : (allG R)[cntG R i]? = some (i, x) := by
 have hl : ((List.range i).filterMap fun i => (R i).map fun x => (i, x)).length = cntG R i := by
  rw [← lis_lenG R i]
  have e : ((List.range i).filterMap fun i => (R i).map fun x => (i, x)).map (·.2) = lisLG R (List.range i) := by
   unfold lisLG
   rw [List.map_filterMap]
   congr 1
   funext i
   cases R i <;> rfl
  rw [← e, List.length_map]
 unfold allG
 conv => lhs; rw [range_at hi]
 rw [List.filterMap_append, ← hl]
 simp [h]
theorem all_memG {α : Type} {R : Rg α} {p : Nat × α} (h : p ∈ allG R) : p.1 < 32 ∧ R p.1 = some p.2 := by
 unfold allG at h
 rw [List.mem_filterMap] at h
 obtain ⟨i, hi, e⟩ := h
 rw [List.mem_range] at hi
 cases hr : R i with
 | none => rw [hr] at e; cases e
 | some x => rw [hr] at e; cases e; exact ⟨hi, hr⟩
theorem cnt_flatG {α : Type} {R : Rg α} {p : Nat} : ∀ {q : Nat}, p ≤ q → (∀ j, p ≤ j → j < q → (R j).isSome = false) → cntG R q = cntG R p
  | 0, h, _ => by obtain rfl : p = 0 := by omega
                  rfl
  | q + 1, h, h2 => by
    by_cases e : p = q + 1
    · subst e; rfl
    · rw [← cnt_flatG (p := p) (q := q) (by omega) fun j a c => h2 j a (by omega)]
      rw [cnt_succG, h2 q (by omega) (by omega)]
      simp
theorem cnt_monoG {α : Type} (R : Rg α) {p q : Nat} (h : p ≤ q) : cntG R p ≤ cntG R q := by
  induction q with
  | zero => obtain rfl : p = 0 := by omega
            exact Nat.le_refl _
  | succ q ih =>
    by_cases e : p = q + 1
    · subst e; exact Nat.le_refl _
    · have := ih (by omega)
      rw [cnt_succG]
      omega
theorem left_lowG {α : Type} (R : Rg α) {p : Nat} (hc : cntG R p < cntG R 32) : ∃ q x, leftN (bitsG R 32) p ≠ 0 ∧ Lib.ctz 32 (leftN (bitsG R 32) p) = q ∧ p ≤ q ∧ q < 32 ∧ R q = some x ∧ cntG R q = cntG R p ∧ cntG R (q + 1) = cntG R p + 1 ∧
  leftN (bitsG R 32) p &&& (leftN (bitsG R 32) p - 1) = leftN (bitsG R 32) (q + 1) := by
 have hp : p < 32 := by
  apply Nat.lt_of_not_le
  intro h
  have := cnt_monoG R h
  omega
 have h0 : leftN (bitsG R 32) p ≠ 0 := by
  intro h
  have e : cntG R 32 = cntG R p := cnt_flatG (by omega) fun j h1 h2 => by
   have := left_test (bitsG R 32) p j
   rw [h, bits_testG] at this
   simpa [h1, h2] using this
  omega
 have hlt := left_lt p (bits_ltG R 32)
 generalize hL : leftN (bitsG R 32) p = L at h0 hlt
 obtain ⟨m, hm, _⟩ := Lib.ctzFrom_spec 32 L (by omega) hlt
 have hz : Lib.ctz 32 L = Lib.ctzFrom 32 L := by unfold Lib.ctz; rw [if_neg h0]
 have hq32 := (Lib.lowest_bit 32 L h0 hlt).2
 rw [← hz] at hm
 generalize hq : Lib.ctz 32 L = q at hm hq32
 have ht : ∀ i, L.testBit i = (decide (q ≤ i) && (2 * m + 1).testBit (i - q)) := fun i => by
  rw [hm, Nat.mul_comm, Nat.testBit_mul_two_pow]
 have hb : ∀ i, L.testBit i = (decide (p ≤ i) && (decide (i < 32) && (R i).isSome)) := fun i => by
  rw [← hL, left_test, bits_testG]
 have hq1 : L.testBit q = true := by rw [ht]; simp
 have hpq : p ≤ q ∧ (R q).isSome = true := by
  rw [hb] at hq1
  simp only [Bool.and_eq_true, decide_eq_true_eq] at hq1
  exact ⟨hq1.1, hq1.2.2⟩
 obtain ⟨hpq, hs⟩ := hpq
 obtain ⟨x, hx⟩ := Option.isSome_iff_exists.1 hs
 have hlow : ∀ j, p ≤ j → j < q → (R j).isSome = false := fun j h1 h2 => by
  have e := hb j
  rw [ht j] at e
  simpa [h1, show ¬ q ≤ j by omega, show j < 32 by omega] using e.symm
 have hcq : cntG R q = cntG R p := cnt_flatG hpq hlow
 refine ⟨q, x, by first | exact h0 | (rw [hL]; exact h0), rfl, hpq, hq32, hx, hcq, ?_, ?_⟩
 ·rw [cnt_succG, hcq, hs]; rfl
 ·apply Nat.eq_of_testBit_eq
  intro i
  rw [Nat.testBit_and, left_test, bits_testG, hb]
  have e1 : L - 1 = 2 ^ q * (2 * m) + (2 ^ q - 1) := by
   rw [hm, Nat.mul_add, Nat.mul_one]
   have : 0 < 2 ^ q := Nat.two_pow_pos q
   omega
  have e2 : (L - 1).testBit i = if i < q then true else (2 * m).testBit (i - q) := by
   rw [e1, Nat.two_pow_add_eq_or_of_lt (by have : 0 < 2 ^ q := Nat.two_pow_pos q; omega), Nat.testBit_or, Nat.mul_comm, Nat.testBit_mul_two_pow, Nat.testBit_two_pow_sub_one]
   by_cases h : i < q
   ·simp [h]
   ·simp [h, show q ≤ i by omega]
  rw [e2]
  by_cases h : i < q
  ·have : p ≤ i → (R i).isSome = false := fun h1 => hlow i h1 h
   rw [if_pos h]
   by_cases h1 : p ≤ i
   ·simp [this h1]
   ·simp [h1, show ¬ q + 1 ≤ i by omega]
  ·rw [if_neg h]
   by_cases h1 : i = q
   ·subst h1; simp; omega
   ·obtain ⟨d, rfl⟩ : ∃ d, i = q + (d + 1) := ⟨i - q - 1, by omega⟩
    have e3 : (2 * m).testBit (d + 1) = (2 * m + 1).testBit (d + 1) := by
     rw [Nat.testBit_succ, Nat.testBit_succ]
     congr 1
     omega
    have e4 := ht (q + (d + 1))
    rw [hb] at e4
    simp only [show q + (d + 1) - q = d + 1 by omega, e3] at e4 ⊢
    rw [show decide (q ≤ q + (d + 1)) = true by simp, Bool.true_and] at e4
    rw [← e4]
    simp only [show p ≤ q + (d + 1) by omega, show q + 1 ≤ q + (d + 1) by omega, decide_true, Bool.true_and, Bool.and_self]
set_option maxHeartbeats 2000000 in
theorem pr_around (b : Nat) (hb : b < 4294967296) (v : Value) (j : Nat) (hj : j < 32) (w : World) :
  Calls Tryz.prog 159 #[.agg #[.int .u32 (b : Int), v], .int .i64 (j : Int)] w fun e w' => e = .returned (.tuple #[.int .i64 (rkN b j : Nat), .int .i64 (rkN b (j + 1) : Nat)]) ∧ Below w.heap.size w w' := by
 have hB := sp_bit_on j hj
 obtain ⟨p, hp⟩ : ∃ p, p = 2 ^ j := ⟨_, rfl⟩
 rw [← hp] at hB
 have hp1 : 0 < p := by rw [hp]; exact Nat.two_pow_pos j
 have hp2 : p < 4294967296 := by rw [hp]; exact Nat.pow_lt_pow_right (show 1 < 2 by decide) hj
 obtain ⟨m, hm⟩ : ∃ m, m = p - 1 := ⟨_, rfl⟩
 have e1 : (p : Int) - 1 = (m : Int) := by omega
 obtain ⟨q, hq⟩ : ∃ q, q = m ||| p := ⟨_, rfl⟩
 have hm32 : m < 2 ^ 32 := by
  show m < 4294967296
  omega
 have hp32 : p < 2 ^ 32 := hp2
 have e2 : bits .or .u32 (m : Int) (p : Int) = (q : Int) := by rw [hq]; exact (bits_nat .u32 32 (by decide) (fun n a c => by rw [IntKind.wrap_u32]; simp only [Int.reducePow] at c; omega) m p hm32 hp32).2
 obtain ⟨x1, hx1⟩ : ∃ x, x = b &&& m := ⟨_, rfl⟩
 obtain ⟨x2, hx2⟩ : ∃ x, x = b &&& q := ⟨_, rfl⟩
 have e3 : bits .and .u32 (b : Int) (m : Int) = (x1 : Int) := by rw [hx1]; exact and_32 b m hb
 have e4 : bits .and .u32 (b : Int) (q : Int) = (x2 : Int) := by rw [hx2]; exact and_32 b q hb
 have l1 : x1 < 4294967296 := by rw [hx1]; exact Nat.lt_of_le_of_lt Nat.and_le_left hb
 have l2 : x2 < 4294967296 := by rw [hx2]; exact Nat.lt_of_le_of_lt Nat.and_le_left hb
 have hq2 : q = 2 ^ (j + 1) - 1 := by
  have := Nat.two_pow_add_eq_or_of_lt (i := j) (b := m) (by omega) 1
  rw [Nat.mul_one, ← hp, Nat.or_comm, ← hq] at this
  rw [← this, Nat.pow_succ, ← hp]
  omega
 have r1 : rkN x1 32 = rkN b j := by rw [hx1, hm, hp]; exact rk_low b j (by omega)
 have r2 : rkN x2 32 = rkN b (j + 1) := by rw [hx2, hq2]; exact rk_low b (j + 1) (by omega)
 have c1 := sp_count x1 l1
 have c2 := sp_count x2 l2
 rw [r1] at c1
 rw [r2] at c2
 have C1 := Lib.hid c1
 have C2 := Lib.hid c2
 have HB := Lib.hid hB
 clear c1 c2 hB hq2 hp hm hq hx1 hx2 r1 r2 hm32 hp32
 go_enter Tryz.func159, Tryz.ntmps159
 go_upto_region 2 with (go_at_call 158; refine (HB.out _).mono ?_; rintro e w1 ⟨rfl, rfl⟩)
 go_quiet (first | (go_at_call 158; exact Calls.quiet_of_same (HB.out _)) | (go_at_call_of 193 (Value.int IntKind.u32 (x1 : Int)); exact Calls.quiet_of (C1.out _)) | (go_at_call_of 193 (Value.int IntKind.u32 (x2 : Int)); exact Calls.quiet_of (C2.out _)))
 go_wp2
 go_ret2
 exact ⟨rfl, Below.drewMany (Below.newly' _ _) _⟩
def AtR (S : Nat → Prop) (W : World) (R : Rg Pl) (c : Array Value) : Prop := ∃ v, c = #[.int .u32 (bitsG R 32 : Nat), v] ∧ HeadAt S W 190 2 v (en enPl (lisG R)) (cntG R 32)
theorem AtR.later {S : Nat → Prop} {W W' : World} {R : Rg Pl} {c : Array Value} (h : AtR S W R c) (hb : Below W.heap.size W W') : AtR S W' R c := by
 obtain ⟨v, h1, h2⟩ := h
 exact ⟨v, h1, h2.later hb⟩
theorem bits_noG : ∀ k, bitsG (noG : Rg Pl) k = 0
 | 0 => rfl
 | k + 1 => by unfold bitsG; rw [bits_noG k]; rfl
theorem cnt_noG : ∀ k, cntG (noG : Rg Pl) k = 0
 | 0 => rfl
 | k + 1 => by unfold cntG; rw [cnt_noG k]; rfl
theorem lis_noG : lisG (noG : Rg Pl) = [] := List.eq_nil_of_length_eq_zero (by rw [lisG_len, cnt_noG])
theorem AtR.zero (S : Nat → Prop) (W : World) : AtR S W noG #[.int .u32 0, .slice none 0 0] :=
 ⟨_, by rw [bits_noG]; rfl, by rw [lis_noG, cnt_noG]; exact ⟨rfl, .inl ⟨rfl, rfl⟩⟩⟩
theorem AtR.shape {S : Nat → Prop} {W : World} {R : Rg Pl} {c : Array Value} (h : AtR S W R c) : ∃ a n, c = #[.int .u32 (bitsG R 32 : Nat), .slice a (cntG R 32) n] := by
 obtain ⟨v, rfl, h2⟩ := h
 obtain ⟨a, n, rfl, _⟩ := h2.shape
 exact ⟨a, n, rfl⟩
theorem and_bit_onG (R : Rg Pl) {j : Nat} (hj : j < 32) (h : (R j).isSome = true) : bits .and .u32 (bitsG R 32 : Nat) ((2 ^ j : Nat) : Int) = ((2 ^ j : Nat) : Int) :=
 word_of .and _ _ _ (Nat.pow_lt_pow_right (show 1 < 2 by decide) hj) fun k hk => by
  simp only [BitVec.getLsbD_and, nat_bit hk, bits_testG, Nat.testBit_two_pow, hk, decide_true, Bool.true_and]
  by_cases e : j = k
  ·subst e; simp [h]
  ·simp [e]
theorem and_bit_offG (R : Rg Pl) {j : Nat} (h : (R j).isSome = false) : bits .and .u32 (bitsG R 32 : Nat) ((2 ^ j : Nat) : Int) = ((0 : Nat) : Int) :=
 word_of .and _ _ _ (by decide) fun k hk => by
  simp only [BitVec.getLsbD_and, nat_bit hk, bits_testG, Nat.testBit_two_pow, hk, decide_true, Bool.true_and]
  by_cases e : j = k
  ·subst e; simp [h]
  ·simp [e]
theorem pl_range {S : Nat → Prop} {W : World} {v : Value} {xs : List Pl} {n : Nat} (h : HeadAt S W 190 2 v (en enPl xs) n) {j : Nat} {x : Pl} (hx : xs[j]? = some x) :
  ∃ g c, v = .slice (some ⟨g, 0, none⟩) n c ∧ n ≤ c ∧ S g ∧ g < W.heap.size ∧ j < n ∧ W.rangeAt g (j * 2) (enPl x) := by
 have hl := h.1
 rw [en_len enPl_len] at hl
 have hj := (List.getElem?_eq_some_iff.1 hx).1
 obtain ⟨g, c, cur, fr, h1, h2, h3, h4, h5⟩ := h.pos (by omega)
 refine ⟨g, c, h1, h2, h3, (Array.getElem?_eq_some_iff.1 h4).1, by omega, fun k u hu => ?_⟩
 have hk : k < 2 := (List.getElem?_eq_some_iff.1 hu).1
 exact cell_in h4 (h5 (j * 2 + k) u (by rw [en_at enPl_len xs j k x hx hk]; exact hu))
set_option maxHeartbeats 1000000 in
theorem pr_Len {S : Nat → Prop} (W : World) (R : Rg Pl) (c : Array Value) (h : AtR S W R c) : Calls Tryz.prog 197 #[.agg c] W fun e W' => e = .returned (.int .i64 (cntG R 32 : Nat)) ∧ Below W.heap.size W W' := by
 obtain ⟨a, n, rfl⟩ := h.shape
 clear h
 go_enter Tryz.func197, Tryz.ntmps197
 go_wp2_with fail
 go_ret
 exact ⟨rfl, Below.newly' _ _⟩
theorem two_newG {w w' : World} {p q : Array Value} {T U : TypeId} (e : (w.alloc (.cells p T)).alloc (.cells q U) = w') : Below w.heap.size w w' ∧ w'.heap[w.heap.size]? = some (.cells p T (0, 0)) ∧ w'.heap[w.heap.size + 1]? = some (.cells q U (0, 0)) ∧ w'.heap.size = w.heap.size + 2 := by
 subst e
 refine ⟨Below.more (Below.newly' _ _) _, ((Below.newly' _ _).block _ (by simp)).trans (heap_alloc_last _ _), ?_, by simp⟩
 have h := heap_alloc_last (w.alloc (.cells p T)) (.cells q U)
 simpa using h
set_option maxHeartbeats 2000000 in
theorem pr_Get {S : Nat → Prop} (W : World) (R : Rg Pl) (c : Array Value) (j : Nat) (hj : j < 32) (h : AtR S W R c) : Calls Tryz.prog 138 #[.agg c, .int .i64 (j : Int)] W fun e W' => e = .returned (.tuple #[.agg (plc ((R j).getD (none, none))), .bool (R j).isSome]) ∧ Below W.heap.size W W' := by
  have HB := Lib.hid (sp_bit_on j hj)
  obtain ⟨v, rfl, h2⟩ := h
  obtain ⟨p, hp⟩ : ∃ p, p = 2 ^ j := ⟨_, rfl⟩
  obtain ⟨w1, hw1⟩ : ∃ w1, (W.alloc (.cells #[.int .u32 (bitsG R 32 : Nat), v] 116)).alloc (.cells #[.pointer none, .pointer none] 190) = w1 := ⟨_, rfl⟩
  obtain ⟨hb1, hx1, hy1, hs1⟩ := two_newG hw1
  have ca0 : w1.cell? ⟨W.heap.size, 0, none⟩ = some (.int .u32 (bitsG R 32 : Nat)) := cell_in hx1 rfl
  have HX1 := Lib.hid hx1
  have HY1 := Lib.hid hy1
  have HB1 := Lib.hid hb1
  have HS1 := Lib.hid hs1
  have hu := Tryz.underlying116
  cases hr : R j with
  | none =>
    have hz := and_bit_offG R (j := j) (by rw [hr]; rfl)
    rw [← hp] at HB hz
    obtain ⟨a, n, rfl, _⟩ := h2.shape
    clear h2 hp hx1 hy1 hb1 hs1
    go_enter Tryz.func138, Tryz.ntmps138
    go_upto_region 1 with fail
    clear hw1
    go_quiet (first | (go_at_call 158; exact Calls.quiet_of_same (HB.out _)))
    obtain ⟨w2, hw2⟩ : ∃ w2, w2 = w1.drewN nq := ⟨_, rfl⟩
    have HX2 : Hid (w2.heap[W.heap.size + 1]? = some (.cells #[.pointer none, .pointer none] 190 (0, 0))) := by show _ = _; rw [hw2]; exact HY1.out
    have HB2 : Hid (Below W.heap.size W w2) := by show Below _ _ _; rw [hw2]; exact Below.drewMany HB1.out _
    have HS2 : Hid (w2.heap.size = W.heap.size + 2) := by show _ = _; rw [hw2]; exact HS1.out
    rw [← hw2]
    clear hw2
    go_wp2_with (first
      | (refine ld_if (by rfl) 190 _ rfl w2.heap.size rfl 190 _ _ _ (heap_alloc_last w2 _) Tryz.underlying190 rfl pl_size ?_)
      | (refine st_agg rfl 190 _ _ rfl (W.heap.size + 1) #[.pointer none, .pointer none] rfl rfl 190 #[.pointer none, .pointer none] (((Below.newly' w2 _).block _ (by have := HS2.out; omega)).trans HX2.out) pl_size rfl (plc_one (none, none)) ?_; intro w3 h3 k3))
    exact bodyPost_ret (results_cell_row1 rfl _ _ (W.heap.size + 1) 190 _ (0, 0) _ rfl h3 Tryz.underlying190 rfl pl_size) rfl ⟨rfl, (HB2.out.trans ((Below.newly' w2 _).mono HB2.out.size)).trans (k3.below (by omega))⟩
  | some x =>
    have hz := and_bit_onG R hj (by rw [hr]; rfl)
    rw [← hp] at HB hz
    have hpn : ((p : Int) == 0) = false := beq_eq_false_iff_ne.2 (by have : 0 < p := by rw [hp]; exact Nat.two_pow_pos j
                                                                     omega)
    have HA := Lib.hid (fun w => pr_around (bitsG R 32) (lt_32G R) v j hj w)
    rw [rk_cntG R j (by omega), rk_cntG R (j + 1) (by omega)] at HA
    obtain ⟨g, cp, rfl, hcp, hS, hg, hlt, hrg⟩ := pl_range h2 (lis_atG R hj hr)
    have HRG := Lib.hid hrg
    have HG := Lib.hid hg
    have hlt' : ((cntG R j : Nat) : Int) < (cntG R 32 : Nat) := by omega
    have ca1 : w1.cell? ⟨W.heap.size, 1, none⟩ = some (.slice (some ⟨g, 0, none⟩) (cntG R 32) cp) := cell_in hx1 rfl
    clear h2 hp hx1 hy1 hb1 hs1 hrg hg hcp hS
    go_enter Tryz.func138, Tryz.ntmps138
    go_upto_region 1 with fail
    clear hw1
    go_quiet (first | (go_at_call 158; exact Calls.quiet_of_same (HB.out _)))
    obtain ⟨w2, hw2⟩ : ∃ w2, w2 = w1.drewN nq := ⟨_, rfl⟩
    have HX2 : Hid (w2.heap[W.heap.size]? = some (.cells #[.int .u32 (bitsG R 32 : Nat), .slice (some ⟨g, 0, none⟩) (cntG R 32) cp] 116 (0, 0))) := by show _ = _; rw [hw2]; exact HX1.out
    have HY2 : Hid (w2.heap[W.heap.size + 1]? = some (.cells #[.pointer none, .pointer none] 190 (0, 0))) := by show _ = _; rw [hw2]; exact HY1.out
    have HB2 : Hid (Below W.heap.size W w2) := by show Below _ _ _; rw [hw2]; exact Below.drewMany HB1.out _
    have HS2 : Hid (w2.heap.size = W.heap.size + 2) := by show _ = _; rw [hw2]; exact HS1.out
    rw [← hw2]
    clear hw2 ca0 ca1
    go_wp2_with (first
      | (refine ld_if (by rfl) 116 _ rfl W.heap.size rfl 116 _ _ _ HX2.out Tryz.underlying116 rfl row_size ?_)
      | (go_at_call 159; refine (HA.out _).mono ?_; rintro e w3 ⟨rfl, hb⟩; have hx3 := (hb.block _ (by have := HS2.out; omega)).trans HX2.out; have ca3 : w3.cell? ⟨W.heap.size, 1, none⟩ = some (.slice (some ⟨g, 0, none⟩) (cntG R 32) cp) := cell_in hx3 rfl; have HY3 := Lib.hid ((hb.block _ (by have := HS2.out; omega)).trans HY2.out); have HB3 := Lib.hid (tW HB2.out hb); clear hb hx3)
      | (refine wpList_load_mid rfl 190 _ rfl g (cntG R j * 2) rfl (enPl x) _ (rangeAt_later HRG.out HB3.out) Tryz.underlying190 rfl pl_size ?_)
      | (refine st_agg rfl 190 _ _ rfl (W.heap.size + 1) (plc x) rfl rfl 190 _ HY3.out pl_size rfl (plc_one x) ?_; intro w4 h4 k4))
    exact bodyPost_ret (results_cell_row1 rfl _ _ (W.heap.size + 1) 190 _ (0, 0) _ rfl h4 Tryz.underlying190 rfl pl_size) rfl ⟨rfl, HB3.out.trans (k4.below (by omega))⟩
theorem en_range {W : World} {T : TypeId} {h g : Nat} {ks : List Kid} {cur : Array Value} {fr : Nat × Nat} (hg : W.heap[g]? = some (.cells cur T fr)) (hc : ∀ (j : Nat) (u : Value), (en (kidc h) ks)[j]? = some u → cur[j]? = some u) {j : Nat} (hj : j < ks.length) :
  W.rangeAt g (j * 4) (kidc h ks[j]) := by
 intro i v hv
 have hi : i < 4 := by have := (List.getElem?_eq_some_iff.1 hv).1; exact this
 refine cell_in hg (hc _ v ?_)
 rw [en_at (kidc_len h) ks j i ks[j] (List.getElem?_eq_getElem hj) hi]
 exact hv
theorem cat_take_succ {ks : List Kid} {j : Nat} (hj : j < ks.length) : (catK (ks.take (j + 1))).length = (catK (ks.take j)).length + ks[j].l.length := by
 rw [List.take_succ_eq_append_getElem hj, catK_app, catK_one, List.length_append]
theorem cat_take_le {ks : List Kid} : ∀ j, (catK (ks.take j)).length ≤ (catK ks).length := fun j => by
 have e := List.take_append_drop j ks
 have := congrArg (fun x => (catK x).length) e
 rw [catK_app, List.length_append] at this
 omega
theorem mem_flat_le {α : Type} {ys : List α} : ∀ {L : List (List α)}, ys ∈ L → ∀ y ∈ ys, y ∈ L.flatten := fun h _ hy => List.mem_flatten.2 ⟨_, h, hy⟩
theorem cat_mem_le : ∀ (L : List (List Kid)) {ys : List Kid}, ys ∈ L → (catK ys).length ≤ (catK L.flatten).length
 | [], _, h => by cases h
 | x :: L, ys, h => by
  rw [List.flatten_cons, catK_app, List.length_append]
  rcases List.mem_cons.1 h with rfl | h
  ·omega
  ·have := cat_mem_le L h
   omega
set_option maxHeartbeats 4000000 in
theorem rp_inners (w : World) {S : Nat → Prop} (h : Nat) (B : Nat) (ls : List (Value × List Kid)) (hcells : ∀ k (hk : k < ls.length), w.cell? ⟨B, k, none⟩ = some ls[k].1) (hcut : ∀ p ∈ ls, CutAt S w 4 p.1 (en (kidc h) p.2) p.2.length)
  (xs : List Kid) (hxs : catE ls ls.length = xs) (hx : ∀ q ∈ xs, 8 ≤ q.k ∧ NodeR S w h q) (hN : (catK xs).length ≤ 100000) (hl : ls.length ≤ 1000) :
  Calls Tryz.prog 125 #[.slice (some ⟨B, 0, none⟩) ls.length ls.length] w fun e w' => ∃ v, e = .returned v ∧ ∃ ks, NodesR (fun g => S g ∨ w.heap.size ≤ g) w' (h + 1) v ks ∧ catK ks = catK xs ∧ Fit xs.length ks ∧ Below w.heap.size w w' := by
 have hN1 : xs.length ≤ 100000 := by
  have := cat_lower (c := 1) xs fun q hq => (hx q hq).2.len0
  omega
 have HSP := Lib.hid (sp_node (kidc_len h) (kidc_one h) w B ls hcells hcut xs hxs hN1 hl)
 have HN := Lib.hid hN
 have HN1 := Lib.hid hN1
 have HX : Hid (∀ q ∈ xs, 8 ≤ q.k ∧ NodeR (fun g => S g ∧ g < w.heap.size) w h q) := fun q hq => ⟨(hx q hq).1, (hx q hq).2.old⟩
 obtain ⟨H, hH⟩ : ∃ H, H = h + 1 := ⟨_, rfl⟩
 have HHH := Lib.hid hH
 clear hcells hcut hxs hN hN1 hx hH
 go_enter Tryz.func125, Tryz.ntmps125
 go_wp2_with (go_at_call 144; refine HSP.out.mono ?_; rintro e w1 ⟨v1, rfl, pl, ⟨a1, g1, cap1, rfl, ha1, hc1, hh1⟩, hpl, hb1⟩; have HA1 := Lib.hid ha1; have HC1 := Lib.hid hc1; have HH1 := Lib.hid hh1; have HPL := Lib.hid hpl; have HB1 := Lib.hid hb1; clear ha1 hc1 hh1 hpl hb1)
 clear HSP
 have hpl5 : (pl.length : Int) ≤ 100000 := by have := parts_len HPL.out; have := HN1.out; unfold cntN at *; omega
 go_loopw [3, 12] (fun nv iv wr => ∃ (k : Nat) (kq : List (Kid × List Kid)), iv = .int .i64 (k : Int) ∧ k ≤ pl.length ∧ Hid (RowsOwn w1.heap.size 110 4 nv ((kq.map (·.1)).map fun p => (kidc (h + 1) p).toArray) wr) ∧
  Hid ((∀ x ∈ kq, NodeR (fun g => (S g ∨ w.heap.size ≤ g) ∧ g < w1.heap.size) wr (h + 1) x.1 ∧ x.1.l = catK x.2 ∧ x.1.k = x.2.length) ∧ kq.map (·.2) = (pl.take k).map (·.2)) ∧ Hid (Below w1.heap.size w1 wr)) (fun _ iv _ => pl.length - (intOf iv).toNat)
 case atStart => exact ⟨0, [], rfl, Nat.zero_le _, ⟨World.ownsRowF_nil _ _ _ _, Nat.le_refl _, fun c h => (by cases h)⟩, ⟨fun x h => (by cases h), rfl⟩, Below.refl _ _⟩
 case round =>
  obtain ⟨Wo, hWo⟩ : ∃ Wo, Wo = wr := ⟨_, rfl⟩
  subst hWo
  obtain ⟨k, kq, rfl, hk, HP, HK, HB⟩ := hrel
  by_cases hlt : k < pl.length
  ·have hpp := part_pos HPL.out hlt
   obtain rfl : a1 = some ⟨g1, 0, none⟩ := HA1.out (by omega)
   have hc := (HB.out.cell (p := ⟨g1, k, none⟩) (World.block_lt_of_cell? _ _ (HC1.out k hlt))).trans (HC1.out k hlt)
   have HH := Lib.hid (HH1.out _ (List.getElem_mem hlt))
   have hmem : pl[k].2 ∈ chunks (cntN xs.length) xs := by rw [← HPL.out]; exact List.mem_map.2 ⟨pl[k], List.getElem_mem hlt, rfl⟩
   obtain ⟨q, hq⟩ : ∃ q, q = pl[k] := ⟨_, rfl⟩
   rw [← hq] at hc hpp HH hmem
   obtain ⟨qv, ql⟩ := q
   dsimp only at hc hpp HH hmem
   have hqx : ∀ y ∈ ql, y ∈ xs := fun y hy => by have := mem_flat_le hmem y hy; rwa [chunks_all] at this
   have hqn : (catK ql).length ≤ 100000 := by have := cat_mem_le _ hmem; rw [chunks_all] at this; have := HN.out; omega
   obtain ⟨n, hn⟩ : ∃ n, n = ql.length := ⟨_, rfl⟩
   rw [← hn] at hpp HH
   obtain ⟨g, c, cur, fr, rfl, hcap, hSg, hg, hcs⟩ := HH.out.pos hpp.1
   have hH5 : (H : Int) ≤ 100000 := by
    have h1 := (HX.out _ (hqx ql[0] (List.getElem_mem (by omega)))).2.high
    have h2 := cat_lower (c := 1) ql fun q hq => (HX.out q (hqx q hq)).2.len0
    have h3 : ql[0].l.length ≤ (catK ql).length := by
     have e1 : (catK (ql.take 1)).length = (catK (ql.take 0)).length + ql[0].l.length := cat_take_succ (by omega)
     have := cat_take_le (ks := ql) 1
     omega
    have := HHH.out
    omega
   have hgr := (HB.out.block g (Array.getElem?_eq_some_iff.1 hg).1).trans hg
   have ch : Wo.cell? ⟨g, 1, none⟩ = some (.int .i64 (H : Int)) := by
    have := en_range (h := h) (g := g) hgr hcs (j := 0) (by omega) 1 (.int .i64 ((h + 1 : Nat) : Int)) rfl
    rw [HHH.out]
    simpa using this
   have HGR := Lib.hid hgr
   have HCS := Lib.hid hcs
   have HQ := Lib.hid hq
   have HNN := Lib.hid hn
   have HPP := Lib.hid hpp
   have HQX := Lib.hid hqx
   have HQN := Lib.hid hqn
   have hn16 : (n : Int) ≤ 16 := by omega
   have hn0 : (0 : Int) < n := by omega
   have HGW : Hid (g < w1.heap.size) := (Array.getElem?_eq_some_iff.1 hg).1
   have HLEN : Hid (kq.length ≤ 100000) := by
    show _ ≤ _
    have := congrArg List.length HK.out.2
    rw [List.length_map, List.length_map, List.length_take] at this
    omega
   have HHQ := Lib.hid HH.out.old
   clear hq hn hpp hcap hk hqx hqn hmem hSg hg hcs hgr
   go_wp2_with (refine st_agg rfl 110 _ _ rfl Wo.heap.size #[.int .i64 0, .int .i64 ((H : Int) + 1), .slice (some ⟨g, 0, none⟩) n c, .slice none 0 0] rfl rfl 110 zeroR (heap_alloc_last _ _) rnode_size rfl (by simp [Value.oneCell']) ?_; intro w2 h2 k2; have HG2 := Lib.hid h2; have HB2 : Hid (Below Wo.heap.size Wo w2) := (Below.newly' _ _).trans (k2.below (Nat.le_refl _)); clear h2 k2)
   go_loopw [25] (fun iv wl => ∃ (j : Nat), iv = .int .i64 (j : Int) ∧ j ≤ n ∧ Hid (wl.heap[Wo.heap.size]? = some (.cells #[.int .i64 ((catK (ql.take j)).length : Int), .int .i64 ((H : Int) + 1), .slice (some ⟨g, 0, none⟩) n c, .slice none 0 0] 110 (0, 0))) ∧ Hid (Below Wo.heap.size Wo wl)) (fun iv _ => n - (intOf iv).toNat)
   case atStart => exact ⟨0, rfl, Nat.zero_le _, HG2, HB2⟩
   case round =>
    clear HG2 HB2
    obtain ⟨j, rfl, hj, HG, HBL⟩ := hrel
    by_cases hjn : j < n
    ·have hjl : j < ql.length := by have := HNN.out; omega
     have HRG := Lib.hid (en_range (h := h) (g := g) ((HBL.out.block g (Array.getElem?_eq_some_iff.1 HGR.out).1).trans HGR.out) HCS.out hjl)
     have HSUM := Lib.hid (cat_take_succ hjl)
     have hle := cat_take_le (ks := ql) (j + 1)
     obtain ⟨y, hy⟩ : ∃ y, y = ql[j] := ⟨_, rfl⟩
     rw [← hy] at HRG HSUM
     obtain ⟨s, hs⟩ : ∃ s, s = (catK (ql.take j)).length := ⟨_, rfl⟩
     obtain ⟨z, hz⟩ : ∃ z, z = y.l.length := ⟨_, rfl⟩
     have hsz : (s : Int) + (z : Int) ≤ 100000 := by have := HQN.out; have := HSUM.out; omega
     rw [← hs] at HG
     have HS := Lib.hid hs
     have HZ := Lib.hid hz
     have hjn' : (j : Int) < n := by omega
     have HYC : Hid ((kidc h y).toArray.all (·.oneCell') = true) := by
      show _ = _
      rw [Array.all_eq_true_iff_forall_mem]
      intro u hu
      exact kidc_one h y u (by simpa using hu)
     have HXL : Hid (Wo.heap.size < wr.heap.size) := (Array.getElem?_eq_some_iff.1 HG.out).1
     clear hy hs hz hle hj hjl hjn
     go_wp2_with (first
      | (refine wpList_load_mid rfl 110 _ rfl g (j * 4) rfl (kidc h y) _ HRG.out Tryz.underlying110 rfl rnode_size ?_)
      | (refine st_agg rfl 110 _ _ rfl wr.heap.size (kidc h y).toArray rfl rfl 110 zeroR (heap_alloc_last _ _) rnode_size rfl HYC.out ?_; intro w5 h5 k5; have HB5 : Hid (Below wr.heap.size wr w5) := (Below.newly' _ _).trans (k5.below (Nat.le_refl _)); have HX5 := Lib.hid ((HB5.out.block _ HXL.out).trans HG.out); have q5 : w5.cell? ⟨Wo.heap.size, 0, none⟩ = some (.int .i64 (s : Int)) := cell_in HX5.out rfl; have f5 : w5.frozen? ⟨Wo.heap.size, 0, none⟩ = false := frozen_of_row _ _ _ _ _ HX5.out; have r5 : w5.cell? ⟨wr.heap.size, 0, none⟩ = some (.int .i64 (z : Int)) := (by rw [HZ.out]; exact cell_in h5 rfl); clear h5 k5))
     go_roundw
     case rel =>
      refine ⟨j + 1, by simp, by have := HNN.out; omega, ?_, (tW HBL.out HB5.out).setCell (p := ⟨Wo.heap.size, 0, none⟩) (Nat.le_refl _) _⟩
      rw [HSUM.out, ← HS.out, ← HZ.out]
      exact heap_setCell_same w5 _ 0 _ _ _ HX5.out
     case measure => simp [intOf]; omega
    ·obtain rfl : j = n := by omega
     have HCT : Hid (catK (ql.take j) = catK ql) := by show _ = _; rw [List.take_of_length_le (by have := HNN.out; omega)]
     rw [HCT.out] at HG
     have HKO := Lib.hid (HP.out.later HBL.out)
     clear hj hjn
     go_wp2_with (first
      | (refine ld_if rfl 110 _ rfl Wo.heap.size rfl 110 _ _ _ HG.out Tryz.underlying110 rfl rnode_size ?_)
      | (refine bs_list rfl 108 110 _ rfl #[.int .i64 ((catK ql).length : Int), .int .i64 ((H : Int) + 1), .slice (some ⟨g, 0, none⟩) j c, .slice none 0 0] 4 (.agg zeroR) rfl rfl (by decide) (by decide) Tryz.underlying108 (by kernel_rfl) ?_; intro w3 h3 hb3 hs3; have HG3 := Lib.hid h3; have HB3 := Lib.hid hb3; clear h3 hb3 hs3)
      | (refine rows_list rfl (z := .agg zeroR) (by_ := 64) 108 110 _ _ rfl rfl (HKO.out.later HB3.out) wr.heap.size rfl HG3.out rfl (by simp [Value.oneCell']) Tryz.underlying108 (by kernel_rfl) rfl (by decide) (by rw [List.length_map, List.length_map]; exact HLEN.out) (by decide) ?_; intro v6 w6 hp6 hg6; have HP6 := Lib.hid hp6; have HG6 := Lib.hid hg6; clear hp6 hg6))
     go_roundw
     case rel =>
      have hp3 := HKO.out.later HB3.out
      have hb3 : Below Wo.heap.size Wo w3 := tW HBL.out HB3.out
      have hkT : ∀ X, _ = some X → w1.heap.size ≤ X := fun X e => by
       rcases hp3.own with h | ⟨g', _, _, h, h2, _⟩
       ·have e' := h.symm.trans e; cases e'
       ·have e' := h.symm.trans e; obtain rfl := Option.some.inj e'; exact h2
      have hw1 : w.heap.size ≤ w1.heap.size := HB1.out.size
      refine ⟨k + 1, kq ++ [(⟨.slice (some ⟨g, 0, none⟩) j c, .slice none 0 0, catK ql, j, rfl, rfl⟩, ql)], by simp, by omega, ?_, ⟨fun x hx => ?_, ?_⟩, ?_⟩
      ·rw [List.map_append, List.map_append]
       have e : ((kidc (h + 1) ⟨.slice (some ⟨g, 0, none⟩) j c, .slice none 0 0, catK ql, j, rfl, rfl⟩).toArray : Array Value) = #[.int .i64 ((catK ql).length : Int), .int .i64 ((H : Int) + 1), .slice (some ⟨g, 0, none⟩) j c, .slice none 0 0] := by
        rw [HHH.out]; simp [kidc]
       rw [List.map_singleton, List.map_singleton, e]
       exact HP6.out
      ·rcases List.mem_append.1 hx with hx | hx
       ·exact ⟨((HK.out.1 x hx).1.later hb3).kept HG6.out (fun X e h => by have := hkT X e; omega), (HK.out.1 x hx).2⟩
       ·rw [List.mem_singleton] at hx
        subst hx
        refine ⟨⟨rfl, HPP.out.1, HPP.out.2, ql, ?_, HNN.out.symm, rfl, fun q hq => ⟨(HX.out q (HQX.out q hq)).1, ?_⟩⟩, rfl, HNN.out⟩
        ·exact (((HHQ.out.later HB.out).later hb3).kept HG6.out (fun X e h => by have := hkT X e; omega)).weak fun g hg => ⟨.inr hg.1, hg.2⟩
        ·exact (((HX.out q (HQX.out q hq)).2.later (HB1.out.trans ((tW HB.out hb3).mono hw1))).kept HG6.out (fun X e h => by have := hkT X e; omega)).weak fun g hg => ⟨.inl hg.1, by omega⟩
      ·rw [List.map_append, HK.out.2, List.take_succ_eq_append_getElem hlt, List.map_append, ← HQ.out]
       rfl
      ·exact (tW HB.out hb3).trans (below_of_grown HG6.out (by have := HB.out.size; have := hb3.size; omega) hkT)
     case measure => simp [intOf]; omega
  ·obtain rfl : k = pl.length := by omega
   go_wp2_with fail
   go_ret
   have hk := HK.out
   rw [List.take_length, HPL.out] at hk
   refine ⟨_, rfl, kq.map (·.1), ⟨?_, fun p hp => ?_⟩, ?_, fit_of hk.2 fun x hx => (hk.1 x hx).2.2, tW HB1.out HB.out⟩
   ·have h := (rows_cut HP.out).weak (S' := fun g => S g ∨ w.heap.size ≤ g) (fun g hg => .inr (Nat.le_trans HB1.out.size hg))
    rw [kid_cells, List.length_map] at h
    exact h
   ·obtain ⟨x, hx, rfl⟩ := List.mem_map.1 hp
    exact (hk.1 x hx).1.weak fun g hg => hg.1
   ·rw [cat_inner _ fun x hx => (hk.1 x hx).2.1, hk.2, chunks_all]
def cntD (xs : List Tr) (i : Nat) : Nat := xs.countP fun x => decide (depT x = i + 1)
theorem cntD_app (xs ys : List Tr) (i : Nat) : cntD (xs ++ ys) i = cntD xs i + cntD ys i := by simp [cntD, List.countP_append]
theorem cntD_perm {xs ys : List Tr} (h : xs.Perm ys) (i : Nat) : cntD xs i = cntD ys i := h.countP_eq _
theorem cntD_one (x : Tr) (i : Nat) : cntD [x] i = if depT x = i + 1 then 1 else 0 := by simp [cntD, List.countP_cons]
theorem cntD_le (xs : List Tr) (i : Nat) : cntD xs i ≤ xs.length := List.countP_le_length
theorem cntD_out {xs : List Tr} {i : Nat} (h : depL xs ≤ i) : cntD xs i = 0 := by
 unfold cntD
 rw [List.countP_eq_zero]
 intro x hx
 have := depL_mem hx
 simp
 omega
def tal (xs : List Tr) : List Int := (List.range (depL xs)).map fun i => (cntD xs i : Int)
theorem tal_len (xs : List Tr) : (tal xs).length = depL xs := by simp [tal]
theorem tal_get (xs : List Tr) (i : Nat) : (tal xs).getD i 0 = (cntD xs i : Int) := by
 by_cases h : i < depL xs
 ·simp [tal, List.getD_eq_getElem?_getD, h]
 ·rw [List.getD_eq_getElem?_getD, List.getElem?_eq_none (by rw [tal_len]; omega), cntD_out (by omega)]
  rfl
theorem tal_of {l : List Int} {xs : List Tr} (h1 : l.length = depL xs) (h2 : ∀ i, i < l.length → l.getD i 0 = (cntD xs i : Int)) : l = tal xs := by
 apply List.ext_getElem (by rw [h1, tal_len])
 intro i hi hj
 have := (h2 i hi).trans (tal_get xs i).symm
 rw [List.getD_eq_getElem?_getD, List.getD_eq_getElem?_getD, List.getElem?_eq_getElem hi, List.getElem?_eq_getElem hj] at this
 exact this
theorem tal_perm {xs ys : List Tr} (h : xs.Perm ys) : tal xs = tal ys :=
 tal_of (by rw [tal_len, depL_perm h]) fun i _ => by rw [tal_get, cntD_perm h]
theorem tal_one (x : Tr) : tal [x] = List.replicate (depT x - 1) 0 ++ [1] := by
 have hp := dep_pos x
 refine (tal_of (by simp [depL]; omega) fun i hi => ?_).symm
 rw [cntD_one]
 simp only [List.length_append, List.length_replicate, List.length_singleton] at hi
 rw [List.getD_eq_getElem?_getD]
 by_cases h : i < depT x - 1
 ·rw [List.getElem?_append_left (by simpa using h), if_neg (by omega)]
  simp [h]
 ·rw [List.getElem?_append_right (by simp; omega), if_pos (by omega)]
  simp [show i - (depT x - 1) = 0 by omega]
def plusI (a b : List Int) : List Int := (List.range (max a.length b.length)).map fun i => a.getD i 0 + b.getD i 0
theorem plusI_len (a b : List Int) : (plusI a b).length = max a.length b.length := by simp [plusI]
theorem plusI_get (a b : List Int) {i : Nat} (h : i < max a.length b.length) : (plusI a b).getD i 0 = a.getD i 0 + b.getD i 0 := by simp [plusI, List.getD_eq_getElem?_getD, h]
theorem plus_tal (xs ys : List Tr) : plusI (tal xs) (tal ys) = tal (xs ++ ys) :=
 tal_of (by rw [plusI_len, tal_len, tal_len, depL_app]) fun i hi => by
  rw [plusI_len] at hi
  rw [plusI_get _ _ hi, tal_get, tal_get, cntD_app]
  omega
theorem chk_can {a : Tr} (h : chkT a = 0) (hr : RngT a) : chkT (canT a) = 0 := by
 rw [chkT_ok] at h ⊢
 have := can_size a h.1
 rw [this.1, this.2]
 exact ⟨good_ok _ (can_good a h.1 hr), h.2⟩
theorem can_can {a : Tr} (h : chkT a = 0) (hr : RngT a) : canT (canT a) = canT a := can_id _ (can_good a (chkT_ok.1 h).1 hr)
def fitT (k sk : Int) : Int := if sk = 0 then (if k = 4 then 0 else 3) else if sk = 1 then (if k = 5 then 0 else 3) else if sk = 2 then (if k = 6 then 0 else 3) else 1
def atT (a : Tr) (i : Int) (t : ByteArray) : Option Nat :=
 if a.k = 4 then (if 0 ≤ i ∧ i < a.xs.length then some i.toNat else none)
 else if a.k = 5 then a.ks.findIdx? (fun y => decide (y = t))
 else a.xs.findIdx? (fun y => decide (keyT y = kb t))
def getT (a : Tr) (sk i : Int) (t : ByteArray) : Tr × Int :=
 if fitT a.k sk ≠ 0 then (nullT, fitT a.k sk) else match atT a i t with
  | none => (nullT, 5)
  | some j => ((a.xs[j]?).getD nullT, 0)
theorem at_lt {a : Tr} (h : Good a) {i : Int} {t : ByteArray} {j : Nat} (e : atT a i t = some j) : j < a.xs.length := by
 unfold atT at e
 split at e
 ·split at e
  ·cases e; omega
  ·cases e
 ·split at e
  ·rename_i h5
   have h1 := (List.findIdx?_eq_some_iff_getElem.1 e).1
   rcases (good_iff.1 h).2 with h | ⟨_, _, h | h | h⟩
   ·omega
   ·omega
   ·rw [← h.2.1]; exact h1
   ·omega
  ·exact (List.findIdx?_eq_some_iff_getElem.1 e).1
def stepsT (a : Tr) : List (Int × Int × ByteArray) :=
 if a.k = 4 then (List.range a.xs.length).map fun (i : Nat) => ((0 : Int), (i : Int), (⟨#[]⟩ : ByteArray))
 else if a.k = 5 then a.ks.map fun y => (1, 0, y)
 else a.xs.map fun x => (2, 0, ⟨(keyT x).toArray⟩)
theorem steps_len {a : Tr} (h : Good a) : (stepsT a).length = a.xs.length := by
 unfold stepsT
 split
 ·simp
 ·split
  ·rename_i h5
   rw [List.length_map]
   rcases (good_iff.1 h).2 with h | ⟨_, _, h | h | h⟩
   ·omega
   ·omega
   ·exact h.2.1
   ·omega
  ·rw [List.length_map]
end Go.Proofs.YtpodmgihlomglaaGreatDoor
