/- Decimal numerals: digits are parsed as their number, and what is parsed is written so. -/
import Derived.Test.YtjefaibnlhnaiaaNumText
import Derived.Lib.ItoaNum
namespace Go.Proofs.Ytjefaibnlhnaiaa
open Go.RowKit

def dch (d : Nat) : UInt8 := UInt8.ofNat (48 + d)
theorem dch_toNat (d : Nat) (h : d < 10) : (dch d).toNat = 48 + d := by
  unfold dch; rw [UInt8.toNat_ofNat_of_lt' (by simp only [UInt8.size]; omega)]
theorem dch_dgt (d : Nat) (h : d < 10) : dgt (dch d) = true := by
  rw [dgt_iff, dch_toNat d h]; omega
theorem dch_of (c : UInt8) (h : dgt c = true) : dch (c.toNat - 48) = c := by
  have h1 := (dgt_iff c).1 h
  refine UInt8.toNat_inj.1 ?_
  rw [dch_toNat _ (by omega)]; omega
theorem dec_small (u : Nat) (h : u < 10) : Lib.decDigits u = [dch u] := by rw [Lib.decDigits, dif_pos h]; rfl
theorem dec_big (u : Nat) (h : ¬ u < 10) : Lib.decDigits u = Lib.decDigits (u / 10) ++ [dch (u % 10)] := by rw [Lib.decDigits, dif_neg h]; rfl

theorem numS_dec (u : Nat) : numS (Lib.decDigits u) = (u : Int) := by
  induction u using Nat.strongRecOn with
  | _ u ih =>
    by_cases h : u < 10
    · rw [dec_small u h]
      simp only [numS, List.foldl_cons, List.foldl_nil, dch_toNat u h]; omega
    · rw [dec_big u h, numS_snoc, ih (u / 10) (by omega), dch_toNat _ (by omega)]; omega
theorem all_dec (u : Nat) : (Lib.decDigits u).all dgt = true := by
  induction u using Nat.strongRecOn with
  | _ u ih =>
    by_cases h : u < 10
    · rw [dec_small u h]; simp [dch_dgt u h]
    · rw [dec_big u h, List.all_append, ih (u / 10) (by omega)]; simp [dch_dgt (u % 10) (by omega)]
theorem dec_ne (u : Nat) : Lib.decDigits u ≠ [] := by
  by_cases h : u < 10
  · rw [dec_small u h]; simp
  · rw [dec_big u h]; simp
/-- The first digit of what is not nought is not nought. -/
theorem dec_head (u : Nat) (h0 : 0 < u) : ∃ c r, Lib.decDigits u = c :: r ∧ c ≠ 48 := by
  induction u using Nat.strongRecOn with
  | _ u ih =>
    by_cases h : u < 10
    · refine ⟨dch u, [], dec_small u h, fun e => ?_⟩
      have := congrArg UInt8.toNat e
      rw [dch_toNat u h] at this
      have h48 : (48 : UInt8).toNat = 48 := rfl
      omega
    · obtain ⟨c, r, e, hc⟩ := ih (u / 10) (by omega) (by omega)
      exact ⟨c, r ++ [dch (u % 10)], by rw [dec_big u h, e]; rfl, hc⟩
theorem plain_dec (u : Nat) : plainS (Lib.decDigits u) = true := by
  unfold plainS
  rw [all_dec]
  by_cases h0 : 0 < u
  · obtain ⟨c, r, e, hc⟩ := dec_head u h0
    rw [e]
    simp [hc]
  · obtain rfl : u = 0 := by omega
    rw [dec_small 0 (by omega)]; rfl
theorem plainS_snoc (l : List UInt8) (c : UInt8) (hl : l ≠ []) (h : plainS (l ++ [c]) = true) : plainS l = true ∧ dgt c = true ∧ 1 ≤ numS l := by
  obtain ⟨a, r, rfl⟩ := List.exists_cons_of_ne_nil hl
  unfold plainS at h ⊢
  simp only [List.cons_append, List.isEmpty_cons, Bool.not_false, Bool.true_and, List.head?_cons, List.length_cons, List.length_append, List.length_nil, List.all_cons, List.all_append, Bool.and_eq_true] at h
  obtain ⟨h1, h2, h3, h4⟩ := h
  have hne : a ≠ 48 := by
    rintro rfl
    simp at h1
  have hd := (dgt_iff a).1 h2
  have ha : 49 ≤ (a.toNat : Int) := by
    have : a.toNat ≠ 48 := fun e => hne (UInt8.toNat_inj.1 e)
    omega
  refine ⟨?_, ?_, ?_⟩
  · simp [hne, h2, h3]
  · simpa using h4
  · have := numS_grow r h3 (10 * 0 + ((a.toNat : Int) - 48)) (by omega)
    show 1 ≤ List.foldl _ _ _
    simp only [List.foldl_cons]
    omega
theorem snoc_cases {α : Type} (l : List α) (h : l ≠ []) : ∃ r c, l = r ++ [c] := ⟨l.dropLast, l.getLast h, (List.dropLast_concat_getLast h).symm⟩
theorem dec_numS : ∀ (k : Nat) (l : List UInt8), l.length ≤ k → plainS l = true → Lib.decDigits (numS l).toNat = l
  | 0, l, hk, h => by
    have : l = [] := List.eq_nil_of_length_eq_zero (by omega)
    subst this; simp [plainS] at h
  | k + 1, l, hk, h => by
    have hne : l ≠ [] := by rintro rfl; simp [plainS] at h
    obtain ⟨r, c, rfl⟩ := snoc_cases l hne
    by_cases hr : r = []
    · subst hr
      have hc : dgt c = true := by have := plainS_all h; simpa using this
      have hd := (dgt_iff c).1 hc
      have hn : numS ([] ++ [c]) = (c.toNat : Int) - 48 := by simp [numS]
      rw [hn, dec_small _ (by omega)]
      have : ((c.toNat : Int) - 48).toNat = c.toNat - 48 := by omega
      rw [this, dch_of c hc]; rfl
    · obtain ⟨h1, h2, h3⟩ := plainS_snoc r c hr h
      have hd := (dgt_iff c).1 h2
      rw [numS_snoc, dec_big _ (by omega)]
      have e1 : (10 * numS r + ((c.toNat : Int) - 48)).toNat / 10 = (numS r).toNat := by omega
      have e2 : (10 * numS r + ((c.toNat : Int) - 48)).toNat % 10 = c.toNat - 48 := by omega
      rw [e1, e2, dch_of c h2, dec_numS k r (by simp at hk; omega) h1]
theorem dec_numS' (l : List UInt8) (h : plainS l = true) : Lib.decDigits (numS l).toNat = l := dec_numS _ l (Nat.le_refl _) h

theorem parseS_cons (c : UInt8) (r : List UInt8) : parseS (c :: r) = if c.toNat = 45 then (if r = [48] then (0, 2) else if plainS r = true then signedS r true else (0, 2)) else if plainS (c :: r) = true then signedS (c :: r) false else (0, 2) := rfl
theorem parse_itoa (n : Int) (hn : InR n) : parseS (Lib.itoa n) = (n, 0) := by
  unfold Lib.itoa
  by_cases h : n < 0
  · rw [if_pos h]
    have hz : Lib.decDigits n.natAbs ≠ [48] := by
      intro e
      have h1 := numS_dec n.natAbs
      rw [e] at h1
      have h2 : numS [48] = 0 := by decide
      omega
    rw [parseS_cons, if_pos (show UInt8.toNat 45 = 45 from rfl), if_neg hz, if_pos (plain_dec _)]
    show chk (-numS (Lib.decDigits n.natAbs)) = _
    rw [numS_dec, show -(n.natAbs : Int) = n by omega]
    exact chk_in hn
  · rw [if_neg h]
    have hp := plain_dec n.toNat
    have ha := all_dec n.toNat
    have hnum := numS_dec n.toNat
    cases hl : Lib.decDigits n.toNat with
    | nil => exact absurd hl (dec_ne _)
    | cons c r =>
      rw [hl] at hp ha hnum
      simp only [List.all_cons, Bool.and_eq_true] at ha
      have hc := (dgt_iff c).1 ha.1
      rw [parseS_cons, if_neg (by omega), if_pos hp]
      show chk (numS (c :: r)) = _
      rw [hnum, show ((n.toNat : Nat) : Int) = n by omega]
      exact chk_in hn
theorem chk_ok {n : Int} (h : (chk n).2 = 0) : (chk n).1 = n := by
  unfold chk at *
  split at h
  · rw [if_pos (by assumption)]
  · simp at h
theorem itoa_parse (l : List UInt8) (h : (parseS l).2 = 0) : Lib.itoa (parseS l).1 = l := by
  cases l with
  | nil => simp [parseS] at h
  | cons c r =>
    unfold parseS at h ⊢
    simp only at h ⊢
    by_cases hc : c.toNat = 45
    · rw [if_pos hc] at h ⊢
      by_cases h48 : r = [48]
      · rw [if_pos h48] at h; simp at h
      · rw [if_neg h48] at h ⊢
        by_cases hp : plainS r = true
        · rw [if_pos hp] at h ⊢
          have h1 : (signedS r true).1 = -numS r := chk_ok h
          rw [h1]
          have h2 := numS_nn r (plainS_all hp)
          have h3 := dec_numS' r hp
          have hnz : numS r ≠ 0 := by
            intro e
            rw [e] at h3
            rw [show (0 : Int).toNat = 0 from rfl, dec_small 0 (by omega)] at h3
            exact h48 h3.symm
          unfold Lib.itoa
          rw [if_pos (by omega), show (-numS r).natAbs = (numS r).toNat by omega, h3]
          congr 1
          exact (UInt8.toNat_inj.1 hc).symm
        · rw [if_neg hp] at h; simp at h
    · rw [if_neg hc] at h ⊢
      by_cases hp : plainS (c :: r) = true
      · rw [if_pos hp] at h ⊢
        have h1 : (signedS (c :: r) false).1 = numS (c :: r) := chk_ok h
        rw [h1]
        have h2 := numS_nn _ (plainS_all hp)
        unfold Lib.itoa
        rw [if_neg (by omega), dec_numS' _ hp]
      · rw [if_neg hp] at h; simp at h
end Go.Proofs.Ytjefaibnlhnaiaa
