/- Plain facts that layer 2's laws ask: a total order; what is quoted is unquoted; digits there and back; cut off. No program is imported. -/
import Derived.Test.YtjefaibnlhnaiaaQuotePure
namespace Go.Proofs.Ytjefaibnlhnaiaa
open Go.RowKit

/-! the order -/
theorem lt_irrefl_l (a : List UInt8) : ¬ a < a := List.lt_irrefl a
theorem orderS_range (a b : List UInt8) : orderS a b = -1 ∨ orderS a b = 0 ∨ orderS a b = 1 := by
  unfold orderS
  split
  · exact .inr (.inl rfl)
  · split
    · exact .inl rfl
    · exact .inr (.inr rfl)
theorem orderS_zero (a b : List UInt8) : orderS a b = 0 ↔ a = b := by
  unfold orderS
  split
  · simp [*]
  · split <;> simp [*]
theorem orderS_less (a b : List UInt8) : orderS a b = -1 ↔ a < b := by
  unfold orderS
  split
  · rename_i h; subst h; simp [lt_irrefl_l]
  · split <;> simp [*]
theorem total_l (a b : List UInt8) (h : ¬ a = b) : a < b ∨ b < a := by
  rcases List.le_total a b with h1 | h1
  · rcases Decidable.em (a < b) with h2 | h2
    · exact .inl h2
    · exact absurd (List.le_antisymm h1 (List.not_lt.1 h2)) h
  · rcases Decidable.em (b < a) with h2 | h2
    · exact .inr h2
    · exact absurd (List.le_antisymm (List.not_lt.1 h2) h1) h
theorem orderS_neg (a b : List UInt8) : orderS a b = - orderS b a := by
  by_cases h : a = b
  · subst h
    rw [(orderS_zero a a).2 rfl]; rfl
  · rcases total_l a b h with h1 | h1
    · have h2 : ¬ b < a := fun h2 => lt_irrefl_l a (List.lt_trans h1 h2)
      have := orderS_range b a
      rw [(orderS_less a b).2 h1]
      have h3 := orderS_zero b a
      have h4 := orderS_less b a
      rcases this with e | e | e
      · exact absurd (h4.1 e) h2
      · exact absurd (h3.1 e).symm h
      · rw [e]
    · have h2 : ¬ a < b := fun h2 => lt_irrefl_l a (List.lt_trans h2 h1)
      have := orderS_range a b
      rw [(orderS_less b a).2 h1]
      have h3 := orderS_zero a b
      have h4 := orderS_less a b
      rcases this with e | e | e
      · exact absurd (h4.1 e) h2
      · exact absurd (h3.1 e) h
      · rw [e]; rfl
theorem orderS_trans (a b c : List UInt8) (h1 : orderS a b ≤ 0) (h2 : orderS b c ≤ 0) : orderS a c ≤ 0 ∧ (orderS a b = 0 ∧ orderS b c = 0 ∨ orderS a c < 0) := by
  have le : ∀ x y, orderS x y ≤ 0 → x = y ∨ x < y := fun x y h => by
    rcases orderS_range x y with e | e | e
    · exact .inr ((orderS_less x y).1 e)
    · exact .inl ((orderS_zero x y).1 e)
    · omega
  rcases le a b h1 with rfl | e1
  · have e := (orderS_zero a a).2 rfl
    refine ⟨h2, ?_⟩
    rcases orderS_range a c with e2 | e2 | e2
    · exact .inr (by omega)
    · exact .inl ⟨e, e2⟩
    · omega
  · rcases le b c h2 with rfl | e2
    · have := (orderS_less a b).2 e1
      exact ⟨h1, .inr (by omega)⟩
    · have := (orderS_less a c).2 (List.lt_trans e1 e2)
      exact ⟨by omega, .inr (by omega)⟩

/-! digits -/
theorem hxD_nat (n : Nat) (h : n < 16) : (hxD n).toNat = if n < 10 then 48 + n else 87 + n := by
  unfold hxD
  split
  · rw [UInt8.toNat_ofNat_of_lt' (by simp only [UInt8.size]; omega)]
  · rw [UInt8.toNat_ofNat_of_lt' (by simp only [UInt8.size]; omega)]
theorem hval_hxD (n : Nat) (h : n < 16) (g : Bool) : hval (hxD n) g = n := by
  unfold hval
  rw [hxD_nat n h]
  by_cases h1 : n < 10
  · rw [if_pos h1, if_pos (by omega)]; omega
  · rw [if_neg h1, if_neg (by omega), if_pos (by omega)]; omega
theorem ofNat_join (c : UInt8) : UInt8.ofNat (16 * (c.toNat / 16) + c.toNat % 16) = c := by
  rw [Nat.div_add_mod]; simp
theorem unhx_hex : ∀ (l out : List UInt8), unhxS (hexS l) out = (out ++ l, 0)
  | [], out => by simp [hexS, unhxS]
  | c :: l, out => by
    have hc := c.toNat_lt
    show unhxS (hxD (c.toNat / 16) :: hxD (c.toNat % 16) :: hexS l) out = _
    rw [unhxS, hval_hxD _ (by omega), hval_hxD _ (by omega), if_neg (by omega), ofNat_join, unhx_hex l]
    simp
theorem hex_len : ∀ l : List UInt8, (hexS l).length = 2 * l.length
  | [] => rfl
  | c :: l => by
    show (hxD (c.toNat / 16) :: hxD (c.toNat % 16) :: hexS l).length = _
    simp [hex_len l]; omega
theorem unhex_hex (l : List UInt8) : unhexS (hexS l) = (l, 0) := by
  unfold unhexS
  rw [hex_len, if_neg (by omega), unhx_hex]; rfl

/-! quotes -/
theorem esc_mark {c : UInt8} (h : c.toNat = 34 ∨ c.toNat = 92) : escS c = some c := by unfold escS; rw [if_pos (by omega)]
/-- The ways that a byte stands within quotes. -/
theorem one_ways (c : UInt8) : ((c.toNat = 34 ∨ c.toNat = 92) ∧ oneS c = [92, c]) ∨ (c = 10 ∧ oneS c = [92, 110]) ∨ (c = 9 ∧ oneS c = [92, 116]) ∨ (c = 13 ∧ oneS c = [92, 114])
    ∨ oneS c = [92, 120, hxD (c.toNat / 16), hxD (c.toNat % 16)] ∨ (c.toNat ≠ 34 ∧ c.toNat ≠ 92 ∧ 32 ≤ c.toNat ∧ oneS c = [c]) := by
  by_cases h1 : c.toNat = 34 ∨ c.toNat = 92
  · exact .inl ⟨h1, by unfold oneS; rw [if_pos h1]⟩
  by_cases h2 : c.toNat = 10
  · exact .inr (.inl ⟨UInt8.toNat_inj.1 h2, by unfold oneS; rw [if_neg h1, if_pos h2]⟩)
  by_cases h3 : c.toNat = 9
  · exact .inr (.inr (.inl ⟨UInt8.toNat_inj.1 h3, by unfold oneS; rw [if_neg h1, if_neg h2, if_pos h3]⟩))
  by_cases h4 : c.toNat = 13
  · exact .inr (.inr (.inr (.inl ⟨UInt8.toNat_inj.1 h4, by unfold oneS; rw [if_neg h1, if_neg h2, if_neg h3, if_pos h4]⟩)))
  by_cases h5 : c.toNat < 32 ∨ 126 < c.toNat
  · exact .inr (.inr (.inr (.inr (.inl (by unfold oneS; rw [if_neg h1, if_neg h2, if_neg h3, if_neg h4, if_pos h5])))))
  · exact .inr (.inr (.inr (.inr (.inr ⟨by omega, by omega, by omega, by unfold oneS; rw [if_neg h1, if_neg h2, if_neg h3, if_neg h4, if_neg h5]⟩))))
theorem unq_esc (d x : UInt8) (r : List UInt8) (k : Nat) (o : List UInt8) (hd : d.toNat ≠ 120) (he : escS d = some x) : unqS (92 :: d :: r) k o = unqS r (k + 2) (o ++ [x]) := by
  rw [unqS.eq_def]
  simp only
  rw [if_neg (by decide), if_neg (by decide), if_neg (by decide), if_pos hd, he]
theorem unq_hex (a b : Nat) (ha : a < 16) (hb : b < 16) (r : List UInt8) (k : Nat) (o : List UInt8) : unqS (92 :: 120 :: hxD a :: hxD b :: r) k o = unqS r (k + 4) (o ++ [UInt8.ofNat (16 * a + b)]) := by
  rw [unqS.eq_def]
  simp only
  rw [if_neg (by decide), if_neg (by decide), if_neg (by decide), if_neg (by decide), hval_hxD a ha, hval_hxD b hb, if_neg (by omega), if_neg (by omega)]
theorem unq_plain (c : UInt8) (r : List UInt8) (k : Nat) (o : List UInt8) (h1 : c.toNat ≠ 34) (h2 : c.toNat ≠ 92) (h3 : 32 ≤ c.toNat) : unqS (c :: r) k o = unqS r (k + 1) (o ++ [c]) := by
  rw [unqS.eq_def]
  simp only
  rw [if_neg h1, if_neg (by omega), if_pos h2]
theorem unq_one (c : UInt8) (r : List UInt8) (k : Nat) (o : List UInt8) : unqS (oneS c ++ r) k o = unqS r (k + (oneS c).length) (o ++ [c]) := by
  have hc := c.toNat_lt
  rcases one_ways c with ⟨h, e⟩ | ⟨rfl, e⟩ | ⟨rfl, e⟩ | ⟨rfl, e⟩ | e | ⟨h1, h2, h3, e⟩
  · rw [e]; exact unq_esc c c r k o (by omega) (esc_mark h)
  · rw [e]; exact unq_esc 110 10 r k o (by decide) (by decide)
  · rw [e]; exact unq_esc 116 9 r k o (by decide) (by decide)
  · rw [e]; exact unq_esc 114 13 r k o (by decide) (by decide)
  · rw [e]
    have := unq_hex (c.toNat / 16) (c.toNat % 16) (by omega) (by omega) r k o
    rw [ofNat_join] at this
    exact this
  · rw [e]; exact unq_plain c r k o h1 h2 h3
theorem unq_end (k : Nat) (o : List UInt8) : unqS [] k o = ([], k, 10) := by rw [unqS.eq_def]
theorem unq_nil (k : Nat) (o : List UInt8) : unqS [92] k o = ([], k + 1, 10) := by
  rw [unqS.eq_def]
  simp only
  rw [if_neg (by decide), if_neg (by decide), if_neg (by decide)]
theorem unq_x (k : Nat) (o : List UInt8) : unqS [92, 120] k o = ([], k + 2, 10) := by
  rw [unqS.eq_def]
  simp only
  rw [if_neg (by decide), if_neg (by decide), if_neg (by decide), if_neg (by decide)]
theorem unq_x1 (a : Nat) (ha : a < 16) (k : Nat) (o : List UInt8) : unqS [92, 120, hxD a] k o = ([], k + 3, 10) := by
  rw [unqS.eq_def]
  simp only
  rw [if_neg (by decide), if_neg (by decide), if_neg (by decide), if_neg (by decide), hval_hxD a ha, if_neg (by omega)]
/-- A byte that is cut off. -/
theorem unq_cut (c : UInt8) (j : Nat) (h : j < (oneS c).length) (k : Nat) (o : List UInt8) : unqS ((oneS c).take j) k o = ([], k + j, 10) := by
  have hc := c.toNat_lt
  have two : ∀ d : UInt8, j < 2 → unqS ([92, d].take j) k o = ([], k + j, 10) := fun d hj => by
    match j, hj with
    | 0, _ => exact unq_end k o
    | 1, _ => exact unq_nil k o
  rcases one_ways c with ⟨_, e⟩ | ⟨_, e⟩ | ⟨_, e⟩ | ⟨_, e⟩ | e | ⟨h1, h2, h3, e⟩
  · rw [e] at h ⊢; exact two _ h
  · rw [e] at h ⊢; exact two _ h
  · rw [e] at h ⊢; exact two _ h
  · rw [e] at h ⊢; exact two _ h
  · rw [e] at h ⊢
    have h4 : j < 4 := h
    match j, h4 with
    | 0, _ => exact unq_end k o
    | 1, _ => exact unq_nil k o
    | 2, _ => exact unq_x k o
    | 3, _ => exact unq_x1 _ (by omega) k o
  · rw [e] at h ⊢
    have h4 : j < 1 := h
    match j, h4 with
    | 0, _ => exact unq_end k o
theorem unq_flat : ∀ (l r : List UInt8) (k : Nat) (o : List UInt8), unqS (l.flatMap oneS ++ 34 :: r) k o = (o ++ l, k + (l.flatMap oneS).length + 1, 0)
  | [], r, k, o => by
    show unqS (34 :: r) k o = _
    rw [unqS.eq_def]
    simp only
    rw [if_pos (by decide)]
    simp
  | c :: l, r, k, o => by
    rw [List.flatMap_cons, List.append_assoc, unq_one, unq_flat l r]
    simp [Nat.add_assoc]
theorem unquote_mark (r : List UInt8) : unquoteS (34 :: r) = unqS r 1 [] := by
  unfold unquoteS
  simp only
  rw [if_neg (by decide)]
theorem quoteS_len (l : List UInt8) : (quoteS l).length = (l.flatMap oneS).length + 2 := by
  show (l.flatMap oneS ++ [34]).length + 1 = _
  rw [List.length_append]; rfl
theorem unquote_quote (l r : List UInt8) : unquoteS (quoteS l ++ r) = (l, (quoteS l).length, 0) := by
  have e : quoteS l ++ r = 34 :: (l.flatMap oneS ++ 34 :: r) := by simp [quoteS]
  rw [e, unquote_mark, unq_flat, quoteS_len]
  simp only [List.nil_append, Prod.mk.injEq, true_and, and_true]
  omega
theorem canon_quote (l : List UInt8) : canonS (quoteS l) = true := by
  have := unquote_quote l []
  rw [List.append_nil] at this
  unfold canonS
  rw [this]
  simp
theorem quote_inj {l r : List UInt8} : quoteS l = quoteS r ↔ l = r := by
  refine ⟨fun h => ?_, fun h => by rw [h]⟩
  have h1 := unquote_quote l []
  have h2 := unquote_quote r []
  rw [h, h2] at h1
  exact (congrArg Prod.fst h1).symm
theorem unq_flat_cut : ∀ (l : List UInt8) (j : Nat) (k : Nat) (o : List UInt8), j ≤ (l.flatMap oneS).length → unqS ((l.flatMap oneS).take j) k o = ([], k + j, 10)
  | [], j, k, o, h => by
    have : j = 0 := by simpa using h
    subst this
    exact unq_end k o
  | c :: l, j, k, o, h => by
    rw [List.flatMap_cons] at h ⊢
    rcases Nat.lt_or_ge j (oneS c).length with h1 | h1
    · rw [List.take_append_of_le_length (by omega)]
      exact unq_cut c j h1 k o
    · obtain ⟨i, rfl⟩ : ∃ i, j = (oneS c).length + i := ⟨j - (oneS c).length, by omega⟩
      rw [List.length_append] at h
      rw [List.take_length_add_append, unq_one, unq_flat_cut l i _ _ (by omega), Nat.add_assoc]
theorem unquote_cut (l : List UInt8) (j : Nat) (h : j < (quoteS l).length) : (unquoteS ((quoteS l).take j)).2 = (j, 10) := by
  cases j with
  | zero => rfl
  | succ j =>
    have hl := quoteS_len l
    have e : (quoteS l).take (j + 1) = 34 :: (l.flatMap oneS).take j := by
      show 34 :: (l.flatMap oneS ++ [34]).take j = _
      rw [List.take_append_of_le_length (by omega)]
    rw [e, unquote_mark, unq_flat_cut l j 1 [] (by omega), Nat.add_comm]
theorem one_len (c : UInt8) : (oneS c).length ≤ 4 := by
  rcases one_ways c with ⟨_, e⟩ | ⟨_, e⟩ | ⟨_, e⟩ | ⟨_, e⟩ | e | ⟨_, _, _, e⟩ <;> rw [e] <;> simp
theorem quote_len (l : List UInt8) : (quoteS l).length ≤ 4 * l.length + 2 := by
  have : ∀ l : List UInt8, (l.flatMap oneS).length ≤ 4 * l.length := by
    intro l
    induction l with
    | nil => simp
    | cons c l ih => have := one_len c; simp only [List.flatMap_cons, List.length_append, List.length_cons]; omega
  have := this l
  rw [quoteS_len]; omega
end Go.Proofs.Ytjefaibnlhnaiaa
