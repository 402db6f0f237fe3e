/- Texts put together: QuotePure Law02Pure MixPure MixWalks MixChunks MixTexts HmPure HmPure2. -/
import Derived.WalkKit
import Derived.Laws.ShiftsVarLaws
import Derived.Test.YtnnlfgfgfegjkaaDoorChecked
import Derived.WalkSpells
import Derived.Outline
import Derived.Lib.Hide
import Derived.Lib.MinMax
import Derived.Lib.ItoaLen

/- Plain facts of layer 2: the order of texts; texts in quotes; hexadecimal digits; names. No program is imported. -/
namespace Go.Proofs.YtnnlfgfgfegjkaaDoor
open Go.RowKit

/-! the order -/
def commonS : List UInt8 → List UInt8 → Nat
  | a :: l, b :: r => if a = b then commonS l r + 1 else 0
  | _, _ => 0
def orderS (a b : List UInt8) : Int := if a = b then 0 else if a < b then -1 else 1
theorem commonS_of : ∀ (k : Nat) (l r : List UInt8), l.take k = r.take k → k ≤ l.length → k ≤ r.length → (k = l.length ∨ k = r.length ∨ l[k]? ≠ r[k]?) → commonS l r = k
  | 0, l, r, _, _, _, h => by
    cases l with
    | nil => rfl
    | cons a l =>
      cases r with
      | nil => rfl
      | cons b r =>
        rcases h with h | h | h
        · simp at h
        · simp at h
        · have : ¬ a = b := by simpa using h
          simp [commonS, this]
  | k + 1, l, r, ht, hl, hr, h => by
    cases l with
    | nil => simp at hl
    | cons a l =>
      cases r with
      | nil => simp at hr
      | cons b r =>
        simp only [List.take_succ_cons, List.cons.injEq] at ht
        simp only [List.length_cons] at hl hr h
        simp only [commonS]
        rw [if_pos ht.1, commonS_of k l r ht.2 (by omega) (by omega) (by
          rcases h with h | h | h
          · exact .inl (by omega)
          · exact .inr (.inl (by omega))
          · exact .inr (.inr (by simpa using h)))]
theorem commonS_le : ∀ (l r : List UInt8), commonS l r ≤ l.length ∧ commonS l r ≤ r.length ∧ l.take (commonS l r) = r.take (commonS l r) ∧ (commonS l r = l.length ∨ commonS l r = r.length ∨ l[commonS l r]? ≠ r[commonS l r]?)
  | [], r => by simp [commonS]
  | _ :: _, [] => by simp [commonS]
  | a :: l, b :: r => by
    obtain ⟨h1, h2, h3, h4⟩ := commonS_le l r
    simp only [commonS]
    by_cases h : a = b
    · rw [if_pos h]
      refine ⟨by simp; omega, by simp; omega, by simp [h, h3], ?_⟩
      rcases h4 with h4 | h4 | h4
      · exact .inl (by simp [h4])
      · exact .inr (.inl (by simp [h4]))
      · exact .inr (.inr (by simpa using h4))
    · rw [if_neg h]
      exact ⟨by simp, by simp, by simp, .inr (.inr (by simpa using h))⟩
/-- By the first place where they are unlike. -/
theorem order_of (l r : List UInt8) : ∀ k, l.take k = r.take k → k ≤ l.length → k ≤ r.length →
    (k = l.length → k = r.length → orderS l r = 0) ∧ (k = l.length → ¬ k = r.length → orderS l r = -1) ∧ (¬ k = l.length → k = r.length → orderS l r = 1) ∧
    (∀ (h1 : k < l.length) (h2 : k < r.length), (l[k] < r[k] → orderS l r = -1) ∧ (r[k] < l[k] → orderS l r = 1)) := by
  intro k
  induction k generalizing l r with
  | zero =>
    intro _ _ _
    cases l with
    | nil =>
      cases r with
      | nil => simp [orderS]
      | cons b r => simp [orderS]
    | cons a l =>
      cases r with
      | nil => simp [orderS]
      | cons b r =>
        simp only [List.length_cons, orderS]
        refine ⟨by omega, by omega, by omega, fun _ _ => ⟨fun h => ?_, fun h => ?_⟩⟩
        · have h' : a < b := by simpa using h
          rw [if_neg (by simp; intro e; rw [e] at h'; exact absurd h' (UInt8.lt_irrefl _)), if_pos (by rw [List.cons_lt_cons_iff]; exact .inl h')]
        · have h' : b < a := by simpa using h
          rw [if_neg (by simp; intro e; rw [e] at h'; exact absurd h' (UInt8.lt_irrefl _)), if_neg (by
            rw [List.cons_lt_cons_iff]
            rintro (h2 | ⟨h2, _⟩)
            · rw [UInt8.lt_iff_toNat_lt] at h' h2; omega
            · rw [h2] at h'; exact absurd h' (UInt8.lt_irrefl _))]
  | succ k ih =>
    intro ht hl hr
    cases l with
    | nil => simp at hl
    | cons a l =>
      cases r with
      | nil => simp at hr
      | cons b r =>
        simp only [List.take_succ_cons, List.cons.injEq] at ht
        obtain ⟨rfl, ht⟩ := ht
        have e : orderS (a :: l) (a :: r) = orderS l r := by
          unfold orderS
          have h1 : (a :: l = a :: r) ↔ l = r := by simp
          have h2 : (a :: l < a :: r) ↔ l < r := by
            rw [List.cons_lt_cons_iff]
            exact ⟨fun h => by rcases h with h | h; exact absurd h (UInt8.lt_irrefl _); exact h.2, fun h => .inr ⟨rfl, h⟩⟩
          simp only [h1, h2]
        rw [e]
        have := ih l r ht (by simpa using hl) (by simpa using hr)
        simp only [List.length_cons, Nat.add_right_cancel_iff]
        refine ⟨this.1, this.2.1, this.2.2.1, fun h1 h2 => ?_⟩
        have := this.2.2.2 (by omega) (by omega)
        simpa using this

/-! quotes and digits -/
def hxD (n : Nat) : UInt8 := if n < 10 then UInt8.ofNat (48 + n) else UInt8.ofNat (87 + n)
def oneS (c : UInt8) : List UInt8 :=
  if c.toNat = 34 ∨ c.toNat = 92 then [92, c] else if c.toNat = 10 then [92, 110] else if c.toNat = 9 then [92, 116] else if c.toNat = 13 then [92, 114]
  else if c.toNat < 32 ∨ 126 < c.toNat then [92, 120, hxD (c.toNat / 16), hxD (c.toNat % 16)] else [c]
def quoteS (l : List UInt8) : List UInt8 := 34 :: (l.flatMap oneS ++ [34])
def hexS (l : List UInt8) : List UInt8 := l.flatMap fun c => [hxD (c.toNat / 16), hxD (c.toNat % 16)]
def hval (c : UInt8) (great : Bool) : Nat :=
  if 48 ≤ c.toNat ∧ c.toNat ≤ 57 then c.toNat - 48 else if 97 ≤ c.toNat ∧ c.toNat ≤ 102 then c.toNat - 87 else if great = true ∧ 65 ≤ c.toNat ∧ c.toNat ≤ 70 then c.toNat - 55 else 16
def escS (c : UInt8) : Option UInt8 :=
  if c.toNat = 34 ∨ c.toNat = 92 ∨ c.toNat = 47 then some c else if c.toNat = 110 then some 10 else if c.toNat = 116 then some 9 else if c.toNat = 114 then some 13 else none
/-- What stands behind the first mark: what was read till here, the place, and what comes of the rest: the text, the place behind it or of what breaks it, the error. -/
def unqS : List UInt8 → Nat → List UInt8 → List UInt8 × Nat × Int
  | [], at_, _ => ([], at_, 10)
  | c :: r, at_, out =>
    if c.toNat = 34 then (out, at_ + 1, 0)
    else if c.toNat < 32 then ([], at_, 2)
    else if c.toNat ≠ 92 then unqS r (at_ + 1) (out ++ [c])
    else match r with
      | [] => ([], at_ + 1, 10)
      | d :: r =>
        if d.toNat ≠ 120 then (match escS d with
          | none => ([], at_ + 1, 2)
          | some x => unqS r (at_ + 2) (out ++ [x]))
        else match r with
          | [] => ([], at_ + 2, 10)
          | h1 :: r => if 15 < hval h1 true then ([], at_ + 2, 2) else match r with
            | [] => ([], at_ + 3, 10)
            | h2 :: r => if 15 < hval h2 true then ([], at_ + 3, 2) else unqS r (at_ + 4) (out ++ [UInt8.ofNat (16 * hval h1 true + hval h2 true)])
def unquoteS (l : List UInt8) : List UInt8 × Nat × Int :=
  match l with
  | [] => ([], 0, 10)
  | c :: r => if c.toNat ≠ 34 then ([], 0, 2) else unqS r 1 []
def canonS (l : List UInt8) : Bool := (unquoteS l).2.2 == 0 && (unquoteS l).2.1 == l.length && quoteS (unquoteS l).1 == l
def letS (c : UInt8) : Bool := decide (97 ≤ c.toNat ∧ c.toNat ≤ 122 ∨ 65 ≤ c.toNat ∧ c.toNat ≤ 90 ∨ c.toNat = 95)
def digS (c : UInt8) : Bool := decide (48 ≤ c.toNat ∧ c.toNat ≤ 57)
def nameS (l : List UInt8) : Bool := match l with | [] => false | c :: r => letS c && r.all fun c => letS c || digS c
def unhxS : List UInt8 → List UInt8 → List UInt8 × Int
  | [], out => (out, 0)
  | [_], _ => ([], 2)
  | a :: b :: r, out => if 15 < hval a false ∨ 15 < hval b false then ([], 2) else unhxS r (out ++ [UInt8.ofNat (16 * hval a false + hval b false)])
def unhexS (l : List UInt8) : List UInt8 × Int := if l.length % 2 = 1 then ([], 2) else unhxS l []
end Go.Proofs.YtnnlfgfgfegjkaaDoor

/- Plain facts that layer 2's laws ask: a total order; what is quoted is unquoted; digits there and back; cut off. No program is imported. -/
namespace Go.Proofs.YtnnlfgfgfegjkaaDoor
open Go.RowKit

/-! the order -/
theorem lt_irrefl_l (a : List UInt8) : ¬ a < a := List.lt_irrefl a
theorem orderS_range (a b : List UInt8) : orderS a b = -1 ∨ orderS a b = 0 ∨ orderS a b = 1 := by
  unfold orderS
  split
  · exact .inr (.inl rfl)
  · split
    · exact .inl rfl
    · exact .inr (.inr rfl)
theorem orderS_zero (a b : List UInt8) : orderS a b = 0 ↔ a = b := by
  unfold orderS
  split
  · simp [*]
  · split <;> simp [*]
theorem orderS_less (a b : List UInt8) : orderS a b = -1 ↔ a < b := by
  unfold orderS
  split
  · rename_i h; subst h; simp [lt_irrefl_l]
  · split <;> simp [*]
theorem total_l (a b : List UInt8) (h : ¬ a = b) : a < b ∨ b < a := by
  rcases List.le_total a b with h1 | h1
  · rcases Decidable.em (a < b) with h2 | h2
    · exact .inl h2
    · exact absurd (List.le_antisymm h1 (List.not_lt.1 h2)) h
  · rcases Decidable.em (b < a) with h2 | h2
    · exact .inr h2
    · exact absurd (List.le_antisymm (List.not_lt.1 h2) h1) h
theorem orderS_neg (a b : List UInt8) : orderS a b = - orderS b a := by
  by_cases h : a = b
  · subst h
    rw [(orderS_zero a a).2 rfl]; rfl
  · rcases total_l a b h with h1 | h1
    · have h2 : ¬ b < a := fun h2 => lt_irrefl_l a (List.lt_trans h1 h2)
      have := orderS_range b a
      rw [(orderS_less a b).2 h1]
      have h3 := orderS_zero b a
      have h4 := orderS_less b a
      rcases this with e | e | e
      · exact absurd (h4.1 e) h2
      · exact absurd (h3.1 e).symm h
      · rw [e]
    · have h2 : ¬ a < b := fun h2 => lt_irrefl_l a (List.lt_trans h2 h1)
      have := orderS_range a b
      rw [(orderS_less b a).2 h1]
      have h3 := orderS_zero a b
      have h4 := orderS_less a b
      rcases this with e | e | e
      · exact absurd (h4.1 e) h2
      · exact absurd (h3.1 e) h
      · rw [e]; rfl
theorem orderS_trans (a b c : List UInt8) (h1 : orderS a b ≤ 0) (h2 : orderS b c ≤ 0) : orderS a c ≤ 0 ∧ (orderS a b = 0 ∧ orderS b c = 0 ∨ orderS a c < 0) := by
  have le : ∀ x y, orderS x y ≤ 0 → x = y ∨ x < y := fun x y h => by
    rcases orderS_range x y with e | e | e
    · exact .inr ((orderS_less x y).1 e)
    · exact .inl ((orderS_zero x y).1 e)
    · omega
  rcases le a b h1 with rfl | e1
  · have e := (orderS_zero a a).2 rfl
    refine ⟨h2, ?_⟩
    rcases orderS_range a c with e2 | e2 | e2
    · exact .inr (by omega)
    · exact .inl ⟨e, e2⟩
    · omega
  · rcases le b c h2 with rfl | e2
    · have := (orderS_less a b).2 e1
      exact ⟨h1, .inr (by omega)⟩
    · have := (orderS_less a c).2 (List.lt_trans e1 e2)
      exact ⟨by omega, .inr (by omega)⟩

/-! digits -/
theorem hxD_nat (n : Nat) (h : n < 16) : (hxD n).toNat = if n < 10 then 48 + n else 87 + n := by
  unfold hxD
  split
  · rw [UInt8.toNat_ofNat_of_lt' (by simp only [UInt8.size]; omega)]
  · rw [UInt8.toNat_ofNat_of_lt' (by simp only [UInt8.size]; omega)]
theorem hval_hxD (n : Nat) (h : n < 16) (g : Bool) : hval (hxD n) g = n := by
  unfold hval
  rw [hxD_nat n h]
  by_cases h1 : n < 10
  · rw [if_pos h1, if_pos (by omega)]; omega
  · rw [if_neg h1, if_neg (by omega), if_pos (by omega)]; omega
theorem ofNat_join (c : UInt8) : UInt8.ofNat (16 * (c.toNat / 16) + c.toNat % 16) = c := by
  rw [Nat.div_add_mod]; simp
theorem unhx_hex : ∀ (l out : List UInt8), unhxS (hexS l) out = (out ++ l, 0)
  | [], out => by simp [hexS, unhxS]
  | c :: l, out => by
    have hc := c.toNat_lt
    show unhxS (hxD (c.toNat / 16) :: hxD (c.toNat % 16) :: hexS l) out = _
    rw [unhxS, hval_hxD _ (by omega), hval_hxD _ (by omega), if_neg (by omega), ofNat_join, unhx_hex l]
    simp
theorem hex_len : ∀ l : List UInt8, (hexS l).length = 2 * l.length
  | [] => rfl
  | c :: l => by
    show (hxD (c.toNat / 16) :: hxD (c.toNat % 16) :: hexS l).length = _
    simp [hex_len l]; omega
theorem unhex_hex (l : List UInt8) : unhexS (hexS l) = (l, 0) := by
  unfold unhexS
  rw [hex_len, if_neg (by omega), unhx_hex]; rfl

/-! quotes -/
theorem esc_mark {c : UInt8} (h : c.toNat = 34 ∨ c.toNat = 92) : escS c = some c := by unfold escS; rw [if_pos (by omega)]
/-- The ways that a byte stands within quotes. -/
theorem one_ways (c : UInt8) : ((c.toNat = 34 ∨ c.toNat = 92) ∧ oneS c = [92, c]) ∨ (c = 10 ∧ oneS c = [92, 110]) ∨ (c = 9 ∧ oneS c = [92, 116]) ∨ (c = 13 ∧ oneS c = [92, 114])
    ∨ oneS c = [92, 120, hxD (c.toNat / 16), hxD (c.toNat % 16)] ∨ (c.toNat ≠ 34 ∧ c.toNat ≠ 92 ∧ 32 ≤ c.toNat ∧ oneS c = [c]) := by
  by_cases h1 : c.toNat = 34 ∨ c.toNat = 92
  · exact .inl ⟨h1, by unfold oneS; rw [if_pos h1]⟩
  by_cases h2 : c.toNat = 10
  · exact .inr (.inl ⟨UInt8.toNat_inj.1 h2, by unfold oneS; rw [if_neg h1, if_pos h2]⟩)
  by_cases h3 : c.toNat = 9
  · exact .inr (.inr (.inl ⟨UInt8.toNat_inj.1 h3, by unfold oneS; rw [if_neg h1, if_neg h2, if_pos h3]⟩))
  by_cases h4 : c.toNat = 13
  · exact .inr (.inr (.inr (.inl ⟨UInt8.toNat_inj.1 h4, by unfold oneS; rw [if_neg h1, if_neg h2, if_neg h3, if_pos h4]⟩)))
  by_cases h5 : c.toNat < 32 ∨ 126 < c.toNat
  · exact .inr (.inr (.inr (.inr (.inl (by unfold oneS; rw [if_neg h1, if_neg h2, if_neg h3, if_neg h4, if_pos h5])))))
  · exact .inr (.inr (.inr (.inr (.inr ⟨by omega, by omega, by omega, by unfold oneS; rw [if_neg h1, if_neg h2, if_neg h3, if_neg h4, if_neg h5]⟩))))
theorem unq_esc (d x : UInt8) (r : List UInt8) (k : Nat) (o : List UInt8) (hd : d.toNat ≠ 120) (he : escS d = some x) : unqS (92 :: d :: r) k o = unqS r (k + 2) (o ++ [x]) := by
  rw [unqS.eq_def]
  simp only
  rw [if_neg (by decide), if_neg (by decide), if_neg (by decide), if_pos hd, he]
theorem unq_hex (a b : Nat) (ha : a < 16) (hb : b < 16) (r : List UInt8) (k : Nat) (o : List UInt8) : unqS (92 :: 120 :: hxD a :: hxD b :: r) k o = unqS r (k + 4) (o ++ [UInt8.ofNat (16 * a + b)]) := by
  rw [unqS.eq_def]
  simp only
  rw [if_neg (by decide), if_neg (by decide), if_neg (by decide), if_neg (by decide), hval_hxD a ha, hval_hxD b hb, if_neg (by omega), if_neg (by omega)]
theorem unq_plain (c : UInt8) (r : List UInt8) (k : Nat) (o : List UInt8) (h1 : c.toNat ≠ 34) (h2 : c.toNat ≠ 92) (h3 : 32 ≤ c.toNat) : unqS (c :: r) k o = unqS r (k + 1) (o ++ [c]) := by
  rw [unqS.eq_def]
  simp only
  rw [if_neg h1, if_neg (by omega), if_pos h2]
theorem unq_one (c : UInt8) (r : List UInt8) (k : Nat) (o : List UInt8) : unqS (oneS c ++ r) k o = unqS r (k + (oneS c).length) (o ++ [c]) := by
  have hc := c.toNat_lt
  rcases one_ways c with ⟨h, e⟩ | ⟨rfl, e⟩ | ⟨rfl, e⟩ | ⟨rfl, e⟩ | e | ⟨h1, h2, h3, e⟩
  · rw [e]; exact unq_esc c c r k o (by omega) (esc_mark h)
  · rw [e]; exact unq_esc 110 10 r k o (by decide) (by decide)
  · rw [e]; exact unq_esc 116 9 r k o (by decide) (by decide)
  · rw [e]; exact unq_esc 114 13 r k o (by decide) (by decide)
  · rw [e]
    have := unq_hex (c.toNat / 16) (c.toNat % 16) (by omega) (by omega) r k o
    rw [ofNat_join] at this
    exact this
  · rw [e]; exact unq_plain c r k o h1 h2 h3
theorem unq_end (k : Nat) (o : List UInt8) : unqS [] k o = ([], k, 10) := by rw [unqS.eq_def]
theorem unq_nil (k : Nat) (o : List UInt8) : unqS [92] k o = ([], k + 1, 10) := by
  rw [unqS.eq_def]
  simp only
  rw [if_neg (by decide), if_neg (by decide), if_neg (by decide)]
theorem unq_x (k : Nat) (o : List UInt8) : unqS [92, 120] k o = ([], k + 2, 10) := by
  rw [unqS.eq_def]
  simp only
  rw [if_neg (by decide), if_neg (by decide), if_neg (by decide), if_neg (by decide)]
theorem unq_x1 (a : Nat) (ha : a < 16) (k : Nat) (o : List UInt8) : unqS [92, 120, hxD a] k o = ([], k + 3, 10) := by
  rw [unqS.eq_def]
  simp only
  rw [if_neg (by decide), if_neg (by decide), if_neg (by decide), if_neg (by decide), hval_hxD a ha, if_neg (by omega)]
/-- A byte that is cut off. -/
theorem unq_cut (c : UInt8) (j : Nat) (h : j < (oneS c).length) (k : Nat) (o : List UInt8) : unqS ((oneS c).take j) k o = ([], k + j, 10) := by
  have hc := c.toNat_lt
  have two : ∀ d : UInt8, j < 2 → unqS ([92, d].take j) k o = ([], k + j, 10) := fun d hj => by
    match j, hj with
    | 0, _ => exact unq_end k o
    | 1, _ => exact unq_nil k o
  rcases one_ways c with ⟨_, e⟩ | ⟨_, e⟩ | ⟨_, e⟩ | ⟨_, e⟩ | e | ⟨h1, h2, h3, e⟩
  · rw [e] at h ⊢; exact two _ h
  · rw [e] at h ⊢; exact two _ h
  · rw [e] at h ⊢; exact two _ h
  · rw [e] at h ⊢; exact two _ h
  · rw [e] at h ⊢
    have h4 : j < 4 := h
    match j, h4 with
    | 0, _ => exact unq_end k o
    | 1, _ => exact unq_nil k o
    | 2, _ => exact unq_x k o
    | 3, _ => exact unq_x1 _ (by omega) k o
  · rw [e] at h ⊢
    have h4 : j < 1 := h
    match j, h4 with
    | 0, _ => exact unq_end k o
theorem unq_flat : ∀ (l r : List UInt8) (k : Nat) (o : List UInt8), unqS (l.flatMap oneS ++ 34 :: r) k o = (o ++ l, k + (l.flatMap oneS).length + 1, 0)
  | [], r, k, o => by
    show unqS (34 :: r) k o = _
    rw [unqS.eq_def]
    simp only
    rw [if_pos (by decide)]
    simp
  | c :: l, r, k, o => by
    rw [List.flatMap_cons, List.append_assoc, unq_one, unq_flat l r]
    simp [Nat.add_assoc]
theorem unquote_mark (r : List UInt8) : unquoteS (34 :: r) = unqS r 1 [] := by
  unfold unquoteS
  simp only
  rw [if_neg (by decide)]
theorem quoteS_len (l : List UInt8) : (quoteS l).length = (l.flatMap oneS).length + 2 := by
  show (l.flatMap oneS ++ [34]).length + 1 = _
  rw [List.length_append]; rfl
theorem unquote_quote (l r : List UInt8) : unquoteS (quoteS l ++ r) = (l, (quoteS l).length, 0) := by
  have e : quoteS l ++ r = 34 :: (l.flatMap oneS ++ 34 :: r) := by simp [quoteS]
  rw [e, unquote_mark, unq_flat, quoteS_len]
  simp only [List.nil_append, Prod.mk.injEq, true_and, and_true]
  omega
theorem canon_quote (l : List UInt8) : canonS (quoteS l) = true := by
  have := unquote_quote l []
  rw [List.append_nil] at this
  unfold canonS
  rw [this]
  simp
theorem quote_inj {l r : List UInt8} : quoteS l = quoteS r ↔ l = r := by
  refine ⟨fun h => ?_, fun h => by rw [h]⟩
  have h1 := unquote_quote l []
  have h2 := unquote_quote r []
  rw [h, h2] at h1
  exact (congrArg Prod.fst h1).symm
theorem unq_flat_cut : ∀ (l : List UInt8) (j : Nat) (k : Nat) (o : List UInt8), j ≤ (l.flatMap oneS).length → unqS ((l.flatMap oneS).take j) k o = ([], k + j, 10)
  | [], j, k, o, h => by
    have : j = 0 := by simpa using h
    subst this
    exact unq_end k o
  | c :: l, j, k, o, h => by
    rw [List.flatMap_cons] at h ⊢
    rcases Nat.lt_or_ge j (oneS c).length with h1 | h1
    · rw [List.take_append_of_le_length (by omega)]
      exact unq_cut c j h1 k o
    · obtain ⟨i, rfl⟩ : ∃ i, j = (oneS c).length + i := ⟨j - (oneS c).length, by omega⟩
      rw [List.length_append] at h
      rw [List.take_length_add_append, unq_one, unq_flat_cut l i _ _ (by omega), Nat.add_assoc]
theorem unquote_cut (l : List UInt8) (j : Nat) (h : j < (quoteS l).length) : (unquoteS ((quoteS l).take j)).2 = (j, 10) := by
  cases j with
  | zero => rfl
  | succ j =>
    have hl := quoteS_len l
    have e : (quoteS l).take (j + 1) = 34 :: (l.flatMap oneS).take j := by
      show 34 :: (l.flatMap oneS ++ [34]).take j = _
      rw [List.take_append_of_le_length (by omega)]
    rw [e, unquote_mark, unq_flat_cut l j 1 [] (by omega), Nat.add_comm]
theorem one_len (c : UInt8) : (oneS c).length ≤ 4 := by
  rcases one_ways c with ⟨_, e⟩ | ⟨_, e⟩ | ⟨_, e⟩ | ⟨_, e⟩ | e | ⟨_, _, _, e⟩ <;> rw [e] <;> simp
theorem quote_len (l : List UInt8) : (quoteS l).length ≤ 4 * l.length + 2 := by
  have : ∀ l : List UInt8, (l.flatMap oneS).length ≤ 4 * l.length := by
    intro l
    induction l with
    | nil => simp
    | cons c l ih => have := one_len c; simp only [List.flatMap_cons, List.length_append, List.length_cons]; omega
  have := this l
  rw [quoteS_len]; omega
end Go.Proofs.YtnnlfgfgfegjkaaDoor

/- Plain facts on whole numbers below 2^64, as package mix takes them: steps and ends and that they can be undone; the lowest bits; chunks; the words of a text. No program is imported. -/
namespace Go.Proofs.YtnnlfgfgfegjkaaDoor
open Go.RowKit


/-- two to the 64 -/
abbrev M64 : Nat := 18446744073709551616

def stepT (a : Nat) : Nat := a * 11400714819323198485 % 18446744073709551616
def rotT (t : Nat) : Nat := t * 2147483648 % 18446744073709551616 ||| t / 8589934592
def stepN (h x : Nat) : Nat := (rotT (stepT (h ^^^ x)) + 15485907386658061715) % 18446744073709551616
def foldN (h : Nat) : Nat := h ^^^ h / 4294967296
def endN (h : Nat) : Nat := foldN (foldN h * 15485907386658061715 % 18446744073709551616)

theorem xor_lt {a b : Nat} (ha : a < 18446744073709551616) (hb : b < 18446744073709551616) : a ^^^ b < 18446744073709551616 := Nat.xor_lt_two_pow (n := 64) ha hb
theorem or_lt {a b : Nat} (ha : a < 18446744073709551616) (hb : b < 18446744073709551616) : a ||| b < 18446744073709551616 := Nat.or_lt_two_pow (n := 64) ha hb
theorem stepN_lt (h x : Nat) : stepN h x < 18446744073709551616 := Nat.mod_lt _ (by decide)
theorem foldN_lt {h : Nat} (hh : h < 18446744073709551616) : foldN h < 18446744073709551616 := xor_lt hh (Nat.lt_of_le_of_lt (Nat.div_le_self _ _) hh)
theorem endN_lt (h : Nat) : endN h < 18446744073709551616 := foldN_lt (Nat.mod_lt _ (by decide))

theorem foldN_foldN {h : Nat} (hh : h < 18446744073709551616) : foldN (foldN h) = h := by
  have e : ∀ n : Nat, n / 4294967296 = n >>> 32 := fun n => by rw [Nat.shiftRight_eq_div_pow]
  have z : h >>> 32 >>> 32 = 0 := by rw [← Nat.shiftRight_add, Nat.shiftRight_eq_div_pow]; exact Nat.div_eq_of_lt hh
  unfold foldN
  rw [e, e, Nat.shiftRight_xor_distrib, z, Nat.xor_zero, Nat.xor_assoc, Nat.xor_self, Nat.xor_zero]

theorem foldN_inj {a b : Nat} (ha : a < 18446744073709551616) (hb : b < 18446744073709551616) (h : foldN a = foldN b) : a = b := by
  rw [← foldN_foldN ha, ← foldN_foldN hb, h]

theorem mul_inj (c d : Nat) (hcd : c * d % 18446744073709551616 = 1) {a b : Nat} (ha : a < 18446744073709551616) (hb : b < 18446744073709551616) (h : a * c % 18446744073709551616 = b * c % 18446744073709551616) : a = b := by
  have back : ∀ n : Nat, n < 18446744073709551616 → (n * c % 18446744073709551616) * d % 18446744073709551616 = n := fun n hn => by
    rw [Nat.mod_mul_mod, Nat.mul_assoc, Nat.mul_mod, hcd, Nat.mul_one, Nat.mod_mod, Nat.mod_eq_of_lt hn]
  rw [← back a ha, ← back b hb, h]

theorem rotT_eq {t : Nat} (ht : t < 18446744073709551616) : rotT t = 2147483648 * (t % 8589934592) + t / 8589934592 := by
  unfold rotT
  have e : t * 2147483648 % 18446744073709551616 = 2 ^ 31 * (t % 8589934592) := by
    show _ = 2147483648 * _
    omega
  rw [e, ← Nat.two_pow_add_eq_or_of_lt (i := 31) (by omega)]

theorem rotT_inj {a b : Nat} (ha : a < 18446744073709551616) (hb : b < 18446744073709551616) (h : rotT a = rotT b) : a = b := by
  rw [rotT_eq ha, rotT_eq hb] at h
  have q1 : a / 8589934592 = b / 8589934592 := by omega
  have q2 : a % 8589934592 = b % 8589934592 := by omega
  rw [← Nat.div_add_mod a 8589934592, ← Nat.div_add_mod b 8589934592, q1, q2]

theorem rotT_lt {a : Nat} (ha : a < 18446744073709551616) : rotT a < 18446744073709551616 := by
  rw [rotT_eq ha]
  omega

theorem stepN_inj {a b : Nat} (ha : a < 18446744073709551616) (hb : b < 18446744073709551616)
    (h : (rotT (stepT a) + 15485907386658061715) % 18446744073709551616 = (rotT (stepT b) + 15485907386658061715) % 18446744073709551616) : a = b := by
  have l : ∀ n, stepT n < 18446744073709551616 := fun n => Nat.mod_lt _ (by decide)
  have h1 := rotT_lt (l a)
  have h2 := rotT_lt (l b)
  have h3 : rotT (stepT a) = rotT (stepT b) := by omega
  have h4 := rotT_inj (l a) (l b) h3
  exact mul_inj 11400714819323198485 17428512612931826493 (by decide) ha hb h4

theorem xor_left_inj' {a b c : Nat} (h : a ^^^ b = a ^^^ c) : b = c := by
  have : a ^^^ (a ^^^ b) = a ^^^ (a ^^^ c) := by rw [h]
  rwa [← Nat.xor_assoc, ← Nat.xor_assoc, Nat.xor_self, Nat.zero_xor, Nat.zero_xor] at this

theorem step_right {h x y : Nat} (hh : h < 18446744073709551616) (hx : x < 18446744073709551616) (hy : y < 18446744073709551616) : stepN h x = stepN h y ↔ x = y :=
  ⟨fun e => xor_left_inj' (stepN_inj (xor_lt hh hx) (xor_lt hh hy) e), fun e => by rw [e]⟩
theorem step_left {g h x : Nat} (hg : g < 18446744073709551616) (hh : h < 18446744073709551616) (hx : x < 18446744073709551616) : stepN g x = stepN h x ↔ g = h :=
  ⟨fun e => by
    have := stepN_inj (xor_lt hg hx) (xor_lt hh hx) e
    rw [Nat.xor_comm g, Nat.xor_comm h] at this
    exact xor_left_inj' this, fun e => by rw [e]⟩
theorem end_inj {g h : Nat} (hg : g < 18446744073709551616) (hh : h < 18446744073709551616) : endN g = endN h ↔ g = h :=
  ⟨fun e => by
    have l : ∀ n : Nat, n % 18446744073709551616 < 18446744073709551616 := fun n => Nat.mod_lt _ (by decide)
    have h1 := foldN_inj (l _) (l _) e
    exact foldN_inj hg hh (mul_inj 15485907386658061715 14982988110149298331 (by decide) (foldN_lt hg) (foldN_lt hh) h1), fun e => by rw [e]⟩

/-- the lowest k bits -/
theorem and_mask (h k : Nat) : h &&& (2 ^ k - 1) = h % 2 ^ k := Nat.and_two_pow_sub_one_eq_mod h k

/-- one bit more -/
theorem low_bit (h i : Nat) : h % 2 ^ i ||| (h &&& 2 ^ i) = h % 2 ^ (i + 1) := by
  apply Nat.eq_of_testBit_eq
  intro j
  simp only [Nat.testBit_or, Nat.testBit_mod_two_pow, Nat.testBit_and, Nat.testBit_two_pow]
  by_cases h1 : j < i
  · have : i ≠ j := by omega
    simp [h1, show j < i + 1 by omega, this]
  · by_cases h2 : i = j
    · subst h2; simp
    · simp [h1, h2, show ¬ j < i + 1 by omega]

/-- one chunk more -/
theorem low_chunk (h i : Nat) : h % 2 ^ (5 * i) ||| (h / 2 ^ (5 * i) % 32) * 2 ^ (5 * i) = h % 2 ^ (5 * (i + 1)) := by
  have e : h % 2 ^ (5 * (i + 1)) = 2 ^ (5 * i) * (h / 2 ^ (5 * i) % 32) + h % 2 ^ (5 * i) := by
    rw [show 5 * (i + 1) = 5 * i + 5 by omega, Nat.pow_add, Nat.mod_mul]
    show _ + _ * (_ % 32) = _
    omega
  rw [e, Nat.two_pow_add_eq_or_of_lt (Nat.mod_lt _ (Nat.two_pow_pos _)), Nat.or_comm, Nat.mul_comm]

/-- a chunk of narrowed bits -/
theorem chunk_low_lt (h n l : Nat) (hl : l < n) : h % 2 ^ (5 * n) / 2 ^ (5 * l) % 32 = h / 2 ^ (5 * l) % 32 := by
  obtain ⟨d, rfl⟩ : ∃ d, n = l + 1 + d := ⟨n - (l + 1), by omega⟩
  rw [show 5 * (l + 1 + d) = 5 * l + (5 + 5 * d) by omega, Nat.pow_add, Nat.mod_mul_right_div_self, Nat.pow_add]
  exact Nat.mod_mul_right_mod _ 32 _

theorem chunk_low_ge (h n l : Nat) (hl : n ≤ l) : h % 2 ^ (5 * n) / 2 ^ (5 * l) % 32 = 0 := by
  have : h % 2 ^ (5 * n) < 2 ^ (5 * l) := Nat.lt_of_lt_of_le (Nat.mod_lt _ (Nat.two_pow_pos _)) (Nat.pow_le_pow_right (by decide) (by omega))
  rw [Nat.div_eq_of_lt this]

/-! ### the words of a text -/

/-- the first k bytes of l, the first one highest of eight -/
def wd (l : List UInt8) : Nat → Nat
  | 0 => 0
  | k + 1 => wd l k ||| (l.getD k 0).toNat * 2 ^ (8 * (7 - k))

/-- the sum behind j words -/
def hs (seed : Nat) (l : List UInt8) : Nat → Nat
  | 0 => stepN seed l.length
  | j + 1 => stepN (hs seed l j) (wd (l.drop (8 * j)) (min (l.length - 8 * j) 8))

def txtN (seed : Nat) (l : List UInt8) : Nat := endN (hs seed l ((l.length + 7) / 8))

/-- the sum behind j of these words -/
def ws (seed : Nat) (l : List Nat) : Nat → Nat
  | 0 => stepN seed l.length
  | j + 1 => stepN (ws seed l j) (l.getD j 0)

def wordsN (seed : Nat) (l : List Nat) : Nat := endN (ws seed l l.length)

theorem byte_lt (c : UInt8) (k : Nat) (_ : k ≤ 7) : c.toNat * 2 ^ (8 * (7 - k)) < 18446744073709551616 := by
  have hc : c.toNat < 256 := c.toNat_lt
  calc c.toNat * 2 ^ (8 * (7 - k)) < 256 * 2 ^ (8 * (7 - k)) := Nat.mul_lt_mul_of_pos_right hc (Nat.two_pow_pos _)
    _ ≤ 256 * 2 ^ 56 := Nat.mul_le_mul_left _ (Nat.pow_le_pow_right (by decide) (by omega))
    _ = 18446744073709551616 := by decide

theorem wd_lt (l : List UInt8) : ∀ k, k ≤ 8 → wd l k < 18446744073709551616
  | 0, _ => Nat.zero_lt_succ _
  | k + 1, h => or_lt (wd_lt l k (by omega)) (byte_lt _ k (by omega))

theorem hs_lt (seed : Nat) (l : List UInt8) : ∀ j, hs seed l j < 18446744073709551616
  | 0 => stepN_lt _ _
  | _ + 1 => stepN_lt _ _

theorem ws_lt (seed : Nat) (l : List Nat) : ∀ j, ws seed l j < 18446744073709551616
  | 0 => stepN_lt _ _
  | _ + 1 => stepN_lt _ _
end Go.Proofs.YtnnlfgfgfegjkaaDoor

/- The contracts of package mix's steps and ends, and of the document's own: each computes only. -/
namespace Go.Proofs.YtnnlfgfgfegjkaaDoor
open Go.RowKit

theorem u64_mul_nat (a c : Nat) : IntKind.u64.wrap ((a : Int) * (c : Int)) = ((a * c % 18446744073709551616 : Nat) : Int) := by
  rw [IntKind.wrap_u64, ← Int.natCast_mul]; omega
theorem u64_add_nat (a c : Nat) : IntKind.u64.wrap ((a : Int) + (c : Int)) = (((a + c) % 18446744073709551616 : Nat) : Int) := by
  rw [IntKind.wrap_u64]; omega
theorem div_nat (a c : Nat) : (a : Int) / (c : Int) = ((a / c : Nat) : Int) := (Int.natCast_ediv a c).symm
theorem ret_u64 {x y : Int} (h : x = y) : Ending.returned (.int .u64 x) = .returned (.int .u64 y) := by rw [h]
theorem ret_i64 {x y : Int} (h : x = y) : Ending.returned (.int .i64 x) = .returned (.int .i64 y) := by rw [h]

/-- a rotation by 31, as the walk spells it -/
theorem rot_nat (t : Nat) (ht : t < 18446744073709551616) :
    bits .or .u64 (IntKind.u64.wrap ((t : Int) * 2147483648)) ((t : Int) / 8589934592) = (rotT t : Int) := by
  have e1 := u64_mul_nat t 2147483648
  have e2 := div_nat t 8589934592
  have e3 := bits_or_u64_nat (t * 2147483648 % 18446744073709551616) (t / 8589934592) (Nat.mod_lt _ (by decide)) (by omega)
  rw [← e1, ← e2] at e3
  exact e3
theorem fold_nat (h : Nat) (hh : h < 18446744073709551616) : bits .xor .u64 (h : Int) ((h : Int) / 4294967296) = (foldN h : Int) :=
  xorShift_u64 h 4294967296 hh

theorem mix_rotl (x : Nat) (hx : x < 18446744073709551616) (w : World) :
    Calls Tryd.prog 108 #[.int .u64 (x : Int), .int .i64 31] w fun e w' => e = .returned (.int .u64 (rotT x : Int)) ∧ w = w' := by
  have H := Lib.hid (rot_nat x hx)
  have hb : bits BinOp.and IntKind.u64 31 63 = 31 := by decide
  go_enter Tryd.func108, Tryd.ntmps108
  go_wp2
  go_ret
  exact ⟨ret_u64 H.out, rfl⟩

theorem mix_fold (h : Nat) (hh : h < 18446744073709551616) (w : World) :
    Calls Tryd.prog 109 #[.int .u64 (h : Int)] w fun e w' => e = .returned (.int .u64 (foldN h : Int)) ∧ w = w' := by
  have H := Lib.hid (fold_nat h hh)
  go_enter Tryd.func109, Tryd.ntmps109
  go_wp2
  go_ret
  exact ⟨ret_u64 H.out, rfl⟩

theorem xmul_nat (h x : Nat) (hh : h < 18446744073709551616) (hx : x < 18446744073709551616) :
    IntKind.u64.wrap (bits .xor .u64 (h : Int) (x : Int) * 11400714819323198485) = (stepT (h ^^^ x) : Int) := by
  rw [bits_xor_u64_nat h x hh hx]; exact u64_mul_nat _ 11400714819323198485

theorem mix_Step (h x : Nat) (hh : h < 18446744073709551616) (hx : x < 18446744073709551616) (w : World) :
    Calls Tryd.prog 96 #[.int .u64 (h : Int), .int .u64 (x : Int)] w fun e w' => e = .returned (.int .u64 (stepN h x : Int)) ∧ w = w' := by
  have h1 := xmul_nat h x hh hx
  have H2 := Lib.hid (u64_add_nat (rotT (stepT (h ^^^ x))) 15485907386658061715)
  have l : stepT (h ^^^ x) < 18446744073709551616 := Nat.mod_lt _ (by decide)
  have L := Lib.hid l
  clear l hh hx
  go_enter Tryd.func96, Tryd.ntmps96
  go_wp2_with fail
  refine (mix_rotl _ L.out w).mono ?_
  rintro e w1 ⟨rfl, rfl⟩
  go_wp2_with fail
  go_ret
  exact ⟨ret_u64 H2.out, rfl⟩

theorem mix_End (h : Nat) (hh : h < 18446744073709551616) (w : World) :
    Calls Tryd.prog 98 #[.int .u64 (h : Int)] w fun e w' => e = .returned (.int .u64 (endN h : Int)) ∧ w = w' := by
  have h1 := u64_mul_nat (foldN h) 15485907386658061715
  have l : foldN h * 15485907386658061715 % 18446744073709551616 < 18446744073709551616 := Nat.mod_lt _ (by decide)
  obtain ⟨m, hm⟩ : ∃ m, m = foldN h * 15485907386658061715 % 18446744073709551616 := ⟨_, rfl⟩
  rw [← hm] at h1 l
  have h2 : IntKind.u64.wrap ((foldN h : Int) * 15485907386658061715) = (m : Int) := h1
  have E := Lib.hid (show endN h = foldN m by rw [hm]; rfl)
  have L := Lib.hid l
  have HH := Lib.hid hh
  clear hm h1 l hh
  go_enter Tryd.func98, Tryd.ntmps98
  go_wp2_with fail
  refine (mix_fold _ HH.out w).mono ?_
  rintro e w1 ⟨rfl, rfl⟩
  go_wp2_with fail
  refine (mix_fold _ L.out w).mono ?_
  rintro e w1 ⟨rfl, rfl⟩
  go_wp2_with fail
  go_ret
  exact ⟨ret_u64 (by rw [E.out]), rfl⟩


end Go.Proofs.YtnnlfgfgfegjkaaDoor

/- The contracts of package mix's lowest bits and chunks, and of the document's own. -/
namespace Go.Proofs.YtnnlfgfgfegjkaaDoor
open Go.RowKit

theorem pow_nat (m : Nat) : (2 : Int) ^ m = ((2 ^ m : Nat) : Int) := by rw [Int.natCast_pow]; rfl
theorem div_pow_nat (h m : Nat) : (h : Int) / 2 ^ m = ((h / 2 ^ m : Nat) : Int) := by rw [pow_nat, div_nat]
theorem pow_lt {m : Nat} (hm : m < 64) : 2 ^ m < 18446744073709551616 := Nat.pow_lt_pow_right (by decide) hm

theorem mask_nat (m : Nat) (hm : m ≤ 64) : IntKind.u64.wrap (IntKind.u64.wrap ((2 : Int) ^ m) - 1) = ((2 ^ m - 1 : Nat) : Int) := by
  by_cases h : m = 64
  · subst h; decide
  · have h1 := pow_lt (show m < 64 by omega)
    have h2 := Nat.two_pow_pos m
    rw [pow_nat, IntKind.wrap_u64, IntKind.wrap_u64]
    omega

def narrowN (h : Nat) (k : Int) : Nat := h % 2 ^ (min (max k 0) 64).toNat
def chunkN (h : Nat) (k : Int) : Nat := if 0 ≤ k ∧ k ≤ 12 then h / 2 ^ (5 * k).toNat % 32 else 0

theorem narrowN_lt {h : Nat} (k : Int) (hh : h < 18446744073709551616) : narrowN h k < 18446744073709551616 := Nat.lt_of_le_of_lt (Nat.mod_le _ _) hh
theorem chunkN_lt (h : Nat) (k : Int) : chunkN h k < 32 := by unfold chunkN; split <;> omega

theorem mix_Narrow (h : Nat) (k : Int) (hh : h < 18446744073709551616) (w : World) :
    Calls Tryd.prog 81 #[.int .u64 (h : Int), .int .i64 k] w fun e w' => e = .returned (.int .u64 (narrowN h k : Int)) ∧ w = w' := by
  have e : bits .and .u64 (h : Int) (IntKind.u64.wrap (IntKind.u64.wrap ((2 : Int) ^ (min (max k 0) 64).toNat) - 1)) = (narrowN h k : Int) := by
    have hm : (min (max k 0) 64).toNat ≤ 64 := by omega
    have hp : 2 ^ (min (max k 0) 64).toNat ≤ 2 ^ 64 := Nat.pow_le_pow_right (by decide) hm
    rw [mask_nat _ hm, bits_and_u64_nat h _ hh (by omega), and_mask]
    rfl
  have H := Lib.hid e
  clear e hh
  go_enter Tryd.func81, Tryd.ntmps81
  go_wp2
  go_ret
  exact ⟨ret_u64 H.out, rfl⟩

theorem mix_Chunk (h : Nat) (k : Int) (hh : h < 18446744073709551616) (w : World) :
    Calls Tryd.prog 80 #[.int .u64 (h : Int), .int .i64 k] w fun e w' => e = .returned (.int .i64 (chunkN h k : Int)) ∧ w = w' := by
  by_cases hk : 0 ≤ k ∧ k ≤ 12
  · obtain ⟨q, hq⟩ : ∃ q, q = h / 2 ^ (5 * k).toNat := ⟨_, rfl⟩
    have H := Lib.hid (fun w => mix_Narrow q 5 (hq ▸ Nat.lt_of_le_of_lt (Nat.div_le_self _ _) hh) w)
    have h1 := div_pow_nat h (5 * k).toNat
    rw [← hq] at h1
    have h2 : wrap64 (narrowN q 5 : Int) = (chunkN h k : Int) := by
      have e : narrowN q 5 = q % 32 := rfl
      rw [e, chunkN, if_pos hk, ← hq]
      unfold wrap64; omega
    obtain ⟨k1, k2⟩ := hk
    clear hh hq
    go_enter Tryd.func80, Tryd.ntmps80
    go_wp2_with fail
    refine (H.out w).mono ?_
    rintro e w1 ⟨rfl, rfl⟩
    go_wp2_with fail
    go_ret
    exact ⟨ret_i64 h2, rfl⟩
  · have h2 : chunkN h k = 0 := by rw [chunkN, if_neg hk]
    have H := Lib.hid h2
    clear h2 hh
    by_cases h0 : k < 0
    · clear hk
      go_enter Tryd.func80, Tryd.ntmps80
      go_wp2_with fail
      go_ret
      exact ⟨ret_i64 (by rw [H.out]; rfl), rfl⟩
    · have h12 : 12 < k := by omega
      clear hk
      go_enter Tryd.func80, Tryd.ntmps80
      go_wp2_with fail
      go_ret
      exact ⟨ret_i64 (by rw [H.out]; rfl), rfl⟩

end Go.Proofs.YtnnlfgfgfegjkaaDoor

/- The contracts of package mix's sums of texts, and of the document's own narrowed bits. -/
namespace Go.Proofs.YtnnlfgfgfegjkaaDoor
open Go.RowKit

theorem mixlen_bytes (s : ByteArray) : s.data.toList.length = s.size := by simp
theorem mixget_bytes (s : ByteArray) (k : Nat) (h : k < s.size) : s.data.toList.getD k 0 = s[k] := by
  rw [List.getD_eq_getElem?_getD, List.getElem?_eq_getElem (by simpa using h)]; rfl
theorem mixcut_drop (s : ByteArray) (k : Nat) : (s.extract k s.size).data.toList = s.data.toList.drop k := by
  simp
  rw [List.take_of_length_le (by simp)]
theorem mixcut_size (s : ByteArray) (k : Nat) : (s.extract k s.size).size = s.size - k := by simp

theorem wrap_nat (n : Nat) (h : n < 18446744073709551616) : IntKind.u64.wrap (n : Int) = (n : Int) := by rw [IntKind.wrap_u64]; omega

theorem shl_nat (c : UInt8) (k : Nat) (hk : k ≤ 7) : IntKind.u64.wrap (IntKind.u64.wrap (c.toNat : Int) * 2 ^ (8 * (7 - k))) = ((c.toNat * 2 ^ (8 * (7 - k)) : Nat) : Int) := by
  have hc : c.toNat < 256 := c.toNat_lt
  have h := byte_lt c k hk
  rw [pow_nat, IntKind.wrap_u64, IntKind.wrap_u64, show ((c.toNat : Int) % 18446744073709551616) = (c.toNat : Int) by omega, ← Int.natCast_mul]
  omega

theorem wd_step (l : List UInt8) (k : Nat) (c : UInt8) (hk : k ≤ 7) (hc : l.getD k 0 = c) :
    bits .or .u64 (wd l k : Int) (IntKind.u64.wrap (IntKind.u64.wrap (c.toNat : Int) * 2 ^ (8 * (7 - k)))) = (wd l (k + 1) : Int) := by
  rw [shl_nat c k hk, bits_or_u64_nat _ _ (wd_lt l k (by omega)) (byte_lt c k hk), ← hc]; rfl



theorem mix_word (s : ByteArray) (hs : s.size ≤ maxLen) (w : World) :
    Calls Tryd.prog 97 #[.string s] w fun e w' => e = .returned (.int .u64 (wd s.data.toList (min s.size 8) : Nat)) ∧ w = w' := by
  unfold maxLen at hs
  go_enter Tryd.func97, Tryd.ntmps97
  go_wp2_with fail
  go_loop [3, 8] (fun v n => ∃ i : Nat, i ≤ s.size ∧ i ≤ 8 ∧ n = .int .i64 i ∧ v = .int .u64 (wd s.data.toList i : Nat)) (fun _ n => 8 - (intOf n).toNat)
  case atStart => exact ⟨0, Nat.zero_le _, Nat.zero_le _, rfl, rfl⟩
  case round =>
    obtain ⟨i, hi, h9, rfl, rfl⟩ := hrel
    by_cases h1 : i < 8 ∧ i < s.size
    · obtain ⟨h1, h2⟩ := h1
      have HS := Lib.hid (wd_step s.data.toList i s[i] (by omega) (mixget_bytes s i h2))
      go_wp2
      go_round
      case rel => exact ⟨i + 1, by omega, by omega, by go_num, by rw [HS.out]⟩
      case measure => simp [intOf]; omega
    · have e : Hid (i = min s.size 8) := by show _ = _; omega
      go_wp2
      go_ret
      exact ⟨ret_u64 (by rw [e.out]), rfl⟩

set_option maxHeartbeats 1000000 in
theorem mix_Text (seed : Nat) (s : ByteArray) (hseed : seed < 18446744073709551616) (hz : s.size ≤ 9223372036854775800) (w : World) :
    Calls Tryd.prog 82 #[.int .u64 (seed : Int), .string s] w fun e w' => e = .returned (.int .u64 (txtN seed s.data.toList : Nat)) ∧ w = w' := by
  have H0 := Lib.hid (fun w => mix_Step seed s.size hseed (by omega) w)
  have hc : IntKind.u64.wrap (s.size : Int) = (s.size : Int) := by rw [IntKind.wrap_u64]; omega
  clear hseed
  go_enter Tryd.func82, Tryd.ntmps82
  go_wp2_with fail
  refine (H0.out w).mono ?_
  rintro e w1 ⟨rfl, rfl⟩
  go_wp2_with fail
  go_loop [5, 6] (fun v n => ∃ a j : Nat, Hid (a = 8 * j) ∧ a ≤ s.size + 7 ∧ n = .int .i64 a ∧ v = .int .u64 (hs seed s.data.toList j : Nat)) (fun _ n => s.size + 7 - (intOf n).toNat)
  case atStart => exact ⟨0, 0, rfl, Nat.zero_le _, rfl, by rw [hs, mixlen_bytes]⟩
  case round =>
    obtain ⟨a, j, HJ, ha, rfl, rfl⟩ := hrel
    by_cases h1 : a < s.size
    · have HW := Lib.hid (fun w => mix_word (s.extract a s.size) (by rw [mixcut_size]; unfold maxLen; omega) w)
      rw [mixcut_drop, mixcut_size] at HW
      obtain ⟨x, hx⟩ : ∃ x, x = wd (s.data.toList.drop a) (min (s.size - a) 8) := ⟨_, rfl⟩
      rw [← hx] at HW
      have HX : Hid (x = wd (s.data.toList.drop (8 * j)) (min (s.data.toList.length - 8 * j) 8)) := by show _ = _; rw [mixlen_bytes, ← HJ.out]; exact hx
      have HS := Lib.hid (fun w => mix_Step (hs seed s.data.toList j) x (hs_lt _ _ _) (hx ▸ wd_lt _ _ (by omega)) w)
      clear hx
      go_wp2_with fail
      refine (HW.out _).mono ?_
      rintro e w1 ⟨rfl, rfl⟩
      go_wp2_with fail
      refine (HS.out _).mono ?_
      rintro e w1 ⟨rfl, rfl⟩
      go_wp2_with fail
      go_round
      case rel => exact ⟨a + 8, j + 1, by show _ = _; have := HJ.out; omega, by omega, by go_num, by rw [HX.out]; rfl⟩
      case measure => simp [intOf]; omega
    · have HE := Lib.hid (fun w => mix_End (hs seed s.data.toList j) (hs_lt _ _ _) w)
      have e : Hid (j = (s.data.toList.length + 7) / 8) := by show _ = _; rw [mixlen_bytes]; have := HJ.out; omega
      go_wp2_with fail
      refine (HE.out _).mono ?_
      rintro e w1 ⟨rfl, rfl⟩
      go_wp2_with fail
      go_ret
      exact ⟨ret_u64 (by rw [e.out]; rfl), rfl⟩








end Go.Proofs.YtnnlfgfgfegjkaaDoor

/- Plain facts of layer 9: lists of keys that rise, each with its thing: what is set, cut and asked; which keys have a place at a level; the shape. No program is imported. -/
namespace Go.Proofs.YtnnlfgfgfegjkaaDoor
open Go.RowKit
set_option linter.unusedSimpArgs false

/-- A key and its thing. -/
abbrev Ent := ByteArray × Int
/-- A key's bytes. -/
def kb (k : ByteArray) : List UInt8 := k.data.toList
theorem kb_inj {a b : ByteArray} (h : kb a = kb b) : a = b := by
  apply ByteArray.ext
  exact Array.toList_inj.1 h
theorem kb_iff {a b : ByteArray} : kb a = kb b ↔ a = b := ⟨kb_inj, fun h => by rw [h]⟩
/-- Strictly rising keys. -/
def Rise (L : List Ent) : Prop := L.Pairwise fun a b => kb a.1 < kb b.1
theorem Rise.filter {L : List Ent} (h : Rise L) (p : Ent → Bool) : Rise (L.filter p) := List.Pairwise.filter p h
theorem Rise.nil : Rise [] := List.Pairwise.nil
theorem Rise.one (e : Ent) : Rise [e] := List.pairwise_singleton _ e
/-- What a key has. -/
def getE (L : List Ent) (k : ByteArray) : Option Int := (L.find? fun e => decide (e.1 = k)).map (·.2)
/-- Without the key. -/
def delE (L : List Ent) (k : ByteArray) : List Ent := L.filter fun e => decide (e.1 ≠ k)
def belE (L : List Ent) (k : ByteArray) : List Ent := L.filter fun e => decide (kb e.1 < kb k)
def abvE (L : List Ent) (k : ByteArray) : List Ent := L.filter fun e => decide (kb k < kb e.1)
/-- With the key. -/
def insE (L : List Ent) (k : ByteArray) (x : Int) : List Ent := belE L k ++ (k, x) :: abvE L k
theorem lt_ne {a b : ByteArray} (h : kb a < kb b) : a ≠ b := fun e => by subst e; exact lt_irrefl_l _ h
theorem lt_asym {a b : ByteArray} (h : kb a < kb b) : ¬ kb b < kb a := fun k => lt_irrefl_l _ (List.lt_trans h k)
theorem tri (a b : ByteArray) : kb a < kb b ∨ a = b ∨ kb b < kb a := by
  by_cases h : a = b
  · exact .inr (.inl h)
  · rcases total_l (kb a) (kb b) (fun e => h (kb_inj e)) with h | h
    · exact .inl h
    · exact .inr (.inr h)
theorem Rise.ins {L : List Ent} (h : Rise L) (k : ByteArray) (x : Int) : Rise (insE L k x) := by
  unfold Rise insE
  rw [List.pairwise_append]
  refine ⟨h.filter _, ?_, ?_⟩
  · rw [List.pairwise_cons]
    refine ⟨fun e he => ?_, h.filter _⟩
    simpa using (List.mem_filter.1 he).2
  · intro a ha b hb
    have ha' : kb a.1 < kb k := by simpa using (List.mem_filter.1 ha).2
    rcases List.mem_cons.1 hb with rfl | hb
    · exact ha'
    · have hb' : kb k < kb b.1 := by simpa using (List.mem_filter.1 hb).2
      exact List.lt_trans ha' hb'
theorem Rise.del {L : List Ent} (h : Rise L) (k : ByteArray) : Rise (delE L k) := h.filter _
/-- The keys are told by their keys. -/
theorem mem_ins {L : List Ent} {k : ByteArray} {x : Int} {e : Ent} : e ∈ insE L k x ↔ e = (k, x) ∨ (e ∈ L ∧ e.1 ≠ k) := by
  unfold insE belE abvE
  rw [List.mem_append, List.mem_cons, List.mem_filter, List.mem_filter]
  constructor
  · rintro (⟨h1, h2⟩ | h | ⟨h1, h2⟩)
    · exact .inr ⟨h1, lt_ne (by simpa using h2)⟩
    · exact .inl h
    · exact .inr ⟨h1, (lt_ne (by simpa using h2)).symm⟩
  · rintro (h | ⟨h1, h2⟩)
    · exact .inr (.inl h)
    · rcases tri e.1 k with h | h | h
      · exact .inl ⟨h1, by simpa using h⟩
      · exact absurd h h2
      · exact .inr (.inr ⟨h1, by simpa using h⟩)
theorem mem_del {L : List Ent} {k : ByteArray} {e : Ent} : e ∈ delE L k ↔ e ∈ L ∧ e.1 ≠ k := by
  unfold delE
  rw [List.mem_filter]
  simp
theorem Rise.inj {L : List Ent} (h : Rise L) {a b : Ent} (ha : a ∈ L) (hb : b ∈ L) (e : a.1 = b.1) : a = b := by
  induction L with
  | nil => cases ha
  | cons c L ih =>
    have h' := List.pairwise_cons.1 h
    rcases List.mem_cons.1 ha with ha | ha
    · rcases List.mem_cons.1 hb with hb | hb
      · rw [ha, hb]
      · rw [ha] at e
        exact absurd e (lt_ne (h'.1 b hb))
    · rcases List.mem_cons.1 hb with hb | hb
      · rw [hb] at e
        exact absurd e.symm (lt_ne (h'.1 a ha))
      · exact ih h'.2 ha hb
theorem get_mem {L : List Ent} (h : Rise L) {k : ByteArray} {x : Int} : getE L k = some x ↔ (k, x) ∈ L := by
  unfold getE
  rw [Option.map_eq_some_iff]
  constructor
  · rintro ⟨e, he, rfl⟩
    have h1 := List.find?_some he
    have h2 := List.mem_of_find?_eq_some he
    have h1' : e.1 = k := by simpa using h1
    rw [← h1']
    exact h2
  · intro hm
    cases hf : L.find? fun e => decide (e.1 = k) with
    | none =>
      have := List.find?_eq_none.1 hf _ hm
      simp at this
    | some e =>
      have h1 := List.find?_some hf
      have h1' : e.1 = k := by simpa using h1
      have h2 := h.inj (List.mem_of_find?_eq_some hf) hm h1'
      exact ⟨e, rfl, by rw [h2]⟩
theorem get_none {L : List Ent} {k : ByteArray} : getE L k = none ↔ ∀ e ∈ L, e.1 ≠ k := by
  unfold getE
  rw [Option.map_eq_none_iff, List.find?_eq_none]
  constructor
  · intro h e he; simpa using h e he
  · intro h e he; simpa using h e he
theorem get_filter {L : List Ent} (p : Ent → Bool) {k : ByteArray} (hp : ∀ e ∈ L, e.1 = k → p e = true) : getE (L.filter p) k = getE L k := by
  induction L with
  | nil => rfl
  | cons e L ih =>
    have ih := ih fun a ha => hp a (List.mem_cons_of_mem _ ha)
    unfold getE at ih ⊢
    by_cases h : e.1 = k
    · have := hp e List.mem_cons_self h
      rw [List.filter_cons_of_pos this]
      simp [h]
    · by_cases h2 : p e = true
      · rw [List.filter_cons_of_pos h2, List.find?_cons_of_neg (by simp [h]), List.find?_cons_of_neg (by simp [h])]
        exact ih
      · rw [List.filter_cons_of_neg h2, List.find?_cons_of_neg (by simp [h])]
        exact ih
theorem get_ins_same (L : List Ent) (k : ByteArray) (x : Int) (h : Rise L) : getE (insE L k x) k = some x := (get_mem (h.ins k x)).2 (mem_ins.2 (.inl rfl))
theorem get_ins_other {L : List Ent} (h : Rise L) {k j : ByteArray} (x : Int) (hne : j ≠ k) : getE (insE L k x) j = getE L j := by
  cases hg : getE L j with
  | none =>
    rw [get_none] at hg ⊢
    intro e he
    rcases mem_ins.1 he with rfl | ⟨h1, _⟩
    · exact hne.symm
    · exact hg e h1
  | some y =>
    rw [get_mem h] at hg
    rw [get_mem (h.ins k x)]
    exact mem_ins.2 (.inr ⟨hg, hne⟩)
theorem get_del_same (L : List Ent) (k : ByteArray) : getE (delE L k) k = none := get_none.2 fun _ he => (mem_del.1 he).2
theorem get_del_other {L : List Ent} {k j : ByteArray} (hne : j ≠ k) : getE (delE L k) j = getE L j :=
  get_filter _ fun _ _ h => by simp [h, hne]
theorem del_none {L : List Ent} {k : ByteArray} (h : getE L k = none) : delE L k = L := by
  unfold delE
  rw [List.filter_eq_self]
  intro e he
  simpa using get_none.1 h e he
theorem bel_abv {L : List Ent} (h : Rise L) (k : ByteArray) : delE L k = belE L k ++ abvE L k := by
  induction L with
  | nil => rfl
  | cons e L ih =>
    have h' := List.pairwise_cons.1 h
    have ih := ih h'.2
    unfold delE belE abvE at ih ⊢
    rcases tri e.1 k with hk | hk | hk
    · rw [List.filter_cons_of_pos (by simp [lt_ne hk]), List.filter_cons_of_pos (by simp [hk]), List.filter_cons_of_neg (by simp [lt_asym hk]), ih, List.cons_append]
    · have hb : (L.filter fun e => decide (kb e.1 < kb k)) = [] := by
        rw [List.filter_eq_nil_iff]
        intro a ha
        have := h'.1 a ha
        rw [hk] at this
        simpa using lt_asym this
      rw [List.filter_cons_of_neg (by simp [hk]), List.filter_cons_of_neg (by simp [hk, lt_irrefl_l]), List.filter_cons_of_neg (by simp [hk, lt_irrefl_l]), ih]
    · have hb : (L.filter fun e => decide (kb e.1 < kb k)) = [] := by
        rw [List.filter_eq_nil_iff]
        intro a ha
        have := List.lt_trans hk (h'.1 a ha)
        simpa using lt_asym this
      rw [List.filter_cons_of_pos (by simp [(lt_ne hk).symm]), List.filter_cons_of_neg (by simp [lt_asym hk]), List.filter_cons_of_pos (by simp [hk]), ih, hb, List.nil_append, List.nil_append]
/-- What has the key k, if anything. -/
def atE (L : List Ent) (k : ByteArray) : List Ent := match getE L k with
  | none => []
  | some x => [(k, x)]
/-- All that is below, at and above a key. -/
theorem parts_E {L : List Ent} (h : Rise L) (k : ByteArray) : L = belE L k ++ (atE L k ++ abvE L k) := by
  induction L with
  | nil => rfl
  | cons e L ih =>
    have h' := List.pairwise_cons.1 h
    have ih := ih h'.2
    have none_b : (∀ a ∈ L, kb k < kb a.1) → belE L k = [] ∧ abvE L k = L ∧ getE L k = none := fun ha => by
      refine ⟨?_, ?_, ?_⟩
      · unfold belE
        rw [List.filter_eq_nil_iff]
        intro a h
        simpa using lt_asym (ha a h)
      · unfold abvE
        rw [List.filter_eq_self]
        intro a h
        simpa using ha a h
      · rw [get_none]
        intro a h
        exact (lt_ne (ha a h)).symm
    rcases tri e.1 k with hk | hk | hk
    · have e1 : belE (e :: L) k = e :: belE L k := by unfold belE; rw [List.filter_cons_of_pos (by simp [hk])]
      have e2 : abvE (e :: L) k = abvE L k := by unfold abvE; rw [List.filter_cons_of_neg (by simp [lt_asym hk])]
      have e3 : atE (e :: L) k = atE L k := by unfold atE getE; rw [List.find?_cons_of_neg (by simp [lt_ne hk])]
      rw [e1, e2, e3, List.cons_append, ← ih]
    · obtain ⟨b1, b2, b3⟩ := none_b (fun a ha => by rw [← hk]; exact h'.1 a ha)
      have e1 : belE (e :: L) k = [] := by unfold belE at b1 ⊢; rw [List.filter_cons_of_neg (by simp [hk, lt_irrefl_l]), b1]
      have e2 : abvE (e :: L) k = L := by unfold abvE at b2 ⊢; rw [List.filter_cons_of_neg (by simp [hk, lt_irrefl_l]), b2]
      have e3 : atE (e :: L) k = [e] := by unfold atE getE; rw [List.find?_cons_of_pos (by simp [hk])]; simp [← hk]
      rw [e1, e2, e3]
      rfl
    · obtain ⟨b1, b2, b3⟩ := none_b (fun a ha => List.lt_trans hk (h'.1 a ha))
      have e1 : belE (e :: L) k = [] := by unfold belE at b1 ⊢; rw [List.filter_cons_of_neg (by simp [lt_asym hk]), b1]
      have e2 : abvE (e :: L) k = e :: L := by unfold abvE at b2 ⊢; rw [List.filter_cons_of_pos (by simp [hk]), b2]
      have e3 : atE (e :: L) k = [] := by
        unfold getE at b3
        unfold atE getE
        rw [List.find?_cons_of_neg (by simp [(lt_ne hk).symm]), b3]
      rw [e1, e2, e3]
      rfl
theorem len_ins {L : List Ent} (h : Rise L) (k : ByteArray) (x : Int) : (insE L k x).length = if (getE L k).isSome = true then L.length else L.length + 1 := by
  have e := congrArg List.length (parts_E h k)
  unfold insE
  rw [List.length_append, List.length_append] at e
  rw [List.length_append, List.length_cons]
  unfold atE at e
  cases hg : getE L k with
  | none => rw [hg] at e; simp at e ⊢; omega
  | some y => rw [hg] at e; simp at e ⊢; omega
theorem len_del {L : List Ent} (h : Rise L) (k : ByteArray) : (delE L k).length = if (getE L k).isSome = true then L.length - 1 else L.length := by
  have e := congrArg List.length (parts_E h k)
  rw [bel_abv h k]
  rw [List.length_append, List.length_append] at e
  rw [List.length_append]
  unfold atE at e
  cases hg : getE L k with
  | none => rw [hg] at e; simp at e ⊢; omega
  | some y => rw [hg] at e; simp at e ⊢; omega
/-- How many keys are below k. -/
theorem cut_take {L : List Ent} (h : Rise L) (k : ByteArray) : L.take (belE L k).length = belE L k :=
  (congrArg (List.take (belE L k).length) (parts_E h k)).trans List.take_left
theorem cut_drop {L : List Ent} (h : Rise L) (k : ByteArray) : L.drop (belE L k).length = atE L k ++ abvE L k :=
  (congrArg (List.drop (belE L k).length) (parts_E h k)).trans List.drop_left
theorem at_none {L : List Ent} {k : ByteArray} (h : getE L k = none) : atE L k = [] := by unfold atE; rw [h]
theorem at_some {L : List Ent} {k : ByteArray} {x : Int} (h : getE L k = some x) : atE L k = [(k, x)] := by unfold atE; rw [h]
/-- What is at the place where the key would be. -/
theorem at_place {L : List Ent} (h : Rise L) (k : ByteArray) : (∀ e, L[(belE L k).length]? = some e → (e.1 = k ↔ (getE L k).isSome = true)) ∧ ((getE L k).isSome = true → ∃ e, L[(belE L k).length]? = some e ∧ e.1 = k ∧ getE L k = some e.2) := by
  have e0 : L[(belE L k).length]? = (L.drop (belE L k).length)[0]? := by rw [List.getElem?_drop, Nat.add_zero]
  rw [e0, cut_drop h k]
  cases hg : getE L k with
  | none =>
    rw [at_none hg, List.nil_append]
    refine ⟨fun e he => ?_, fun h => by cases h⟩
    have hm : e ∈ abvE L k := List.mem_of_getElem? he
    have : kb k < kb e.1 := by simpa using (List.mem_filter.1 hm).2
    simp [(lt_ne this).symm]
  | some y =>
    rw [at_some hg]
    refine ⟨fun e he => ?_, fun _ => ⟨(k, y), rfl, rfl, rfl⟩⟩
    have : (k, y) = e := by simpa using he
    simp [← this]

/-! places at a level -/
theorem fm_congr {α β : Type} {f g : α → List β} : ∀ {l : List α}, (∀ i ∈ l, f i = g i) → l.flatMap f = l.flatMap g
  | [], _ => rfl
  | a :: l, h => by
    rw [List.flatMap_cons, List.flatMap_cons, h a List.mem_cons_self, fm_congr (l := l) fun i hi => h i (List.mem_cons_of_mem _ hi)]
/-- The keys whose sums have the place i at the level. -/
def chE (hs : ByteArray → Nat) (lv i : Nat) (L : List Ent) : List Ent := L.filter fun e => decide (chunkN (hs e.1) lv = i)
section
variable {hs : ByteArray → Nat} {lv i : Nat} {L : List Ent} {k : ByteArray} {x : Int}
theorem filt_comm {α : Type} (q r : α → Bool) (L : List α) : (L.filter q).filter r = (L.filter r).filter q := by
  rw [List.filter_filter, List.filter_filter]
  congr 1
  funext e
  exact Bool.and_comm _ _
theorem Rise.ch (h : Rise L) (hs : ByteArray → Nat) (lv i : Nat) : Rise (chE hs lv i L) := h.filter _
theorem mem_ch {e : Ent} : e ∈ chE hs lv i L ↔ e ∈ L ∧ chunkN (hs e.1) lv = i := by
  unfold chE
  rw [List.mem_filter]
  simp
theorem ch_ins_same (h : chunkN (hs k) lv = i) : chE hs lv i (insE L k x) = insE (chE hs lv i L) k x := by
  unfold chE insE belE abvE
  rw [List.filter_append, List.filter_cons_of_pos (by simp [h]), filt_comm _ (fun e : Ent => decide (chunkN (hs e.1) lv = i)), filt_comm _ (fun e : Ent => decide (chunkN (hs e.1) lv = i))]
theorem ch_del_same : chE hs lv i (delE L k) = delE (chE hs lv i L) k := filt_comm _ _ _
theorem ch_del_other (h : chunkN (hs k) lv ≠ i) : chE hs lv i (delE L k) = chE hs lv i L := by
  unfold chE delE
  rw [List.filter_filter]
  refine List.filter_congr fun e _ => ?_
  by_cases hk : e.1 = k
  · simp [hk, h]
  · simp [hk]
theorem ch_ins_other (hr : Rise L) (h : chunkN (hs k) lv ≠ i) : chE hs lv i (insE L k x) = chE hs lv i L := by
  rw [← ch_del_other (L := L) h, bel_abv hr k]
  unfold chE insE
  rw [List.filter_append, List.filter_append, List.filter_cons_of_neg (by simp [h])]
theorem ch_get (h : chunkN (hs k) lv = i) : getE (chE hs lv i L) k = getE L k :=
  get_filter _ fun e _ hk => by simp [hk, h]
theorem ch_nil : chE hs lv i [] = [] := rfl
theorem ch_len_le : (chE hs lv i L).length ≤ L.length := List.length_filter_le _ _
/-- All places together. -/
theorem ch_perm (hs : ByteArray → Nat) (lv : Nat) : ∀ L : List Ent, ((List.range 32).flatMap fun i => chE hs lv i L).Perm L
  | [] => by
    have : ((List.range 32).flatMap fun i => chE hs lv i []) = [] := by
      rw [List.flatMap_eq_nil_iff]
      intro i _
      rfl
    rw [this]
  | e :: L => by
    have ih := ch_perm hs lv L
    have hj := chunkN_lt (hs e.1) lv
    generalize hje : chunkN (hs e.1) lv = j at hj
    have hsp : List.range 32 = List.range j ++ (j :: (List.range (31 - j)).map (j + 1 + ·)) := by
      rw [show (32 : Nat) = (j + 1) + (31 - j) by omega, List.range_add, List.range_succ]
      simp
    rw [hsp] at ih ⊢
    rw [List.flatMap_append, List.flatMap_cons] at ih ⊢
    have o : ∀ i, i ≠ j → chE hs lv i (e :: L) = chE hs lv i L := fun i hi => by
      unfold chE
      rw [List.filter_cons_of_neg (by simp [hje]; exact fun h => hi h.symm)]
    have s : chE hs lv j (e :: L) = e :: chE hs lv j L := by
      unfold chE
      rw [List.filter_cons_of_pos (by simp [hje])]
    have f1 : ((List.range j).flatMap fun i => chE hs lv i (e :: L)) = (List.range j).flatMap fun i => chE hs lv i L := by
      refine fm_congr fun i hi => ?_
      rw [List.mem_range] at hi
      exact o i (by omega)
    have f2 : (((List.range (31 - j)).map (j + 1 + ·)).flatMap fun i => chE hs lv i (e :: L)) = ((List.range (31 - j)).map (j + 1 + ·)).flatMap fun i => chE hs lv i L := by
      refine fm_congr fun i hi => ?_
      rw [List.mem_map] at hi
      obtain ⟨a, _, rfl⟩ := hi
      exact o _ (by omega)
    rw [f1, f2, s, List.cons_append]
    exact (List.perm_middle).trans (List.Perm.cons e ih)
end
/-- A list that rises is told by what is in it. -/
theorem rise_perm {L M : List Ent} (hL : Rise L) (hM : Rise M) (h : L.Perm M) : L = M :=
  h.eq_of_pairwise (fun _ _ _ _ h1 h2 => absurd h2 (lt_asym h1)) hL hM

/-! the shape -/
def itS (n : Nat) : List UInt8 := Lib.itoa (n : Int)
/-- The shape of the node of some keys, at a level: f levels above the lists. -/
def shapeF (hs : ByteArray → Nat) : Nat → List ByteArray → List UInt8
  | 0, ks => 91 :: itS ks.length ++ [93]
  | f + 1, ks => 40 :: ((List.range 32).flatMap fun i => match ks.filter fun k => decide (chunkN (hs k) ((12 : Nat) - f : Nat) = i) with
    | [] => []
    | [_] => itS i ++ [46]
    | a :: b :: r => itS i ++ shapeF hs f (a :: b :: r)) ++ [41]
end Go.Proofs.YtnnlfgfgfegjkaaDoor

/- Plain facts of layer 9: the shape and its length; lists in order; what is done to maps. No program is imported. -/
namespace Go.Proofs.YtnnlfgfgfegjkaaDoor
open Go.RowKit
set_option linter.unusedSimpArgs false

/-- The keys. -/
def keysE (L : List Ent) : List ByteArray := L.map (·.1)
def valsE (L : List Ent) : List Int := L.map (·.2)
theorem keysE_len (L : List Ent) : (keysE L).length = L.length := List.length_map ..
theorem valsE_len (L : List Ent) : (valsE L).length = L.length := List.length_map ..
/-- The keys of a place. -/
def kch (hs : ByteArray → Nat) (lv i : Nat) (ks : List ByteArray) : List ByteArray := ks.filter fun k => decide (chunkN (hs k) lv = i)
theorem kch_ch (hs : ByteArray → Nat) (lv i : Nat) (L : List Ent) : kch hs lv i (keysE L) = keysE (chE hs lv i L) := by
  unfold kch keysE chE
  rw [List.filter_map]
  rfl
/-- What a place's keys add to the shape, behind the place's number. -/
def restF (hs : ByteArray → Nat) (f : Nat) (ks : List ByteArray) : List UInt8 := match ks with
  | [] => [46]
  | [_] => [46]
  | a :: b :: r => shapeF hs f (a :: b :: r)
/-- What a place's keys add to the shape. -/
def pieceF (hs : ByteArray → Nat) (f i : Nat) (ks : List ByteArray) : List UInt8 := if ks = [] then [] else itS i ++ restF hs f ks
theorem shape_succ (hs : ByteArray → Nat) (f : Nat) (ks : List ByteArray) : shapeF hs (f + 1) ks = 40 :: ((List.range 32).flatMap fun i => pieceF hs f i (kch hs (12 - f) i ks)) ++ [41] := by
  rw [shapeF]
  congr 3
  funext i
  unfold pieceF restF kch
  cases hk : ks.filter fun k => decide (chunkN (hs k) ((12 : Nat) - f : Nat) = i) with
  | nil => simp
  | cons a r =>
    cases r with
    | nil => simp
    | cons b r => simp
theorem kch_sum (hs : ByteArray → Nat) (lv : Nat) (ks : List ByteArray) : ((List.range 32).flatMap fun i => kch hs lv i ks).length = ks.length := by
  have h := (ch_perm hs lv (ks.map fun k => (k, (0 : Int)))).length_eq
  rw [List.length_map] at h
  rw [← h, List.length_flatMap, List.length_flatMap]
  congr 1
  apply List.map_congr_left
  intro i _
  have e := kch_ch hs lv i (ks.map fun k => (k, (0 : Int)))
  have e2 : keysE (ks.map fun k => (k, (0 : Int))) = ks := by unfold keysE; rw [List.map_map]; simp [Function.comp_def]
  rw [e2] at e
  rw [e, keysE_len]
theorem flat_le {α β γ : Type} (M : α → List β) (N : α → List γ) (c : Nat) : ∀ l : List α, (∀ i ∈ l, (M i).length ≤ c * (N i).length) → (l.flatMap M).length ≤ c * (l.flatMap N).length
  | [], _ => by simp
  | i :: l, h => by
    have ih := flat_le M N c l fun j hj => h j (List.mem_cons_of_mem _ hj)
    have h1 := h i List.mem_cons_self
    rw [List.flatMap_cons, List.flatMap_cons, List.length_append, List.length_append, Nat.mul_add]
    omega
theorem itS_len {n : Nat} (h : n ≤ 9223372036854775807) : (itS n).length ≤ 21 := Lib.itoa_length_le n (by omega) (by omega)
theorem piece_len (hs : ByteArray → Nat) (f : Nat) (ih : ∀ ks : List ByteArray, ks.length ≤ 1000000 → (shapeF hs f ks).length ≤ (50 * f + 1) * ks.length + 23) (i : Nat) (hi : i ≤ 1000) (ks : List ByteArray) (hk : ks.length ≤ 1000000) : (pieceF hs f i ks).length ≤ (50 * f + 50) * ks.length := by
  have h1 := itS_len (n := i) (by omega)
  match ks, hk with
  | [], _ => exact Nat.zero_le _
  | [a], _ =>
    have e : pieceF hs f i [a] = itS i ++ [46] := by unfold pieceF; rw [if_neg (by simp)]; rfl
    rw [e, List.length_append]
    simp
    omega
  | a :: b :: r, hk =>
    have e : pieceF hs f i (a :: b :: r) = itS i ++ shapeF hs f (a :: b :: r) := by unfold pieceF; rw [if_neg (by simp)]; rfl
    have h2 := ih _ hk
    rw [e, List.length_append]
    have h3 : 2 ≤ (a :: b :: r).length := by simp
    have h4 : (50 * f + 50) * (a :: b :: r).length = (50 * f + 1) * (a :: b :: r).length + 49 * (a :: b :: r).length := by rw [← Nat.add_mul]
    omega
theorem shape_len (hs : ByteArray → Nat) : ∀ (f : Nat) (ks : List ByteArray), ks.length ≤ 1000000 → (shapeF hs f ks).length ≤ (50 * f + 1) * ks.length + 23
  | 0, ks, hk => by
    have h := itS_len (n := ks.length) (by omega)
    have e : shapeF hs 0 ks = 91 :: itS ks.length ++ [93] := by rw [shapeF]
    rw [e]
    simp
    omega
  | f + 1, ks, hk => by
    rw [shape_succ]
    have hl : ∀ i ∈ List.range 32, (pieceF hs f i (kch hs (12 - f) i ks)).length ≤ (50 * f + 50) * (kch hs (12 - f) i ks).length := fun i hi => by
      rw [List.mem_range] at hi
      exact piece_len hs f (shape_len hs f) i (by omega) _ (Nat.le_trans (List.length_filter_le _ _) hk)
    have h := flat_le (fun i => pieceF hs f i (kch hs (12 - f) i ks)) (fun i => kch hs (12 - f) i ks) (50 * f + 50) (List.range 32) hl
    rw [kch_sum] at h
    have h4 : (50 * (f + 1) + 1) * ks.length = (50 * f + 50) * ks.length + ks.length := by rw [show 50 * (f + 1) + 1 = (50 * f + 50) + 1 by omega, Nat.add_mul, Nat.one_mul]
    rw [List.length_append, List.length_cons, List.length_singleton]
    omega
/-- A list in order of what a rising list has is that list. -/
theorem sorted_eq {L M : List Ent} (hL : Rise L) (hp : M.Perm L) (hs : M.Pairwise fun a b => ¬ kb b.1 < kb a.1) : M = L := by
  have hd : M.Pairwise fun a b => a.1 ≠ b.1 := (List.Perm.pairwise_iff (R := fun (a b : Ent) => a.1 ≠ b.1) (fun h => Ne.symm h) hp).2 (List.Pairwise.imp (fun h => lt_ne h) hL)
  have hr : Rise M := by
    refine List.Pairwise.imp ?_ (List.Pairwise.and hs hd)
    rintro a b ⟨h1, h2⟩
    rcases tri a.1 b.1 with h | h | h
    · exact h
    · exact absurd h h2
    · exact absurd h h1
  exact rise_perm hr hL hp

/-! what is done -/
/-- Key, X, Cut. -/
abbrev Op9 := ByteArray × Int × Bool
def doE (L : List Ent) (o : Op9) : List Ent := if o.2.2 = true then delE L o.1 else insE L o.1 o.2.1
def runE (L : List Ent) (l : List Op9) : List Ent := l.foldl doE L
theorem runE_snoc (L : List Ent) (l : List Op9) (o : Op9) : runE L (l ++ [o]) = doE (runE L l) o := by simp [runE]
theorem doE_rise {L : List Ent} (h : Rise L) (o : Op9) : Rise (doE L o) := by
  unfold doE
  split
  · exact h.del _
  · exact h.ins _ _
theorem doE_len {L : List Ent} (h : Rise L) (o : Op9) : (doE L o).length ≤ L.length + 1 := by
  unfold doE
  split
  · rw [len_del h]; split <;> omega
  · rw [len_ins h]; split <;> omega
theorem runE_rise {L : List Ent} (h : Rise L) : ∀ l : List Op9, Rise (runE L l) := by
  intro l
  induction l generalizing L with
  | nil => exact h
  | cons o l ih => exact ih (doE_rise h o)
theorem runE_len {L : List Ent} (h : Rise L) : ∀ l : List Op9, (runE L l).length ≤ L.length + l.length := by
  intro l
  induction l generalizing L with
  | nil => exact Nat.le_refl _
  | cons o l ih =>
    have h1 := ih (doE_rise h o)
    have h2 := doE_len h o
    rw [List.length_cons]
    show (runE (doE L o) l).length ≤ _
    omega
theorem mem_doE {L : List Ent} {o : Op9} {e : Ent} (h : e ∈ doE L o) : e.1 = o.1 ∨ e ∈ L := by
  unfold doE at h
  split at h
  · exact .inr (mem_del.1 h).1
  · rcases mem_ins.1 h with rfl | h
    · exact .inl rfl
    · exact .inr h.1
/-- All keys are among those of the operations. -/
theorem runE_keys {p : ByteArray → Prop} : ∀ {l : List Op9} {L : List Ent}, (∀ e ∈ L, p e.1) → (∀ o ∈ l, p o.1) → ∀ e ∈ runE L l, p e.1
  | [], _, h, _ => h
  | o :: l, L, h, h2 => runE_keys (l := l) (L := doE L o) (fun e he => by
      rcases mem_doE he with h3 | h3
      · rw [h3]; exact h2 o List.mem_cons_self
      · exact h e h3) fun a ha => h2 a (List.mem_cons_of_mem _ ha)
end Go.Proofs.YtnnlfgfgfegjkaaDoor
