/- Texts put together: QuotePure Law02Pure LexPure LexBack. -/
import Derived.WalkKit
import Derived.Test.YtgdlkaoadlipmaaGreatDoorPkB

/- Plain facts of layer 2: the order of texts; texts in quotes; hexadecimal digits; names. No program is imported. -/
namespace Go.Proofs.YtgdlkaoadlipmaaGreatDoor
open Go.RowKit

/-! the order -/
def commonS : List UInt8 → List UInt8 → Nat
  | a :: l, b :: r => if a = b then commonS l r + 1 else 0
  | _, _ => 0
def orderS (a b : List UInt8) : Int := if a = b then 0 else if a < b then -1 else 1
theorem commonS_of : ∀ (k : Nat) (l r : List UInt8), l.take k = r.take k → k ≤ l.length → k ≤ r.length → (k = l.length ∨ k = r.length ∨ l[k]? ≠ r[k]?) → commonS l r = k
  | 0, l, r, _, _, _, h => by
    cases l with
    | nil => rfl
    | cons a l =>
      cases r with
      | nil => rfl
      | cons b r =>
        rcases h with h | h | h
        · simp at h
        · simp at h
        · have : ¬ a = b := by simpa using h
          simp [commonS, this]
  | k + 1, l, r, ht, hl, hr, h => by
    cases l with
    | nil => simp at hl
    | cons a l =>
      cases r with
      | nil => simp at hr
      | cons b r =>
        simp only [List.take_succ_cons, List.cons.injEq] at ht
        simp only [List.length_cons] at hl hr h
        simp only [commonS]
        rw [if_pos ht.1, commonS_of k l r ht.2 (by omega) (by omega) (by
          rcases h with h | h | h
          · exact .inl (by omega)
          · exact .inr (.inl (by omega))
          · exact .inr (.inr (by simpa using h)))]
theorem commonS_le : ∀ (l r : List UInt8), commonS l r ≤ l.length ∧ commonS l r ≤ r.length ∧ l.take (commonS l r) = r.take (commonS l r) ∧ (commonS l r = l.length ∨ commonS l r = r.length ∨ l[commonS l r]? ≠ r[commonS l r]?)
  | [], r => by simp [commonS]
  | _ :: _, [] => by simp [commonS]
  | a :: l, b :: r => by
    obtain ⟨h1, h2, h3, h4⟩ := commonS_le l r
    simp only [commonS]
    by_cases h : a = b
    · rw [if_pos h]
      refine ⟨by simp; omega, by simp; omega, by simp [h, h3], ?_⟩
      rcases h4 with h4 | h4 | h4
      · exact .inl (by simp [h4])
      · exact .inr (.inl (by simp [h4]))
      · exact .inr (.inr (by simpa using h4))
    · rw [if_neg h]
      exact ⟨by simp, by simp, by simp, .inr (.inr (by simpa using h))⟩
/-- By the first place where they are unlike. -/
theorem order_of (l r : List UInt8) : ∀ k, l.take k = r.take k → k ≤ l.length → k ≤ r.length →
    (k = l.length → k = r.length → orderS l r = 0) ∧ (k = l.length → ¬ k = r.length → orderS l r = -1) ∧ (¬ k = l.length → k = r.length → orderS l r = 1) ∧
    (∀ (h1 : k < l.length) (h2 : k < r.length), (l[k] < r[k] → orderS l r = -1) ∧ (r[k] < l[k] → orderS l r = 1)) := by
  intro k
  induction k generalizing l r with
  | zero =>
    intro _ _ _
    cases l with
    | nil =>
      cases r with
      | nil => simp [orderS]
      | cons b r => simp [orderS]
    | cons a l =>
      cases r with
      | nil => simp [orderS]
      | cons b r =>
        simp only [List.length_cons, orderS]
        refine ⟨by omega, by omega, by omega, fun _ _ => ⟨fun h => ?_, fun h => ?_⟩⟩
        · have h' : a < b := by simpa using h
          rw [if_neg (by simp; intro e; rw [e] at h'; exact absurd h' (UInt8.lt_irrefl _)), if_pos (by rw [List.cons_lt_cons_iff]; exact .inl h')]
        · have h' : b < a := by simpa using h
          rw [if_neg (by simp; intro e; rw [e] at h'; exact absurd h' (UInt8.lt_irrefl _)), if_neg (by
            rw [List.cons_lt_cons_iff]
            rintro (h2 | ⟨h2, _⟩)
            · rw [UInt8.lt_iff_toNat_lt] at h' h2; omega
            · rw [h2] at h'; exact absurd h' (UInt8.lt_irrefl _))]
  | succ k ih =>
    intro ht hl hr
    cases l with
    | nil => simp at hl
    | cons a l =>
      cases r with
      | nil => simp at hr
      | cons b r =>
        simp only [List.take_succ_cons, List.cons.injEq] at ht
        obtain ⟨rfl, ht⟩ := ht
        have e : orderS (a :: l) (a :: r) = orderS l r := by
          unfold orderS
          have h1 : (a :: l = a :: r) ↔ l = r := by simp
          have h2 : (a :: l < a :: r) ↔ l < r := by
            rw [List.cons_lt_cons_iff]
            exact ⟨fun h => by rcases h with h | h; exact absurd h (UInt8.lt_irrefl _); exact h.2, fun h => .inr ⟨rfl, h⟩⟩
          simp only [h1, h2]
        rw [e]
        have := ih l r ht (by simpa using hl) (by simpa using hr)
        simp only [List.length_cons, Nat.add_right_cancel_iff]
        refine ⟨this.1, this.2.1, this.2.2.1, fun h1 h2 => ?_⟩
        have := this.2.2.2 (by omega) (by omega)
        simpa using this

/-! quotes and digits -/
def hxD (n : Nat) : UInt8 := if n < 10 then UInt8.ofNat (48 + n) else UInt8.ofNat (87 + n)
def oneS (c : UInt8) : List UInt8 :=
  if c.toNat = 34 ∨ c.toNat = 92 then [92, c] else if c.toNat = 10 then [92, 110] else if c.toNat = 9 then [92, 116] else if c.toNat = 13 then [92, 114]
  else if c.toNat < 32 ∨ 126 < c.toNat then [92, 120, hxD (c.toNat / 16), hxD (c.toNat % 16)] else [c]
def quoteS (l : List UInt8) : List UInt8 := 34 :: (l.flatMap oneS ++ [34])
def hexS (l : List UInt8) : List UInt8 := l.flatMap fun c => [hxD (c.toNat / 16), hxD (c.toNat % 16)]
def hval (c : UInt8) (great : Bool) : Nat :=
  if 48 ≤ c.toNat ∧ c.toNat ≤ 57 then c.toNat - 48 else if 97 ≤ c.toNat ∧ c.toNat ≤ 102 then c.toNat - 87 else if great = true ∧ 65 ≤ c.toNat ∧ c.toNat ≤ 70 then c.toNat - 55 else 16
def escS (c : UInt8) : Option UInt8 :=
  if c.toNat = 34 ∨ c.toNat = 92 ∨ c.toNat = 47 then some c else if c.toNat = 110 then some 10 else if c.toNat = 116 then some 9 else if c.toNat = 114 then some 13 else none
/-- What stands behind the first mark: what was read till here, the place, and what comes of the rest: the text, the place behind it or of what breaks it, the error. -/
def unqS : List UInt8 → Nat → List UInt8 → List UInt8 × Nat × Int
  | [], at_, _ => ([], at_, 10)
  | c :: r, at_, out =>
    if c.toNat = 34 then (out, at_ + 1, 0)
    else if c.toNat < 32 then ([], at_, 2)
    else if c.toNat ≠ 92 then unqS r (at_ + 1) (out ++ [c])
    else match r with
      | [] => ([], at_ + 1, 10)
      | d :: r =>
        if d.toNat ≠ 120 then (match escS d with
          | none => ([], at_ + 1, 2)
          | some x => unqS r (at_ + 2) (out ++ [x]))
        else match r with
          | [] => ([], at_ + 2, 10)
          | h1 :: r => if 15 < hval h1 true then ([], at_ + 2, 2) else match r with
            | [] => ([], at_ + 3, 10)
            | h2 :: r => if 15 < hval h2 true then ([], at_ + 3, 2) else unqS r (at_ + 4) (out ++ [UInt8.ofNat (16 * hval h1 true + hval h2 true)])
def unquoteS (l : List UInt8) : List UInt8 × Nat × Int :=
  match l with
  | [] => ([], 0, 10)
  | c :: r => if c.toNat ≠ 34 then ([], 0, 2) else unqS r 1 []
def canonS (l : List UInt8) : Bool := (unquoteS l).2.2 == 0 && (unquoteS l).2.1 == l.length && quoteS (unquoteS l).1 == l
def letS (c : UInt8) : Bool := decide (97 ≤ c.toNat ∧ c.toNat ≤ 122 ∨ 65 ≤ c.toNat ∧ c.toNat ≤ 90 ∨ c.toNat = 95)
def digS (c : UInt8) : Bool := decide (48 ≤ c.toNat ∧ c.toNat ≤ 57)
def nameS (l : List UInt8) : Bool := match l with | [] => false | c :: r => letS c && r.all fun c => letS c || digS c
def unhxS : List UInt8 → List UInt8 → List UInt8 × Int
  | [], out => (out, 0)
  | [_], _ => ([], 2)
  | a :: b :: r, out => if 15 < hval a false ∨ 15 < hval b false then ([], 2) else unhxS r (out ++ [UInt8.ofNat (16 * hval a false + hval b false)])
def unhexS (l : List UInt8) : List UInt8 × Int := if l.length % 2 = 1 then ([], 2) else unhxS l []
end Go.Proofs.YtgdlkaoadlipmaaGreatDoor

/- Plain facts that layer 2's laws ask: a total order; what is quoted is unquoted; digits there and back; cut off. No program is imported. -/
namespace Go.Proofs.YtgdlkaoadlipmaaGreatDoor
open Go.RowKit

/-! the order -/
theorem lt_irrefl_l (a : List UInt8) : ¬ a < a := List.lt_irrefl a
theorem orderS_range (a b : List UInt8) : orderS a b = -1 ∨ orderS a b = 0 ∨ orderS a b = 1 := by
  unfold orderS
  split
  · exact .inr (.inl rfl)
  · split
    · exact .inl rfl
    · exact .inr (.inr rfl)
theorem orderS_zero (a b : List UInt8) : orderS a b = 0 ↔ a = b := by
  unfold orderS
  split
  · simp [*]
  · split <;> simp [*]
theorem orderS_less (a b : List UInt8) : orderS a b = -1 ↔ a < b := by
  unfold orderS
  split
  · rename_i h; subst h; simp [lt_irrefl_l]
  · split <;> simp [*]
theorem total_l (a b : List UInt8) (h : ¬ a = b) : a < b ∨ b < a := by
  rcases List.le_total a b with h1 | h1
  · rcases Decidable.em (a < b) with h2 | h2
    · exact .inl h2
    · exact absurd (List.le_antisymm h1 (List.not_lt.1 h2)) h
  · rcases Decidable.em (b < a) with h2 | h2
    · exact .inr h2
    · exact absurd (List.le_antisymm (List.not_lt.1 h2) h1) h
theorem orderS_neg (a b : List UInt8) : orderS a b = - orderS b a := by
  by_cases h : a = b
  · subst h
    rw [(orderS_zero a a).2 rfl]; rfl
  · rcases total_l a b h with h1 | h1
    · have h2 : ¬ b < a := fun h2 => lt_irrefl_l a (List.lt_trans h1 h2)
      have := orderS_range b a
      rw [(orderS_less a b).2 h1]
      have h3 := orderS_zero b a
      have h4 := orderS_less b a
      rcases this with e | e | e
      · exact absurd (h4.1 e) h2
      · exact absurd (h3.1 e).symm h
      · rw [e]
    · have h2 : ¬ a < b := fun h2 => lt_irrefl_l a (List.lt_trans h2 h1)
      have := orderS_range a b
      rw [(orderS_less b a).2 h1]
      have h3 := orderS_zero a b
      have h4 := orderS_less a b
      rcases this with e | e | e
      · exact absurd (h4.1 e) h2
      · exact absurd (h3.1 e) h
      · rw [e]; rfl
theorem orderS_trans (a b c : List UInt8) (h1 : orderS a b ≤ 0) (h2 : orderS b c ≤ 0) : orderS a c ≤ 0 ∧ (orderS a b = 0 ∧ orderS b c = 0 ∨ orderS a c < 0) := by
  have le : ∀ x y, orderS x y ≤ 0 → x = y ∨ x < y := fun x y h => by
    rcases orderS_range x y with e | e | e
    · exact .inr ((orderS_less x y).1 e)
    · exact .inl ((orderS_zero x y).1 e)
    · omega
  rcases le a b h1 with rfl | e1
  · have e := (orderS_zero a a).2 rfl
    refine ⟨h2, ?_⟩
    rcases orderS_range a c with e2 | e2 | e2
    · exact .inr (by omega)
    · exact .inl ⟨e, e2⟩
    · omega
  · rcases le b c h2 with rfl | e2
    · have := (orderS_less a b).2 e1
      exact ⟨h1, .inr (by omega)⟩
    · have := (orderS_less a c).2 (List.lt_trans e1 e2)
      exact ⟨by omega, .inr (by omega)⟩

/-! digits -/
theorem hxD_nat (n : Nat) (h : n < 16) : (hxD n).toNat = if n < 10 then 48 + n else 87 + n := by
  unfold hxD
  split
  · rw [UInt8.toNat_ofNat_of_lt' (by simp only [UInt8.size]; omega)]
  · rw [UInt8.toNat_ofNat_of_lt' (by simp only [UInt8.size]; omega)]
theorem hval_hxD (n : Nat) (h : n < 16) (g : Bool) : hval (hxD n) g = n := by
  unfold hval
  rw [hxD_nat n h]
  by_cases h1 : n < 10
  · rw [if_pos h1, if_pos (by omega)]; omega
  · rw [if_neg h1, if_neg (by omega), if_pos (by omega)]; omega
theorem ofNat_join (c : UInt8) : UInt8.ofNat (16 * (c.toNat / 16) + c.toNat % 16) = c := by
  rw [Nat.div_add_mod]; simp
theorem unhx_hex : ∀ (l out : List UInt8), unhxS (hexS l) out = (out ++ l, 0)
  | [], out => by simp [hexS, unhxS]
  | c :: l, out => by
    have hc := c.toNat_lt
    show unhxS (hxD (c.toNat / 16) :: hxD (c.toNat % 16) :: hexS l) out = _
    rw [unhxS, hval_hxD _ (by omega), hval_hxD _ (by omega), if_neg (by omega), ofNat_join, unhx_hex l]
    simp
theorem hex_len : ∀ l : List UInt8, (hexS l).length = 2 * l.length
  | [] => rfl
  | c :: l => by
    show (hxD (c.toNat / 16) :: hxD (c.toNat % 16) :: hexS l).length = _
    simp [hex_len l]; omega
theorem unhex_hex (l : List UInt8) : unhexS (hexS l) = (l, 0) := by
  unfold unhexS
  rw [hex_len, if_neg (by omega), unhx_hex]; rfl

/-! quotes -/
theorem esc_mark {c : UInt8} (h : c.toNat = 34 ∨ c.toNat = 92) : escS c = some c := by unfold escS; rw [if_pos (by omega)]
/-- The ways that a byte stands within quotes. -/
theorem one_ways (c : UInt8) : ((c.toNat = 34 ∨ c.toNat = 92) ∧ oneS c = [92, c]) ∨ (c = 10 ∧ oneS c = [92, 110]) ∨ (c = 9 ∧ oneS c = [92, 116]) ∨ (c = 13 ∧ oneS c = [92, 114])
    ∨ oneS c = [92, 120, hxD (c.toNat / 16), hxD (c.toNat % 16)] ∨ (c.toNat ≠ 34 ∧ c.toNat ≠ 92 ∧ 32 ≤ c.toNat ∧ oneS c = [c]) := by
  by_cases h1 : c.toNat = 34 ∨ c.toNat = 92
  · exact .inl ⟨h1, by unfold oneS; rw [if_pos h1]⟩
  by_cases h2 : c.toNat = 10
  · exact .inr (.inl ⟨UInt8.toNat_inj.1 h2, by unfold oneS; rw [if_neg h1, if_pos h2]⟩)
  by_cases h3 : c.toNat = 9
  · exact .inr (.inr (.inl ⟨UInt8.toNat_inj.1 h3, by unfold oneS; rw [if_neg h1, if_neg h2, if_pos h3]⟩))
  by_cases h4 : c.toNat = 13
  · exact .inr (.inr (.inr (.inl ⟨UInt8.toNat_inj.1 h4, by unfold oneS; rw [if_neg h1, if_neg h2, if_neg h3, if_pos h4]⟩)))
  by_cases h5 : c.toNat < 32 ∨ 126 < c.toNat
  · exact .inr (.inr (.inr (.inr (.inl (by unfold oneS; rw [if_neg h1, if_neg h2, if_neg h3, if_neg h4, if_pos h5])))))
  · exact .inr (.inr (.inr (.inr (.inr ⟨by omega, by omega, by omega, by unfold oneS; rw [if_neg h1, if_neg h2, if_neg h3, if_neg h4, if_neg h5]⟩))))
theorem unq_esc (d x : UInt8) (r : List UInt8) (k : Nat) (o : List UInt8) (hd : d.toNat ≠ 120) (he : escS d = some x) : unqS (92 :: d :: r) k o = unqS r (k + 2) (o ++ [x]) := by
  rw [unqS.eq_def]
  simp only
  rw [if_neg (by decide), if_neg (by decide), if_neg (by decide), if_pos hd, he]
theorem unq_hex (a b : Nat) (ha : a < 16) (hb : b < 16) (r : List UInt8) (k : Nat) (o : List UInt8) : unqS (92 :: 120 :: hxD a :: hxD b :: r) k o = unqS r (k + 4) (o ++ [UInt8.ofNat (16 * a + b)]) := by
  rw [unqS.eq_def]
  simp only
  rw [if_neg (by decide), if_neg (by decide), if_neg (by decide), if_neg (by decide), hval_hxD a ha, hval_hxD b hb, if_neg (by omega), if_neg (by omega)]
theorem unq_plain (c : UInt8) (r : List UInt8) (k : Nat) (o : List UInt8) (h1 : c.toNat ≠ 34) (h2 : c.toNat ≠ 92) (h3 : 32 ≤ c.toNat) : unqS (c :: r) k o = unqS r (k + 1) (o ++ [c]) := by
  rw [unqS.eq_def]
  simp only
  rw [if_neg h1, if_neg (by omega), if_pos h2]
theorem unq_one (c : UInt8) (r : List UInt8) (k : Nat) (o : List UInt8) : unqS (oneS c ++ r) k o = unqS r (k + (oneS c).length) (o ++ [c]) := by
  have hc := c.toNat_lt
  rcases one_ways c with ⟨h, e⟩ | ⟨rfl, e⟩ | ⟨rfl, e⟩ | ⟨rfl, e⟩ | e | ⟨h1, h2, h3, e⟩
  · rw [e]; exact unq_esc c c r k o (by omega) (esc_mark h)
  · rw [e]; exact unq_esc 110 10 r k o (by decide) (by decide)
  · rw [e]; exact unq_esc 116 9 r k o (by decide) (by decide)
  · rw [e]; exact unq_esc 114 13 r k o (by decide) (by decide)
  · rw [e]
    have := unq_hex (c.toNat / 16) (c.toNat % 16) (by omega) (by omega) r k o
    rw [ofNat_join] at this
    exact this
  · rw [e]; exact unq_plain c r k o h1 h2 h3
theorem unq_end (k : Nat) (o : List UInt8) : unqS [] k o = ([], k, 10) := by rw [unqS.eq_def]
theorem unq_nil (k : Nat) (o : List UInt8) : unqS [92] k o = ([], k + 1, 10) := by
  rw [unqS.eq_def]
  simp only
  rw [if_neg (by decide), if_neg (by decide), if_neg (by decide)]
theorem unq_x (k : Nat) (o : List UInt8) : unqS [92, 120] k o = ([], k + 2, 10) := by
  rw [unqS.eq_def]
  simp only
  rw [if_neg (by decide), if_neg (by decide), if_neg (by decide), if_neg (by decide)]
theorem unq_x1 (a : Nat) (ha : a < 16) (k : Nat) (o : List UInt8) : unqS [92, 120, hxD a] k o = ([], k + 3, 10) := by
  rw [unqS.eq_def]
  simp only
  rw [if_neg (by decide), if_neg (by decide), if_neg (by decide), if_neg (by decide), hval_hxD a ha, if_neg (by omega)]
/-- A byte that is cut off. -/
theorem unq_cut (c : UInt8) (j : Nat) (h : j < (oneS c).length) (k : Nat) (o : List UInt8) : unqS ((oneS c).take j) k o = ([], k + j, 10) := by
  have hc := c.toNat_lt
  have two : ∀ d : UInt8, j < 2 → unqS ([92, d].take j) k o = ([], k + j, 10) := fun d hj => by
    match j, hj with
    | 0, _ => exact unq_end k o
    | 1, _ => exact unq_nil k o
  rcases one_ways c with ⟨_, e⟩ | ⟨_, e⟩ | ⟨_, e⟩ | ⟨_, e⟩ | e | ⟨h1, h2, h3, e⟩
  · rw [e] at h ⊢; exact two _ h
  · rw [e] at h ⊢; exact two _ h
  · rw [e] at h ⊢; exact two _ h
  · rw [e] at h ⊢; exact two _ h
  · rw [e] at h ⊢
    have h4 : j < 4 := h
    match j, h4 with
    | 0, _ => exact unq_end k o
    | 1, _ => exact unq_nil k o
    | 2, _ => exact unq_x k o
    | 3, _ => exact unq_x1 _ (by omega) k o
  · rw [e] at h ⊢
    have h4 : j < 1 := h
    match j, h4 with
    | 0, _ => exact unq_end k o
theorem unq_flat : ∀ (l r : List UInt8) (k : Nat) (o : List UInt8), unqS (l.flatMap oneS ++ 34 :: r) k o = (o ++ l, k + (l.flatMap oneS).length + 1, 0)
  | [], r, k, o => by
    show unqS (34 :: r) k o = _
    rw [unqS.eq_def]
    simp only
    rw [if_pos (by decide)]
    simp
  | c :: l, r, k, o => by
    rw [List.flatMap_cons, List.append_assoc, unq_one, unq_flat l r]
    simp [Nat.add_assoc]
theorem unquote_mark (r : List UInt8) : unquoteS (34 :: r) = unqS r 1 [] := by
  unfold unquoteS
  simp only
  rw [if_neg (by decide)]
theorem quoteS_len (l : List UInt8) : (quoteS l).length = (l.flatMap oneS).length + 2 := by
  show (l.flatMap oneS ++ [34]).length + 1 = _
  rw [List.length_append]; rfl
theorem unquote_quote (l r : List UInt8) : unquoteS (quoteS l ++ r) = (l, (quoteS l).length, 0) := by
  have e : quoteS l ++ r = 34 :: (l.flatMap oneS ++ 34 :: r) := by simp [quoteS]
  rw [e, unquote_mark, unq_flat, quoteS_len]
  simp only [List.nil_append, Prod.mk.injEq, true_and, and_true]
  omega
theorem canon_quote (l : List UInt8) : canonS (quoteS l) = true := by
  have := unquote_quote l []
  rw [List.append_nil] at this
  unfold canonS
  rw [this]
  simp
theorem quote_inj {l r : List UInt8} : quoteS l = quoteS r ↔ l = r := by
  refine ⟨fun h => ?_, fun h => by rw [h]⟩
  have h1 := unquote_quote l []
  have h2 := unquote_quote r []
  rw [h, h2] at h1
  exact (congrArg Prod.fst h1).symm
theorem unq_flat_cut : ∀ (l : List UInt8) (j : Nat) (k : Nat) (o : List UInt8), j ≤ (l.flatMap oneS).length → unqS ((l.flatMap oneS).take j) k o = ([], k + j, 10)
  | [], j, k, o, h => by
    have : j = 0 := by simpa using h
    subst this
    exact unq_end k o
  | c :: l, j, k, o, h => by
    rw [List.flatMap_cons] at h ⊢
    rcases Nat.lt_or_ge j (oneS c).length with h1 | h1
    · rw [List.take_append_of_le_length (by omega)]
      exact unq_cut c j h1 k o
    · obtain ⟨i, rfl⟩ : ∃ i, j = (oneS c).length + i := ⟨j - (oneS c).length, by omega⟩
      rw [List.length_append] at h
      rw [List.take_length_add_append, unq_one, unq_flat_cut l i _ _ (by omega), Nat.add_assoc]
theorem unquote_cut (l : List UInt8) (j : Nat) (h : j < (quoteS l).length) : (unquoteS ((quoteS l).take j)).2 = (j, 10) := by
  cases j with
  | zero => rfl
  | succ j =>
    have hl := quoteS_len l
    have e : (quoteS l).take (j + 1) = 34 :: (l.flatMap oneS).take j := by
      show 34 :: (l.flatMap oneS ++ [34]).take j = _
      rw [List.take_append_of_le_length (by omega)]
    rw [e, unquote_mark, unq_flat_cut l j 1 [] (by omega), Nat.add_comm]
theorem one_len (c : UInt8) : (oneS c).length ≤ 4 := by
  rcases one_ways c with ⟨_, e⟩ | ⟨_, e⟩ | ⟨_, e⟩ | ⟨_, e⟩ | e | ⟨_, _, _, e⟩ <;> rw [e] <;> simp
theorem quote_len (l : List UInt8) : (quoteS l).length ≤ 4 * l.length + 2 := by
  have : ∀ l : List UInt8, (l.flatMap oneS).length ≤ 4 * l.length := by
    intro l
    induction l with
    | nil => simp
    | cons c l ih => have := one_len c; simp only [List.flatMap_cons, List.length_append, List.length_cons]; omega
  have := this l
  rw [quoteS_len]; omega
end Go.Proofs.YtgdlkaoadlipmaaGreatDoor

/- The tokens of a text, by lists of bytes: what stands at a place, all of them, how they are printed; they follow one another, and what is printed of them has them again. -/
namespace Go.Proofs.YtgdlkaoadlipmaaGreatDoor
open Go.RowKit
set_option linter.unusedSimpArgs false

def blkS (c : UInt8) : Bool := decide (c.toNat = 32 ∨ c.toNat = 9 ∨ c.toNat = 10 ∨ c.toNat = 13)
def nbS (c : UInt8) : Bool := letS c || digS c
def signsS : List (List UInt8) := [[46, 46], [61, 61], [33, 61], [60, 61], [62, 61], [38, 38], [124, 124], [91], [93], [123], [125], [60], [62], [40], [41], [44], [58], [46], [42], [63], [33], [36], [64]]
/-- A token: its kind, the number, the text. -/
structure TkR where
  k : Int
  n : Int
  t : List UInt8
def zTk : TkR := ⟨0, 0, []⟩
/-- What stands at the beginning of these bytes, how long it is; or where it breaks, and how. -/
def tokR : List UInt8 → TkR × Nat × Int
  | [] => (zTk, 0, 0)
  | c :: r =>
    if c.toNat = 34 then (if (unquoteS (c :: r)).2.2 = 0 then (⟨4, 0, (unquoteS (c :: r)).1⟩, (unquoteS (c :: r)).2.1, 0) else (zTk, (unquoteS (c :: r)).2.1, (unquoteS (c :: r)).2.2))
    else if c.toNat = 45 ∨ digS c = true then (if (parseS (c :: r.takeWhile digS)).2 = 0 then (⟨3, (parseS (c :: r.takeWhile digS)).1, []⟩, (r.takeWhile digS).length + 1, 0) else (zTk, 0, (parseS (c :: r.takeWhile digS)).2))
    else if letS c = true then (⟨2, 0, (c :: r).takeWhile nbS⟩, ((c :: r).takeWhile nbS).length, 0)
    else match signsS.find? fun x => x.isPrefixOf (c :: r) with
      | some x => (⟨1, 0, x⟩, x.length, 0)
      | none => (zTk, 0, 2)
theorem tokR_cons (c : UInt8) (r : List UInt8) : tokR (c :: r) =
    if c.toNat = 34 then (if (unquoteS (c :: r)).2.2 = 0 then (⟨4, 0, (unquoteS (c :: r)).1⟩, (unquoteS (c :: r)).2.1, 0) else (zTk, (unquoteS (c :: r)).2.1, (unquoteS (c :: r)).2.2))
    else if c.toNat = 45 ∨ digS c = true then (if (parseS (c :: r.takeWhile digS)).2 = 0 then (⟨3, (parseS (c :: r.takeWhile digS)).1, []⟩, (r.takeWhile digS).length + 1, 0) else (zTk, 0, (parseS (c :: r.takeWhile digS)).2))
    else if letS c = true then (⟨2, 0, (c :: r).takeWhile nbS⟩, ((c :: r).takeWhile nbS).length, 0)
    else match signsS.find? fun x => x.isPrefixOf (c :: r) with
      | some x => (⟨1, 0, x⟩, x.length, 0)
      | none => (zTk, 0, 2) := rfl
/-- A token with its places. -/
structure Tok where
  k : Int
  a : Nat
  e : Nat
  n : Int
  t : List UInt8
def tokAt (p : Nat) (x : TkR) (m : Nat) : Tok := ⟨x.k, p, p + m, x.n, x.t⟩
def blkLen (r : List UInt8) : Nat := (r.takeWhile blkS).length
/-- The token at a place of a text (with the kind 0: none is there), or where it breaks, and how. -/
def nextS (l : List UInt8) (p : Nat) : Tok × Nat × Int :=
  let b := p + blkLen (l.drop p)
  let q := tokR (l.drop b)
  if q.2.2 = 0 then (tokAt b q.1 q.2.1, 0, 0) else (⟨0, 0, 0, 0, []⟩, b + q.2.1, q.2.2)
/-- All tokens from a place on. -/
def lexS (l : List UInt8) : Nat → Nat → List Tok × Nat × Int
  | 0, _ => ([], 0, 0)
  | f + 1, p =>
    let q := nextS l p
    if q.2.2 ≠ 0 then ([], q.2)
    else if q.1.k = 0 then ([], 0, 0)
    else (if (lexS l f q.1.e).2.2 = 0 then q.1 :: (lexS l f q.1.e).1 else [], (lexS l f q.1.e).2)
def allS (l : List UInt8) : List Tok × Nat × Int := lexS l (l.length + 1) 0
/-- A token, printed. -/
def prnS (x : TkR) : List UInt8 := if x.k = 1 ∨ x.k = 2 then x.t else if x.k = 3 then Lib.itoa x.n else if x.k = 4 then quoteS x.t else []
def joinS : List TkR → List UInt8
  | [] => []
  | [x] => prnS x
  | x :: y :: l => prnS x ++ 32 :: joinS (y :: l)

/-! how long a token is -/
theorem lx_tw {α : Type} (p : α → Bool) (l : List α) : (l.takeWhile p).length ≤ l.length := (List.takeWhile_prefix p).length_le
theorem lx_tweq {α : Type} (p : α → Bool) (l : List α) : l.takeWhile p = l.take (l.takeWhile p).length := (List.prefix_iff_eq_take.1 (List.takeWhile_prefix p))
theorem lx_unq : ∀ (n : Nat) (l : List UInt8) (k : Nat) (o : List UInt8), l.length ≤ n → k ≤ (unqS l k o).2.1 ∧ (unqS l k o).2.1 ≤ k + l.length ∧ ((unqS l k o).2.2 = 0 → k < (unqS l k o).2.1)
  | 0, l, k, o, h => by
    obtain rfl : l = [] := List.eq_nil_of_length_eq_zero (by omega)
    rw [unq_end]; simp
  | n + 1, l, k, o, h => by
    rw [unqS.eq_def]
    split
    · simp
    · rename_i c r
      simp only [List.length_cons] at h ⊢
      split
      · simp
      · split
        · simp
        · split
          · have := lx_unq n r (k + 1) (o ++ [c]) (by omega)
            refine ⟨by omega, by omega, fun h => by have := this.2.2 h; omega⟩
          · split
            · simp
            · rename_i d r
              simp only [List.length_cons] at h ⊢
              split
              · split
                · refine ⟨by simp, by simp, by simp⟩
                · rename_i x _
                  have := lx_unq n r (k + 2) (o ++ [x]) (by omega)
                  refine ⟨by omega, by omega, fun h => by have := this.2.2 h; omega⟩
              · split
                · simp
                · rename_i h1 r
                  simp only [List.length_cons] at h ⊢
                  split
                  · refine ⟨by simp, by simp, by simp⟩
                  · split
                    · simp
                    · rename_i h2 r
                      simp only [List.length_cons] at h ⊢
                      split
                      · refine ⟨by simp, by simp, by simp⟩
                      · have := lx_unq n r (k + 4) (o ++ [UInt8.ofNat (16 * hval h1 true + hval h2 true)]) (by omega)
                        refine ⟨by omega, by omega, fun h => by have := this.2.2 h; omega⟩
theorem lx_unquote (l : List UInt8) : (unquoteS l).2.1 ≤ l.length ∧ ((unquoteS l).2.2 = 0 → 0 < (unquoteS l).2.1) := by
  unfold unquoteS
  split
  · simp
  · rename_i c r
    split
    · simp
    · have := lx_unq r.length r 1 [] (Nat.le_refl _)
      simp only [List.length_cons]
      exact ⟨by omega, fun h => by have := this.2.2 h; omega⟩
theorem sign_len {x r : List UInt8} (h : signsS.find? (fun x => x.isPrefixOf r) = some x) : 0 < x.length ∧ x.length ≤ r.length ∧ x ∈ signsS ∧ ∃ q, r = x ++ q := by
  have h1 := List.find?_some h
  have h2 := List.mem_of_find?_eq_some h
  obtain ⟨q, hq⟩ := List.isPrefixOf_iff_prefix.1 h1
  refine ⟨?_, by rw [← hq]; simp, h2, q, hq.symm⟩
  have : ∀ y ∈ signsS, 0 < y.length := by decide
  exact this x h2
/-- A token has a length, but at the end. -/
theorem tokR_len (r : List UInt8) : (tokR r).2.1 ≤ r.length ∧ ((tokR r).2.2 = 0 → r ≠ [] → 0 < (tokR r).2.1 ∧ 0 < (tokR r).1.k) := by
  cases r with
  | nil => simp [tokR]
  | cons c r =>
    rw [tokR_cons]
    split
    · have h := lx_unquote (c :: r)
      split
      · rename_i he
        exact ⟨h.1, fun _ _ => ⟨h.2 he, (by decide : (0 : Int) < 4)⟩⟩
      · rename_i he
        exact ⟨h.1, fun h' _ => absurd h' he⟩
    · split
      · split
        · have := lx_tw digS r
          simp only [List.length_cons]
          exact ⟨by omega, fun _ _ => ⟨by omega, (by decide : (0 : Int) < 3)⟩⟩
        · rename_i he
          exact ⟨Nat.zero_le _, fun h' _ => absurd h' he⟩
      · split
        · rename_i hl
          refine ⟨lx_tw nbS (c :: r), fun _ _ => ⟨?_, (by decide : (0 : Int) < 2)⟩⟩
          rw [List.takeWhile_cons, if_pos (by unfold nbS; rw [hl]; rfl)]
          simp
        · split
          · rename_i x hx
            obtain ⟨h1, h2, _⟩ := sign_len hx
            exact ⟨h2, fun _ _ => ⟨h1, (by decide : (0 : Int) < 1)⟩⟩
          · exact ⟨Nat.zero_le _, fun h' _ => absurd h' (by decide)⟩
theorem blk_len (r : List UInt8) : blkLen r ≤ r.length := lx_tw blkS r
theorem next_k (l : List UInt8) (p : Nat) (hp : p ≤ l.length) (h : (nextS l p).2.2 = 0) :
    p ≤ (nextS l p).1.a ∧ (nextS l p).1.a ≤ (nextS l p).1.e ∧ (nextS l p).1.e ≤ l.length ∧ (nextS l p).1.a = p + blkLen (l.drop p) ∧ ((nextS l p).1.k = 0 → (nextS l p).1.a = l.length) ∧ ((nextS l p).1.k ≠ 0 → (nextS l p).1.a < (nextS l p).1.e) := by
  have hb := blk_len (l.drop p)
  rw [List.length_drop] at hb
  have ht := tokR_len (l.drop (p + blkLen (l.drop p)))
  rw [List.length_drop] at ht
  unfold nextS at h ⊢
  simp only at h ⊢
  split at h
  · rename_i h0
    rw [if_pos h0]
    simp only [tokAt]
    refine ⟨by omega, by omega, by omega, trivial, fun hk => ?_, fun hk => ?_⟩
    · rcases Nat.lt_or_ge (p + blkLen (l.drop p)) l.length with hlt | hge
      · have := (ht.2 h0 (fun e => by have := congrArg List.length e; simp at this; omega)).2
        omega
      · omega
    · rcases Nat.lt_or_ge (p + blkLen (l.drop p)) l.length with hlt | hge
      · have := (ht.2 h0 (fun e => by have := congrArg List.length e; simp at this; omega)).1
        omega
      · rw [List.drop_eq_nil_of_le hge] at hk
        exact absurd rfl hk
  · rename_i h0
    exact absurd h h0
theorem next_bad (l : List UInt8) (p : Nat) (hp : p ≤ l.length) (h : (nextS l p).2.2 ≠ 0) : (nextS l p).2.1 ≤ l.length := by
  have hb := blk_len (l.drop p)
  rw [List.length_drop] at hb
  have ht := (tokR_len (l.drop (p + blkLen (l.drop p)))).1
  rw [List.length_drop] at ht
  unfold nextS at h ⊢
  dsimp only at h ⊢
  split at h
  · exact absurd rfl h
  · rename_i h0
    rw [if_neg h0]
    simp only
    omega
/-- More rounds change nothing. -/
theorem lexS_fuel (l : List UInt8) : ∀ (f g p : Nat), p ≤ l.length → l.length < f + p → l.length < g + p → lexS l f p = lexS l g p
  | 0, _, p, hp, h1, _ => by omega
  | _ + 1, 0, p, hp, _, h2 => by omega
  | f + 1, g + 1, p, hp, h1, h2 => by
    unfold lexS
    simp only
    by_cases he : (nextS l p).2.2 = 0
    · have hk := next_k l p hp he
      by_cases h0 : (nextS l p).1.k = 0
      · simp only [he, h0, ne_eq, not_true, if_false, if_true]
      · have := hk.2.2.2.2.2 h0
        rw [lexS_fuel l f g (nextS l p).1.e hk.2.2.1 (by omega) (by omega)]
    · simp only [ne_eq, he, not_false_eq_true, if_true]
/-- One step of all tokens. -/
theorem lexS_step (l : List UInt8) (p : Nat) (hp : p ≤ l.length) : lexS l (l.length + 1) p =
    if (nextS l p).2.2 ≠ 0 then ([], (nextS l p).2) else if (nextS l p).1.k = 0 then ([], 0, 0)
    else (if (lexS l (l.length + 1) (nextS l p).1.e).2.2 = 0 then (nextS l p).1 :: (lexS l (l.length + 1) (nextS l p).1.e).1 else [], (lexS l (l.length + 1) (nextS l p).1.e).2) := by
  rw [lexS]
  by_cases he : (nextS l p).2.2 = 0
  · have hk := next_k l p hp he
    by_cases h0 : (nextS l p).1.k = 0
    · simp only [he, h0, ne_eq, not_true, if_false, if_true]
    · have := hk.2.2.2.2.2 h0
      rw [lexS_fuel l l.length (l.length + 1) (nextS l p).1.e hk.2.2.1 (by omega) (by omega)]
  · simp only [ne_eq, he, not_false_eq_true, if_true]
end Go.Proofs.YtgdlkaoadlipmaaGreatDoor

/- What is printed of tokens has those tokens again; tokens follow one another. -/
namespace Go.Proofs.YtgdlkaoadlipmaaGreatDoor
open Go.RowKit
set_option linter.unusedSimpArgs false

def GoodTk (x : TkR) : Prop := (x.k = 1 ∧ x.n = 0 ∧ x.t ∈ signsS) ∨ (x.k = 2 ∧ x.n = 0 ∧ nameS x.t = true) ∨ (x.k = 3 ∧ InR x.n ∧ x.t = []) ∨ (x.k = 4 ∧ x.n = 0)
def Tok.r (t : Tok) : TkR := ⟨t.k, t.n, t.t⟩
theorem tw_all {α : Type} (p : α → Bool) (l : List α) : (l.takeWhile p).all p = true := by
  induction l with
  | nil => rfl
  | cons c r ih =>
    rw [List.takeWhile_cons]
    split
    · rename_i h; rw [List.all_cons, h, ih]; rfl
    · rfl
theorem chk_rng {n : Int} (h : (chk n).2 = 0) : InR (chk n).1 := by
  by_cases hn : InR n
  · rw [chk_in hn]; exact hn
  · rw [chk_out hn] at h; exact absurd h (by decide)
theorem parse_rng (l : List UInt8) (h : (parseS l).2 = 0) : InR (parseS l).1 := by
  cases l with
  | nil => simp [parseS] at h
  | cons c r =>
    unfold parseS at h ⊢
    simp only at h ⊢
    repeat' split at h
    all_goals first
      | (simp at h; done)
      | skip
    · rename_i h1 h2 h3
      rw [if_pos h1, if_neg h2, if_pos h3]
      unfold signedS at h ⊢
      exact chk_rng h
    · rename_i h1 h2
      rw [if_neg h1, if_pos h2]
      unfold signedS at h ⊢
      exact chk_rng h
theorem tokR_good (r : List UInt8) (h : (tokR r).2.2 = 0) (hr : r ≠ []) : GoodTk (tokR r).1 := by
  cases r with
  | nil => exact absurd rfl hr
  | cons c r =>
    rw [tokR_cons] at h ⊢
    split at h
    · rename_i h1
      rw [if_pos h1]
      split at h
      · rename_i h2
        rw [if_pos h2]
        exact .inr (.inr (.inr ⟨rfl, rfl⟩))
      · rename_i h2; exact absurd h h2
    · rename_i h1
      rw [if_neg h1]
      split at h
      · rename_i h2
        rw [if_pos h2]
        split at h
        · rename_i h3
          rw [if_pos h3]
          exact .inr (.inr (.inl ⟨rfl, parse_rng _ h3, rfl⟩))
        · rename_i h3; exact absurd h h3
      · rename_i h2
        rw [if_neg h2]
        split at h
        · rename_i h3
          rw [if_pos h3]
          refine .inr (.inl ⟨rfl, rfl, ?_⟩)
          have hn : nbS c = true := by unfold nbS; rw [h3]; rfl
          show nameS ((c :: r).takeWhile nbS) = true
          rw [List.takeWhile_cons, if_pos hn]
          show (letS c && (r.takeWhile nbS).all nbS) = true
          rw [h3, Bool.true_and]
          exact tw_all nbS r
        · rename_i h3
          rw [if_neg h3]
          split at h
          · rename_i x hx
            exact .inl ⟨rfl, rfl, (sign_len hx).2.2.1⟩
          · exact absurd h (by decide)
theorem next_good (l : List UInt8) (p : Nat) (h : (nextS l p).2.2 = 0) (hk : (nextS l p).1.k ≠ 0) : GoodTk (nextS l p).1.r := by
  unfold nextS at h hk ⊢
  simp only at h hk ⊢
  split at h
  · rename_i h0
    rw [if_pos h0] at hk ⊢
    refine tokR_good _ h0 fun e => hk ?_
    rw [e]; rfl
  · rename_i h0; exact absurd h h0
theorem lex_good (l : List UInt8) : ∀ (f p : Nat), ∀ t ∈ (lexS l f p).1, GoodTk t.r
  | 0, p, t, ht => by cases ht
  | f + 1, p, t, ht => by
    unfold lexS at ht
    simp only at ht
    split at ht
    · cases ht
    · rename_i h1
      split at ht
      · cases ht
      · rename_i h2
        simp only at ht
        split at ht
        · rcases List.mem_cons.1 ht with rfl | ht
          · exact next_good l p (by simpa using h1) h2
          · exact lex_good l f _ t ht
        · cases ht
/-! printed -/
def Behind (r : List UInt8) : Prop := r = [] ∨ ∃ q, r = 32 :: q
theorem tw_behind (p : UInt8 → Bool) (l r : List UInt8) (hl : l.all p = true) (h32 : p 32 = false) (hr : Behind r) : (l ++ r).takeWhile p = l := by
  induction l with
  | nil =>
    rcases hr with rfl | ⟨q, rfl⟩
    · rfl
    · rw [List.nil_append, List.takeWhile_cons, if_neg (by rw [h32]; decide)]
  | cons c t ih =>
    rw [List.all_cons, Bool.and_eq_true] at hl
    rw [List.cons_append, List.takeWhile_cons, if_pos hl.1, ih hl.2]
theorem sign_all : ∀ x ∈ signsS, ∀ q : List UInt8, (∃ c t, x = c :: t ∧ c.toNat ≠ 34 ∧ c.toNat ≠ 45 ∧ digS c = false ∧ letS c = false ∧ blkS c = false) ∧ signsS.find? (fun y => y.isPrefixOf (x ++ 32 :: q)) = some x ∧ signsS.find? (fun y => y.isPrefixOf x) = some x := by
  intro x hx q
  simp only [signsS, List.mem_cons, List.not_mem_nil, or_false] at hx
  rcases hx with rfl | rfl | rfl | rfl | rfl | rfl | rfl | rfl | rfl | rfl | rfl | rfl | rfl | rfl | rfl | rfl | rfl | rfl | rfl | rfl | rfl | rfl | rfl <;> exact ⟨⟨_, _, rfl, by decide, by decide, by decide, by decide, by decide⟩, by rfl, by rfl⟩
theorem itoa_head (n : Int) : ∃ c t, Lib.itoa n = c :: t ∧ (c.toNat = 45 ∨ digS c = true) ∧ t.all digS = true ∧ c.toNat ≠ 34 ∧ blkS c = false := by
  have hd : ∀ c, digS c = true → c.toNat ≠ 34 ∧ blkS c = false := fun c h => by
    unfold digS at h; have := of_decide_eq_true h
    refine ⟨by omega, decide_eq_false (by omega)⟩
  have ha : ∀ u : Nat, ∃ c t, Lib.decDigits u = c :: t ∧ digS c = true ∧ t.all digS = true := fun u => by
    have h1 := all_dec u
    cases h : Lib.decDigits u with
    | nil => exact absurd h (dec_ne u)
    | cons c t =>
      rw [h, List.all_cons, Bool.and_eq_true] at h1
      exact ⟨c, t, rfl, h1.1, h1.2⟩
  unfold Lib.itoa
  split
  · obtain ⟨c, t, h, h1, h2⟩ := ha (-n).toNat
    refine ⟨45, _, rfl, .inl rfl, ?_, by decide, by decide⟩
    first
      | (rw [h, List.all_cons, h1, h2]; rfl)
      | exact all_dec _
  · obtain ⟨c, t, h, h1, h2⟩ := ha n.toNat
    exact ⟨c, t, h, .inr h1, h2, (hd c h1).1, (hd c h1).2⟩
/-- A token that is printed is read again. -/
theorem tok_print (x : TkR) (hx : GoodTk x) (r : List UInt8) (hr : Behind r) : tokR (prnS x ++ r) = (x, (prnS x).length, 0) ∧ ∃ c t, prnS x = c :: t ∧ blkS c = false := by
  obtain ⟨k, n, t⟩ := x
  rcases hx with ⟨rfl, rfl, h3⟩ | ⟨rfl, rfl, h3⟩ | ⟨rfl, h2, rfl⟩ | ⟨rfl, rfl⟩
  · have hp : prnS ⟨1, 0, t⟩ = t := rfl
    rw [hp]
    obtain ⟨⟨c, q, rfl, h34, h45, hd, hl, hb⟩, -, hf0⟩ := sign_all t h3 []
    have hf : signsS.find? (fun y => y.isPrefixOf (c :: q ++ r)) = some (c :: q) := by
      rcases hr with rfl | ⟨q', rfl⟩
      · rw [List.append_nil]; exact hf0
      · exact (sign_all _ h3 q').2.1
    refine ⟨?_, c, q, rfl, hb⟩
    rw [List.cons_append] at hf ⊢
    rw [tokR_cons]
    rw [if_neg h34, if_neg (fun h => h.elim h45 (fun h => by rw [hd] at h; cases h)), if_neg (by rw [hl]; decide), hf]
  · have hp : prnS ⟨2, 0, t⟩ = t := rfl
    rw [hp]
    cases t with
    | nil => cases h3
    | cons c q =>
      unfold nameS at h3
      obtain ⟨h4, h5⟩ := Bool.and_eq_true_iff.1 h3
      have hl := of_decide_eq_true (show decide (97 ≤ c.toNat ∧ c.toNat ≤ 122 ∨ 65 ≤ c.toNat ∧ c.toNat ≤ 90 ∨ c.toNat = 95) = true from h4)
      have hd : digS c = false := decide_eq_false (by omega)
      have hn : (c :: q).all nbS = true := by rw [List.all_cons]; unfold nbS; rw [h4]; exact h5
      have htw := tw_behind nbS (c :: q) r hn (by decide) hr
      refine ⟨?_, c, q, rfl, decide_eq_false (by omega)⟩
      rw [List.cons_append] at htw ⊢
      rw [tokR_cons]
      rw [if_neg (by omega), if_neg (fun h => h.elim (by omega) (fun h => by rw [hd] at h; cases h)), if_pos h4, htw]
  · have hp : prnS ⟨3, n, []⟩ = Lib.itoa n := rfl
    rw [hp]
    obtain ⟨c, q, he, hc, ha, h34, hb⟩ := itoa_head n
    have htw := tw_behind digS q r ha (by decide) hr
    have hps := parse_itoa n h2
    refine ⟨?_, c, q, he, hb⟩
    rw [he] at hps ⊢
    rw [List.cons_append]
    rw [tokR_cons]
    rw [if_neg h34, if_pos hc, htw, hps, if_pos rfl]
    rfl
  · have hp : prnS ⟨4, 0, t⟩ = quoteS t := rfl
    rw [hp]
    refine ⟨?_, 34, _, rfl, by decide⟩
    have hq := unquote_quote t r
    have he : quoteS t ++ r = 34 :: (t.flatMap oneS ++ [34] ++ r) := rfl
    rw [he] at hq ⊢
    rw [tokR_cons]
    rw [if_pos (by decide), hq]
    rfl
theorem next_of (l : List UInt8) (p : Nat) (b : Bool) (r : List UInt8) (h : l.drop p = (if b then [32] else []) ++ r) (hr : ∀ c t, r = c :: t → blkS c = false) :
    nextS l p = if (tokR r).2.2 = 0 then (tokAt (p + (if b then 1 else 0)) (tokR r).1 (tokR r).2.1, 0, 0) else (⟨0, 0, 0, 0, []⟩, p + (if b then 1 else 0) + (tokR r).2.1, (tokR r).2.2) := by
  have hz : ∀ r : List UInt8, (∀ c t, r = c :: t → blkS c = false) → r.takeWhile blkS = [] := fun r hr => by
    cases r with
    | nil => rfl
    | cons c t => rw [List.takeWhile_cons, if_neg (by rw [hr c t rfl]; decide)]
  have hb : blkLen (l.drop p) = if b then 1 else 0 := by
    unfold blkLen
    rw [h]
    cases b
    · rw [if_neg (by decide), List.nil_append, hz r hr]; rfl
    · rw [if_pos rfl, List.cons_append, List.nil_append, List.takeWhile_cons, if_pos (by decide), hz r hr]; rfl
  have hd : l.drop (p + blkLen (l.drop p)) = r := by
    rw [← List.drop_drop, hb, h]
    cases b <;> rfl
  unfold nextS
  simp only
  rw [hd, hb]
theorem drop_len {l r : List UInt8} {p : Nat} (hp : p ≤ l.length) (h : l.drop p = r) : l.length = p + r.length := by
  have := congrArg List.length h
  rw [List.length_drop] at this
  omega
theorem join_head (x : TkR) (xs : List TkR) : ∃ r, joinS (x :: xs) = prnS x ++ r ∧ Behind r ∧ (xs = [] → r = []) ∧ (xs ≠ [] → r = 32 :: joinS xs) := by
  cases xs with
  | nil => exact ⟨[], by rw [joinS, List.append_nil], .inl rfl, fun _ => rfl, fun h => absurd rfl h⟩
  | cons y l => exact ⟨_, rfl, .inr ⟨_, rfl⟩, fun h => absurd h (by simp), fun _ => rfl⟩
/-- What is printed of tokens has those tokens again, but for their places. -/
theorem lex_back (l : List UInt8) : ∀ (xs : List TkR) (p : Nat) (b : Bool), (∀ x ∈ xs, GoodTk x) → p ≤ l.length → l.drop p = (if b then [32] else []) ++ joinS xs →
    ∃ ts, lexS l (l.length + 1) p = (ts, 0, 0) ∧ ts.map Tok.r = xs
  | [], p, b, _, hp, hd => by
    have hn := next_of l p b [] (by rw [hd]; rfl) (fun c t e => by cases e)
    rw [lexS_step l p hp, hn]
    exact ⟨[], by simp [tokR, tokAt, zTk], rfl⟩
  | x :: xs, p, b, hg, hp, h => by
    obtain ⟨r, hj, hr, h1, h2⟩ := join_head x xs
    rw [hj] at h
    obtain ⟨ht, c, t, hc, hb⟩ := tok_print x (hg x List.mem_cons_self) r hr
    have hn := next_of l p b (prnS x ++ r) h (fun c' t' e => by
      rw [hc, List.cons_append] at e
      rw [← (List.cons.inj e).1]; exact hb)
    rw [ht] at hn
    simp only [if_true] at hn
    have hk : x.k ≠ 0 := by
      rcases hg x List.mem_cons_self with h | h | h | h <;> (have := h.1; omega)
    have hlen := drop_len hp h
    rw [List.length_append, List.length_append] at hlen
    have hb1 : (if b = true then [(32 : UInt8)] else []).length = if b then 1 else 0 := by cases b <;> rfl
    rw [hb1] at hlen
    have he : p + (if b then 1 else 0) + (prnS x).length ≤ l.length := by omega
    have hd : l.drop (p + (if b then 1 else 0) + (prnS x).length) = r := by
      rw [← List.drop_drop, ← List.drop_drop, h]
      cases b <;> simp
    obtain ⟨ts, hts, hm⟩ : ∃ ts, lexS l (l.length + 1) (p + (if b then 1 else 0) + (prnS x).length) = (ts, 0, 0) ∧ ts.map Tok.r = xs := by
      by_cases hx : xs = []
      · exact lex_back l xs _ false (fun y hy => hg y (List.mem_cons_of_mem _ hy)) he (by rw [hd, h1 hx, hx]; rfl)
      · exact lex_back l xs _ true (fun y hy => hg y (List.mem_cons_of_mem _ hy)) he (by rw [hd, h2 hx]; rfl)
    refine ⟨tokAt (p + (if b then 1 else 0)) x (prnS x).length :: ts, ?_, by rw [List.map_cons, hm]; rfl⟩
    rw [lexS_step l p hp, hn]
    simp only [tokAt, ne_eq, not_true, if_false, hk, hts, if_true]
theorem all_back (l : List UInt8) (_ : (allS l).2.2 = 0) : ∃ ts, allS (joinS ((allS l).1.map Tok.r)) = (ts, 0, 0) ∧ ts.map Tok.r = (allS l).1.map Tok.r :=
  lex_back _ _ 0 false (fun x hx => by obtain ⟨t, ht, rfl⟩ := List.mem_map.1 hx; exact lex_good l _ 0 t ht) (Nat.zero_le _) rfl
/-! tokens follow one another -/
/-- From a place on: blanks, a token, blanks, .. up to the end. -/
def FolS (l : List UInt8) : Nat → List Tok → Prop
  | p, [] => p ≤ l.length ∧ (l.drop p).all blkS = true
  | p, t :: ts => p ≤ t.a ∧ t.a < t.e ∧ t.e ≤ l.length ∧ ((l.drop p).take (t.a - p)).all blkS = true ∧ FolS l t.e ts
theorem lex_fol (l : List UInt8) : ∀ (f p : Nat), p ≤ l.length → l.length < f + p → (lexS l f p).2.2 = 0 → FolS l p (lexS l f p).1
  | 0, p, hp, h, _ => by omega
  | f + 1, p, hp, h, he => by
    unfold lexS at he ⊢
    simp only at he ⊢
    by_cases h1 : (nextS l p).2.2 = 0
    · have hk := next_k l p hp h1
      have hbl : ((l.drop p).take ((nextS l p).1.a - p)).all blkS = true := by
        rw [hk.2.2.2.1, Nat.add_sub_cancel_left]
        show ((l.drop p).take ((l.drop p).takeWhile blkS).length).all blkS = true
        rw [← lx_tweq]; exact tw_all _ _
      simp only [h1, ne_eq, not_true, if_false] at he ⊢
      by_cases h2 : (nextS l p).1.k = 0
      · simp only [h2, if_true]
        refine ⟨hp, ?_⟩
        rw [hk.2.2.2.2.1 h2, ← List.length_drop, List.take_length] at hbl
        exact hbl
      · have h3 := hk.2.2.2.2.2 h2
        simp only [h2, if_false] at he ⊢
        rw [if_pos he]
        exact ⟨hk.1, h3, hk.2.2.1, hbl, lex_fol l f _ hk.2.2.1 (by omega) he⟩
    · simp only [ne_eq, h1, not_false_eq_true, if_true] at he
theorem all_fol (l : List UInt8) (h : (allS l).2.2 = 0) : FolS l 0 (allS l).1 := lex_fol l _ 0 (Nat.zero_le _) (by omega) h
theorem lex_bad (l : List UInt8) : ∀ (f p : Nat), p ≤ l.length → (lexS l f p).2.2 ≠ 0 → (lexS l f p).1 = [] ∧ (lexS l f p).2.1 ≤ l.length
  | 0, p, hp, he => by simp [lexS] at he
  | f + 1, p, hp, he => by
    unfold lexS at he ⊢
    simp only at he ⊢
    by_cases h1 : (nextS l p).2.2 = 0
    · have hk := next_k l p hp h1
      simp only [h1, ne_eq, not_true, if_false] at he ⊢
      by_cases h2 : (nextS l p).1.k = 0
      · exact absurd he (by simp [h2])
      · simp only [h2, if_false] at he ⊢
        rw [if_neg he]
        exact ⟨rfl, (lex_bad l f _ hk.2.2.1 he).2⟩
    · simp only [ne_eq, h1, not_false_eq_true, if_true] at he ⊢
      exact ⟨trivial, next_bad l p hp h1⟩
end Go.Proofs.YtgdlkaoadlipmaaGreatDoor
