/- Plain facts of layer 2: the order of texts; texts in quotes; hexadecimal digits; names. No program is imported. -/
import Derived.WalkKit
namespace Go.Proofs.Ytjefaibnlhnaiaa
open Go.RowKit

/-! the order -/
def commonS : List UInt8 → List UInt8 → Nat
  | a :: l, b :: r => if a = b then commonS l r + 1 else 0
  | _, _ => 0
def orderS (a b : List UInt8) : Int := if a = b then 0 else if a < b then -1 else 1
theorem commonS_of : ∀ (k : Nat) (l r : List UInt8), l.take k = r.take k → k ≤ l.length → k ≤ r.length → (k = l.length ∨ k = r.length ∨ l[k]? ≠ r[k]?) → commonS l r = k
  | 0, l, r, _, _, _, h => by
    cases l with
    | nil => rfl
    | cons a l =>
      cases r with
      | nil => rfl
      | cons b r =>
        rcases h with h | h | h
        · simp at h
        · simp at h
        · have : ¬ a = b := by simpa using h
          simp [commonS, this]
  | k + 1, l, r, ht, hl, hr, h => by
    cases l with
    | nil => simp at hl
    | cons a l =>
      cases r with
      | nil => simp at hr
      | cons b r =>
        simp only [List.take_succ_cons, List.cons.injEq] at ht
        simp only [List.length_cons] at hl hr h
        simp only [commonS]
        rw [if_pos ht.1, commonS_of k l r ht.2 (by omega) (by omega) (by
          rcases h with h | h | h
          · exact .inl (by omega)
          · exact .inr (.inl (by omega))
          · exact .inr (.inr (by simpa using h)))]
theorem commonS_le : ∀ (l r : List UInt8), commonS l r ≤ l.length ∧ commonS l r ≤ r.length ∧ l.take (commonS l r) = r.take (commonS l r) ∧ (commonS l r = l.length ∨ commonS l r = r.length ∨ l[commonS l r]? ≠ r[commonS l r]?)
  | [], r => by simp [commonS]
  | _ :: _, [] => by simp [commonS]
  | a :: l, b :: r => by
    obtain ⟨h1, h2, h3, h4⟩ := commonS_le l r
    simp only [commonS]
    by_cases h : a = b
    · rw [if_pos h]
      refine ⟨by simp; omega, by simp; omega, by simp [h, h3], ?_⟩
      rcases h4 with h4 | h4 | h4
      · exact .inl (by simp [h4])
      · exact .inr (.inl (by simp [h4]))
      · exact .inr (.inr (by simpa using h4))
    · rw [if_neg h]
      exact ⟨by simp, by simp, by simp, .inr (.inr (by simpa using h))⟩
/-- By the first place where they are unlike. -/
theorem order_of (l r : List UInt8) : ∀ k, l.take k = r.take k → k ≤ l.length → k ≤ r.length →
    (k = l.length → k = r.length → orderS l r = 0) ∧ (k = l.length → ¬ k = r.length → orderS l r = -1) ∧ (¬ k = l.length → k = r.length → orderS l r = 1) ∧
    (∀ (h1 : k < l.length) (h2 : k < r.length), (l[k] < r[k] → orderS l r = -1) ∧ (r[k] < l[k] → orderS l r = 1)) := by
  intro k
  induction k generalizing l r with
  | zero =>
    intro _ _ _
    cases l with
    | nil =>
      cases r with
      | nil => simp [orderS]
      | cons b r => simp [orderS]
    | cons a l =>
      cases r with
      | nil => simp [orderS]
      | cons b r =>
        simp only [List.length_cons, orderS]
        refine ⟨by omega, by omega, by omega, fun _ _ => ⟨fun h => ?_, fun h => ?_⟩⟩
        · have h' : a < b := by simpa using h
          rw [if_neg (by simp; intro e; rw [e] at h'; exact absurd h' (UInt8.lt_irrefl _)), if_pos (by rw [List.cons_lt_cons_iff]; exact .inl h')]
        · have h' : b < a := by simpa using h
          rw [if_neg (by simp; intro e; rw [e] at h'; exact absurd h' (UInt8.lt_irrefl _)), if_neg (by
            rw [List.cons_lt_cons_iff]
            rintro (h2 | ⟨h2, _⟩)
            · rw [UInt8.lt_iff_toNat_lt] at h' h2; omega
            · rw [h2] at h'; exact absurd h' (UInt8.lt_irrefl _))]
  | succ k ih =>
    intro ht hl hr
    cases l with
    | nil => simp at hl
    | cons a l =>
      cases r with
      | nil => simp at hr
      | cons b r =>
        simp only [List.take_succ_cons, List.cons.injEq] at ht
        obtain ⟨rfl, ht⟩ := ht
        have e : orderS (a :: l) (a :: r) = orderS l r := by
          unfold orderS
          have h1 : (a :: l = a :: r) ↔ l = r := by simp
          have h2 : (a :: l < a :: r) ↔ l < r := by
            rw [List.cons_lt_cons_iff]
            exact ⟨fun h => by rcases h with h | h; exact absurd h (UInt8.lt_irrefl _); exact h.2, fun h => .inr ⟨rfl, h⟩⟩
          simp only [h1, h2]
        rw [e]
        have := ih l r ht (by simpa using hl) (by simpa using hr)
        simp only [List.length_cons, Nat.add_right_cancel_iff]
        refine ⟨this.1, this.2.1, this.2.2.1, fun h1 h2 => ?_⟩
        have := this.2.2.2 (by omega) (by omega)
        simpa using this

/-! quotes and digits -/
def hxD (n : Nat) : UInt8 := if n < 10 then UInt8.ofNat (48 + n) else UInt8.ofNat (87 + n)
def oneS (c : UInt8) : List UInt8 :=
  if c.toNat = 34 ∨ c.toNat = 92 then [92, c] else if c.toNat = 10 then [92, 110] else if c.toNat = 9 then [92, 116] else if c.toNat = 13 then [92, 114]
  else if c.toNat < 32 ∨ 126 < c.toNat then [92, 120, hxD (c.toNat / 16), hxD (c.toNat % 16)] else [c]
def quoteS (l : List UInt8) : List UInt8 := 34 :: (l.flatMap oneS ++ [34])
def hexS (l : List UInt8) : List UInt8 := l.flatMap fun c => [hxD (c.toNat / 16), hxD (c.toNat % 16)]
def hval (c : UInt8) (great : Bool) : Nat :=
  if 48 ≤ c.toNat ∧ c.toNat ≤ 57 then c.toNat - 48 else if 97 ≤ c.toNat ∧ c.toNat ≤ 102 then c.toNat - 87 else if great = true ∧ 65 ≤ c.toNat ∧ c.toNat ≤ 70 then c.toNat - 55 else 16
def escS (c : UInt8) : Option UInt8 :=
  if c.toNat = 34 ∨ c.toNat = 92 ∨ c.toNat = 47 then some c else if c.toNat = 110 then some 10 else if c.toNat = 116 then some 9 else if c.toNat = 114 then some 13 else none
/-- What stands behind the first mark: what was read till here, the place, and what comes of the rest: the text, the place behind it or of what breaks it, the error. -/
def unqS : List UInt8 → Nat → List UInt8 → List UInt8 × Nat × Int
  | [], at_, _ => ([], at_, 10)
  | c :: r, at_, out =>
    if c.toNat = 34 then (out, at_ + 1, 0)
    else if c.toNat < 32 then ([], at_, 2)
    else if c.toNat ≠ 92 then unqS r (at_ + 1) (out ++ [c])
    else match r with
      | [] => ([], at_ + 1, 10)
      | d :: r =>
        if d.toNat ≠ 120 then (match escS d with
          | none => ([], at_ + 1, 2)
          | some x => unqS r (at_ + 2) (out ++ [x]))
        else match r with
          | [] => ([], at_ + 2, 10)
          | h1 :: r => if 15 < hval h1 true then ([], at_ + 2, 2) else match r with
            | [] => ([], at_ + 3, 10)
            | h2 :: r => if 15 < hval h2 true then ([], at_ + 3, 2) else unqS r (at_ + 4) (out ++ [UInt8.ofNat (16 * hval h1 true + hval h2 true)])
def unquoteS (l : List UInt8) : List UInt8 × Nat × Int :=
  match l with
  | [] => ([], 0, 10)
  | c :: r => if c.toNat ≠ 34 then ([], 0, 2) else unqS r 1 []
def canonS (l : List UInt8) : Bool := (unquoteS l).2.2 == 0 && (unquoteS l).2.1 == l.length && quoteS (unquoteS l).1 == l
def letS (c : UInt8) : Bool := decide (97 ≤ c.toNat ∧ c.toNat ≤ 122 ∨ 65 ≤ c.toNat ∧ c.toNat ≤ 90 ∨ c.toNat = 95)
def digS (c : UInt8) : Bool := decide (48 ≤ c.toNat ∧ c.toNat ≤ 57)
def nameS (l : List UInt8) : Bool := match l with | [] => false | c :: r => letS c && r.all fun c => letS c || digS c
def unhxS : List UInt8 → List UInt8 → List UInt8 × Int
  | [], out => (out, 0)
  | [_], _ => ([], 2)
  | a :: b :: r, out => if 15 < hval a false ∨ 15 < hval b false then ([], 2) else unhxS r (out ++ [UInt8.ofNat (16 * hval a false + hval b false)])
def unhexS (l : List UInt8) : List UInt8 × Int := if l.length % 2 = 1 then ([], 2) else unhxS l []
end Go.Proofs.Ytjefaibnlhnaiaa
