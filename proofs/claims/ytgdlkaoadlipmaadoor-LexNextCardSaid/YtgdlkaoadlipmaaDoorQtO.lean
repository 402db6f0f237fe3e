/- The contract of package quote's order of texts. -/
import Derived.Test.YtgdlkaoadlipmaaDoorPkA
import Derived.Test.YtgdlkaoadlipmaaDoorShelf
import Derived.WalkKit
import Derived.Lib.Hide
namespace Go.Proofs.YtgdlkaoadlipmaaDoor
open Go.RowKit

theorem compare_order : ∀ a b : List UInt8, Lib.compareBytes a b = orderS a b := by
  intro a
  induction a with
  | nil =>
    intro b
    cases b <;> simp [Lib.compareBytes, orderS]
  | cons x l ih =>
    intro b
    cases b with
    | nil => simp [Lib.compareBytes, orderS]
    | cons y r =>
      simp only [Lib.compareBytes]
      by_cases h1 : x < y
      · have hne : ¬ x = y := fun e => by rw [e] at h1; exact absurd h1 (UInt8.lt_irrefl _)
        rw [if_pos h1]
        unfold orderS
        rw [if_neg (by simp [hne]), if_pos (by rw [List.cons_lt_cons_iff]; exact .inl h1)]
      · rw [if_neg h1]
        by_cases h2 : y < x
        · have hne : ¬ x = y := fun e => by rw [e] at h2; exact absurd h2 (UInt8.lt_irrefl _)
          rw [if_pos h2]
          unfold orderS
          rw [if_neg (by simp [hne]), if_neg (by
            rw [List.cons_lt_cons_iff]
            rintro (h | ⟨h, _⟩)
            · exact h1 h
            · exact hne h)]
        · rw [if_neg h2, ih]
          have e : x = y := by
            rw [UInt8.lt_iff_toNat_lt] at h1 h2
            exact UInt8.toNat_inj.1 (by omega)
          subst e
          unfold orderS
          have e1 : (x :: l = x :: r) ↔ l = r := by simp
          have e2 : (x :: l < x :: r) ↔ l < r := by
            rw [List.cons_lt_cons_iff]
            exact ⟨fun h => by rcases h with h | h; exact absurd h (UInt8.lt_irrefl _); exact h.2, fun h => .inr ⟨rfl, h⟩⟩
          simp only [e1, e2]

end Go.Proofs.YtgdlkaoadlipmaaDoor
