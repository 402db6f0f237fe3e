/- The document's answer for lex: all tokens of a text. (written by tools/gen13/ref13a.py) -/
import Derived.Test.YtgdlkaoadlipmaaGreatDoorRef13N
namespace Go.Proofs.YtgdlkaoadlipmaaGreatDoor
open Go.RowKit
set_option maxRecDepth 1000000
set_option linter.unusedSimpArgs false

/-- What was read till here and what comes of the rest. -/
def preT (ts : List Tok) (r : List Tok × Nat × Int) : List Tok × Nat × Int := (if r.2.2 = 0 then ts ++ r.1 else [], r.2)
theorem preT_step (l : List UInt8) (ts : List Tok) (p : Nat) (hp : p ≤ l.length) : preT ts (lexS l (l.length + 1) p) =
    if (nextS l p).2.2 ≠ 0 then ([], (nextS l p).2) else if (nextS l p).1.k = 0 then (ts, 0, 0) else preT (ts ++ [(nextS l p).1]) (lexS l (l.length + 1) (nextS l p).1.e) := by
  rw [lexS_step l p hp]
  unfold preT
  by_cases h1 : (nextS l p).2.2 = 0
  · by_cases h2 : (nextS l p).1.k = 0
    · simp [h1, h2]
    · by_cases h3 : (lexS l (l.length + 1) (nextS l p).1.e).2.2 = 0
      · simp [h1, h2, h3]
      · simp [h1, h2, h3]
  · simp [h1]
theorem preT_nil (r : List Tok × Nat × Int) (h : r.2.2 ≠ 0 → r.1 = []) : preT [] r = r := by
  obtain ⟨a, b, c⟩ := r
  unfold preT
  by_cases h0 : c = 0
  · simp [h0]
  · simpa [h0] using (h h0).symm
theorem lex_bad0 (l : List UInt8) : ∀ (f p : Nat), (lexS l f p).2.2 ≠ 0 → (lexS l f p).1 = []
  | 0, _, h => rfl
  | f + 1, p, h => by
    unfold lexS at h ⊢
    dsimp only at h ⊢
    by_cases h1 : (nextS l p).2.2 = 0
    · by_cases h2 : (nextS l p).1.k = 0
      · simp [h1, h2]
      · by_cases h3 : (lexS l f (nextS l p).1.e).2.2 = 0
        · simp [h1, h2, h3] at h
        · simp [h1, h2, h3]
    · simp [h1]
theorem all_pre (l : List UInt8) : allS l = preT [] (lexS l (l.length + 1) 0) := (preT_nil _ fun h => ((lex_bad0 l _ 0 h))).symm
theorem rows_nil13 {B : Nat} {e : TypeId} {w : World} (h : B ≤ w.heap.size) : RowsOwn B e 5 (.slice none 0 0) ((([] : List Tok)).map tokC) w := ⟨⟨rfl, .inl ⟨rfl, rfl⟩⟩, h, fun c hc => by cases hc⟩
theorem rows_new13 (w : World) (T : TypeId) : RowsOwn w.heap.size T 5 (.slice (some ⟨w.heap.size, 0, none⟩) 0 0) ((([] : List Tok)).map tokC) (w.alloc (.cells #[] T)) :=
  ⟨⟨rfl, .inr ⟨w.heap.size, 0, #[], (0, 0), rfl, Nat.le_refl _, heap_alloc_last _ _, Nat.le_refl _, Nat.le_refl _, by decide, rfl, rfl⟩⟩, (Below.newly' w _).size, fun c hc => by cases hc⟩
theorem rows_lt13 {B : Nat} {e : TypeId} {s : Nat} {v : Value} {cs : List (Array Value)} {w : World} (h : RowsOwn B e s v cs w) : ∀ X, v.ownBlock = some X → X < w.heap.size := fun X e => by
  obtain ⟨_, _, h1⟩ := h.typed' X e
  exact (Array.getElem?_eq_some_iff.1 h1).1
theorem tokC_one (t : Tok) : (tokC t).all (·.oneCell') = true := by simp [tokC, Value.oneCell']

end Go.Proofs.YtgdlkaoadlipmaaGreatDoor
