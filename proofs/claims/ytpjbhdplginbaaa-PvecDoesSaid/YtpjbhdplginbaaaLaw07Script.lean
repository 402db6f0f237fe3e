/- Layer 7's laws: what a script comes to. -/
import Derived.Test.YtpjbhdplginbaaaLaw07VL
namespace Go.Proofs.Ytpjbhdplginbaaa
open Go.RowKit
set_option maxRecDepth 1000000
set_option linter.unusedSimpArgs false

/-- The document's list behind the first n of these operations. -/
def aft (l : List Int) (s : List Op7) (n : Nat) : List Int := (s.take n).foldl doL l
theorem aft_zero (l : List Int) (s : List Op7) : aft l s 0 = l := rfl
theorem aft_succ (l : List Int) (s : List Op7) {n : Nat} (h : n < s.length) : aft l s (n + 1) = doL (aft l s n) s[n] := by
  unfold aft
  rw [List.take_succ_eq_append_getElem h, List.foldl_append]
  rfl
theorem aft_past (l : List Int) (s : List Op7) {n : Nat} (h : s.length ≤ n) : aft l s n = aft l s s.length := by
  unfold aft
  rw [List.take_of_length_le h, List.take_of_length_le (Nat.le_refl _)]
theorem aft_len (l : List Int) (s : List Op7) : ∀ n, (aft l s n).length ≤ l.length + total (s.take n)
  | 0 => by simp [aft]
  | n + 1 => by
    have ih := aft_len l s n
    by_cases h : n < s.length
    · rw [aft_succ l s h, total_take h]
      have := doL_len (aft l s n) s[n]
      omega
    · rw [aft_past l s (by omega : s.length ≤ n + 1), ← aft_past l s (by omega : s.length ≤ n)]
      rw [List.take_of_length_le (by omega : s.length ≤ n)] at ih
      rw [List.take_of_length_le (by omega : s.length ≤ n + 1)]
      exact ih
theorem few_ops {s : List Op7} (h : fewB s = true) : (∀ o ∈ s, o.2.2.2 ≤ 1500) ∧ total s ≤ 5000 ∧ s.length ≤ 40 := by
  unfold fewB at h
  simpa using h
theorem aft_few (l : List Int) {s : List Op7} (h : fewB s = true) (n : Nat) : (aft l s n).length ≤ l.length + 5000 := by
  have h1 := aft_len l s n
  have h2 := total_le s n
  have h3 := (few_ops h).2.1
  omega
theorem lst_none (w : World) : Lst (fun _ => True) (w.alloc (.cells #[] 3)) (.slice (some ⟨w.heap.size, 0, none⟩) 0 0) [] := lst_lit (w := w) #[] [] rfl rfl
theorem lst_none2 {w V : World} {cs : Array Value} {T : TypeId} (h : (w.alloc (.cells cs T)).alloc (.cells #[] 3) = V) : Lst (fun _ => True) V (.slice (some ⟨w.heap.size + 1, 0, none⟩) 0 0) [] := by
  have := lst_none (w.alloc (.cells cs T))
  rw [h, World.size_alloc] at this
  exact this
theorem lev_below {n j : Nat} (h : j < levN (othN n)) : 32 ^ j < n := by
  have ho := oth_le n
  rcases Nat.lt_or_ge 1 (levN (othN n)) with h1 | h1
  · have := lev_more (m := othN n) h1
    have h2 : 32 ^ j ≤ 32 ^ (levN (othN n) - 1) := Nat.pow_le_pow_right (by omega) (by omega)
    omega
  · obtain rfl : j = 0 := by omega
    have : ¬ othN n = 0 := fun e => by rw [lev_zero.2 e] at h; omega
    have := oth_mod n
    simp; omega
theorem lev_above {n : Nat} (hn : n ≤ 1000000) : n ≤ 32 + 32 ^ levN (othN n) := by
  have h1 := lev_room (m := othN n) (by have := oth_le n; omega)
  rcases Nat.eq_zero_or_pos n with h | h
  · omega
  · have := oth_tail h; omega
theorem lev_none {n : Nat} (h : levN (othN n) = 0) : n ≤ 32 := by
  rw [lev_zero] at h
  rcases Nat.eq_zero_or_pos n with h0 | h0
  · omega
  · have := oth_tail h0; omega
end Go.Proofs.Ytpjbhdplginbaaa
