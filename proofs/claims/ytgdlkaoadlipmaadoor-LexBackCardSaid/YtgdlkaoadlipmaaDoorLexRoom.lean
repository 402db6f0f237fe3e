/- How long what is printed of a text's tokens is. -/
import Derived.Test.YtgdlkaoadlipmaaDoorPkA
import Derived.Test.YtgdlkaoadlipmaaDoorRef13P
namespace Go.Proofs.YtgdlkaoadlipmaaDoor
open Go.RowKit
set_option linter.unusedSimpArgs false

theorem unqS_room : ∀ (n : Nat) (l : List UInt8) (k : Nat) (o : List UInt8), l.length ≤ n → (unqS l k o).2.2 = 0 → (unqS l k o).1.length + k + 1 ≤ o.length + (unqS l k o).2.1
  | 0, l, k, o, h => by
    obtain rfl : l = [] := List.eq_nil_of_length_eq_zero (by omega)
    rw [unq_end]; simp
  | n + 1, l, k, o, h => by
    rw [unqS.eq_def]
    split
    · simp
    · rename_i c r
      simp only [List.length_cons] at h
      split
      · intro _; simp; omega
      · split
        · simp
        · split
          · intro he
            have := unqS_room n r (k + 1) (o ++ [c]) (by omega) he
            simp only [List.length_append, List.length_cons, List.length_nil] at this
            omega
          · split
            · simp
            · rename_i d r
              simp only [List.length_cons] at h
              split
              · split
                · simp
                · rename_i x _
                  intro he
                  have := unqS_room n r (k + 2) (o ++ [x]) (by omega) he
                  simp only [List.length_append, List.length_cons, List.length_nil] at this
                  omega
              · split
                · simp
                · rename_i h1 r
                  simp only [List.length_cons] at h
                  split
                  · simp
                  · split
                    · simp
                    · rename_i h2 r
                      simp only [List.length_cons] at h
                      split
                      · simp
                      · intro he
                        have := unqS_room n r (k + 4) (o ++ [UInt8.ofNat (16 * hval h1 true + hval h2 true)]) (by omega) he
                        simp only [List.length_append, List.length_cons, List.length_nil] at this
                        omega
theorem unq_room (l : List UInt8) (h : (unquoteS l).2.2 = 0) : (unquoteS l).1.length + 2 ≤ (unquoteS l).2.1 := by
  unfold unquoteS at h ⊢
  split at h
  · simp at h
  · rename_i c r
    split at h
    · simp at h
    · rename_i hc
      rw [if_neg hc]
      have := unqS_room r.length r 1 [] (Nat.le_refl _) h
      simpa using this
/-- A token, printed, has no more than four bytes for each of its own, and one to spare. -/
theorem tokR_room (r : List UInt8) (h : (tokR r).2.2 = 0) (hr : r ≠ []) : (prnS (tokR r).1).length + 1 ≤ 4 * (tokR r).2.1 ∧ (tokR r).1.t.length ≤ (tokR r).2.1 := by
  have hl := ((tokR_len r).2 h hr).1
  cases r with
  | nil => exact absurd rfl hr
  | cons c r =>
    rw [tokR_cons] at h hl ⊢
    split at h
    · rename_i h1
      rw [if_pos h1] at hl ⊢
      split at h
      · rename_i h2
        rw [if_pos h2] at hl ⊢
        have h3 := unq_room _ h2
        have h4 := quote_len (unquoteS (c :: r)).1
        have h5 : prnS ⟨4, 0, (unquoteS (c :: r)).1⟩ = quoteS (unquoteS (c :: r)).1 := rfl
        refine ⟨?_, by show _ ≤ (unquoteS (c :: r)).2.1; show (unquoteS (c :: r)).1.length ≤ _; omega⟩
        show (prnS ⟨4, 0, (unquoteS (c :: r)).1⟩).length + 1 ≤ 4 * (unquoteS (c :: r)).2.1
        rw [h5]; omega
      · rename_i h2; exact absurd h h2
    · rename_i h1
      rw [if_neg h1] at hl ⊢
      split at h
      · rename_i h2
        rw [if_pos h2] at hl ⊢
        split at h
        · rename_i h3
          rw [if_pos h3] at hl ⊢
          have h4 := itoa_parse _ h3
          have h5 : prnS ⟨3, (parseS (c :: r.takeWhile digS)).1, []⟩ = Lib.itoa (parseS (c :: r.takeWhile digS)).1 := rfl
          refine ⟨?_, Nat.zero_le _⟩
          show (prnS ⟨3, (parseS (c :: r.takeWhile digS)).1, []⟩).length + 1 ≤ 4 * ((r.takeWhile digS).length + 1)
          rw [h5, h4, List.length_cons]; omega
        · rename_i h3; exact absurd h h3
      · rename_i h2
        rw [if_neg h2] at hl ⊢
        split at h
        · rename_i h3
          rw [if_pos h3] at hl ⊢
          have h5 : prnS ⟨2, 0, (c :: r).takeWhile nbS⟩ = (c :: r).takeWhile nbS := rfl
          refine ⟨?_, Nat.le_refl _⟩
          show (prnS ⟨2, 0, (c :: r).takeWhile nbS⟩).length + 1 ≤ 4 * ((c :: r).takeWhile nbS).length
          rw [h5]
          have hl' : 0 < ((c :: r).takeWhile nbS).length := hl
          omega
        · rename_i h3
          rw [if_neg h3] at hl ⊢
          split at h
          · rename_i x hx
            have h5 : prnS ⟨1, 0, x⟩ = x := rfl
            have h6 := (sign_len hx).1
            refine ⟨?_, Nat.le_refl _⟩
            show (prnS ⟨1, 0, x⟩).length + 1 ≤ 4 * x.length
            rw [h5]; omega
          · exact absurd h (by decide)
theorem next_room (l : List UInt8) (p : Nat) (h : (nextS l p).2.2 = 0) (hk : (nextS l p).1.k ≠ 0) : (prnS (nextS l p).1.r).length + 1 + 4 * (nextS l p).1.a ≤ 4 * (nextS l p).1.e ∧ (nextS l p).1.t.length + (nextS l p).1.a ≤ (nextS l p).1.e := by
  unfold nextS at h hk ⊢
  simp only at h hk ⊢
  split at h
  · rename_i h0
    rw [if_pos h0] at hk ⊢
    have h1 := tokR_room _ h0 fun e => hk (by rw [e]; rfl)
    simp only [tokAt, Tok.r]
    refine ⟨?_, by have := h1.2; omega⟩
    have h2 : (prnS (⟨(tokR (l.drop (p + blkLen (l.drop p)))).1.k, (tokR (l.drop (p + blkLen (l.drop p)))).1.n, (tokR (l.drop (p + blkLen (l.drop p)))).1.t⟩ : TkR)).length = (prnS (tokR (l.drop (p + blkLen (l.drop p)))).1).length := rfl
    have := h1.1
    omega
  · rename_i h0; exact absurd h h0
theorem prnI_i (t : Tok) : prnI t.i = prnS t.r := rfl
theorem joinI_i : ∀ ts : List Tok, joinI (ts.map Tok.i) = joinS (ts.map Tok.r)
  | [] => rfl
  | [_] => rfl
  | x :: y :: l => by
    have := joinI_i (y :: l)
    simp only [List.map_cons] at this ⊢
    rw [joinI, joinS, this]; rfl
theorem joinS_cons (x : TkR) (l : List TkR) : (joinS (x :: l)).length ≤ (prnS x).length + 1 + (joinS l).length := by
  cases l with
  | nil => simp [joinS]
  | cons y l => rw [joinS, List.length_append, List.length_cons]; omega
/-- All tokens, printed, have no more than four bytes for each of the text's. -/
theorem lex_room (l : List UInt8) : ∀ (f p : Nat), p ≤ l.length → (joinS ((lexS l f p).1.map Tok.r)).length + 4 * p ≤ 4 * l.length ∧ ∀ t ∈ (lexS l f p).1, t.t.length ≤ l.length
  | 0, p, hp => by simp [lexS, joinS]; omega
  | f + 1, p, hp => by
    unfold lexS
    dsimp only
    by_cases h1 : (nextS l p).2.2 = 0
    · have hk := next_k l p hp h1
      by_cases h2 : (nextS l p).1.k = 0
      · simp [h1, h2, joinS]; omega
      · have h3 := lex_room l f (nextS l p).1.e hk.2.2.1
        have h4 := next_room l p h1 h2
        simp only [h1, h2, ne_eq, not_true, if_false]
        split
        · refine ⟨?_, fun t ht => ?_⟩
          · rw [List.map_cons]
            have := joinS_cons (nextS l p).1.r ((lexS l f (nextS l p).1.e).1.map Tok.r)
            have := h3.1
            have := hk.1
            omega
          · rcases List.mem_cons.1 ht with rfl | ht
            · have := hk.2.2.1; omega
            · exact h3.2 t ht
        · exact ⟨by simp [joinS]; omega, fun t ht => by cases ht⟩
    · simp [h1, joinS]; omega
theorem all_room (l : List UInt8) : (joinI ((allS l).1.map Tok.i)).length ≤ 4 * l.length ∧ ∀ t ∈ (allS l).1, t.t.length ≤ l.length := by
  rw [joinI_i]
  have := lex_room l (l.length + 1) 0 (Nat.zero_le _)
  exact ⟨by have := this.1; unfold allS; omega, this.2⟩
end Go.Proofs.YtgdlkaoadlipmaaDoor
