/- Layer 5's law ScalarBack, over what package scalar's functions answer. -/
import Derived.Test.YtjefaibnlhnaiaaLaw05A
namespace Go.Proofs.Ytjefaibnlhnaiaa
open Go.RowKit
set_option maxRecDepth 1000000
set_option maxHeartbeats 4000000
set_option linter.unusedSimpArgs false

theorem cov_ge (t : List UInt8) : t.length ≤ (covS t).length := by
  induction t with
  | nil => simp
  | cons c t ih =>
    rw [cov_cons, List.length_append, List.length_cons]
    have : 1 ≤ (covOne c).length := by unfold covOne; split <;> simp
    omega
/-- What is read fits. -/
theorem unk_fit (k : List UInt8) (h : (unkSc k).2.2 = 0) : InR (unkSc k).1.1 ∧ (unkSc k).1.2.2.length ≤ k.length := by
  obtain ⟨f1, f2, f3, f4, f5⟩ := unk_back k h
  have i0 : InR 0 := ⟨by decide, by decide⟩
  have i1 : InR 1 := ⟨by decide, by decide⟩
  have i2 : InR 2 := ⟨by decide, by decide⟩
  have i3 : InR 3 := ⟨by decide, by decide⟩
  rcases chk_cases _ f1 with e | e | e | ⟨n, e⟩ | ⟨t, e⟩
  · rw [e]; exact ⟨i0, by simp⟩
  · rw [e]; exact ⟨i1, by simp⟩
  · rw [e]; exact ⟨i1, by simp⟩
  · rw [e]; exact ⟨i2, by simp⟩
  · rw [e] at f3 ⊢
    refine ⟨i3, ?_⟩
    rw [key_text] at f3
    have h1 := congrArg List.length f3
    rw [List.length_take] at h1
    simp only [List.length_cons, List.length_append] at h1
    have h2 := cov_ge t
    simp only
    omega

end Go.Proofs.Ytjefaibnlhnaiaa
