import Derived.Test.YtpodmgihlomglaaGreatDoorP28
import Derived.Test.YtpodmgihlomglaaGreatDoorP31
namespace Go.Proofs.YtpodmgihlomglaaGreatDoor
open Go.RowKit
set_option maxRecDepth 1000000
set_option linter.unusedSimpArgs false
theorem tr_shape {w : World} {y : Tr} {v : Value} (h : TrV w y v) : ∃ k n t a l c a' l' c', v = .agg (trC k n t (.slice a l c) (.slice a' l' c')) := by
 obtain ⟨k, n, t, ks, xs⟩ := y
 obtain ⟨kv, xv, rfl, _, _, _, ⟨a, c, _, _, rfl, _⟩, a', c', _, _, rfl, _⟩ := h.open'
 exact ⟨_, _, _, _, _, _, _, _, _, rfl⟩
theorem small_ok {a : Tr} (h : (smT a 0 400).2 = true) : FewT 2000 a ∧ TxtT 3000 a ∧ nodT a ≤ 400 := by
 have h1 := sm_true a 0 400 h
 exact ⟨sm_few 2000 a 0 400 h (by decide), txt_more (by decide) a (short_txt a h1.2.2.1), by have := h1.1; omega⟩
theorem conf_size9 : (Tryz.prog.info? 24).map (·.size) = some 2 := by kernel_rfl
theorem few_ok (M : Nat) (a : Tr) : OkT a → nodT a ≤ M → FewT M a := by
 induction a using tr_ind with
 | h k n t ks xs ih =>
  intro ho hn
  have h1 := okT_iff.1 ho
  have h2 := own_ok.1 h1.1
  have h3 := nodT_eq (.nd k n t ks xs)
  have h4 := len_nodL xs
  simp only [Tr.k, Tr.n, Tr.t, Tr.ks, Tr.xs] at h1 h2 h3
  refine fewT_iff.2 ⟨?_, fun x hx => ih x hx (h1.2.1 x hx) ?_⟩
  ·show ks.length ≤ M
   rcases h2 with ⟨_, _, _, h, _⟩ | ⟨_, _, ⟨_, h⟩ | ⟨_, h, _⟩ | ⟨_, h⟩⟩
   ·rw [h]; exact Nat.zero_le _
   ·rw [h]; exact Nat.zero_le _
   ·omega
   ·rw [h]; exact Nat.zero_le _
  ·have h5 : x ∈ xs := hx
   have := nodL_mem h5
   omega
theorem one_can {a : Tr} (h : chkT a = 0) (hr : RngT a) (hn : nodT a ≤ 2000) (ht : TxtT 3000 a) : FewT 2000 (canT a) ∧ TxtT 3000 (canT a) ∧ nodT (canT a) ≤ 2000 ∧ chkT (canT a) = 0 ∧ canT (canT a) = canT a ∧ ValB (canT a) := by
 have ho := (chkT_ok.1 h).1
 have h2 := can_size a ho
 have h3 := valB_can ho (chkT_ok.1 h).2.1 (chkT_ok.1 h).2.2 hr ht
 exact ⟨few_ok _ _ (good_ok _ h3.1.1) (by omega), h3.2, by omega, chk_can h hr, can_can h hr, h3⟩
end Go.Proofs.YtpodmgihlomglaaGreatDoor
