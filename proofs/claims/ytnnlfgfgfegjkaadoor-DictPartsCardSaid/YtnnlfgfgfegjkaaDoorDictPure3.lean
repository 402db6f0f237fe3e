/- Plain facts of layer 10: two maps gone through side by side. No program is imported. -/
import Derived.Test.YtnnlfgfgfegjkaaDoorDictPure2
namespace Go.Proofs.YtnnlfgfgfegjkaaDoor
open Go.RowKit
set_option linter.unusedSimpArgs false

theorem keys_drop {A : List Ent} {i : Nat} (hi : i < A.length) : (keysE A).drop i = A[i].1 :: (keysE A).drop (i + 1) := by
  have h : i < (keysE A).length := by rw [keysE_len]; exact hi
  rw [List.drop_eq_getElem_cons h]
  simp [keysE]
theorem keys_take {A : List Ent} {i : Nat} (hi : i < A.length) : (keysE A).take (i + 1) = (keysE A).take i ++ [A[i].1] := by
  have h : i < (keysE A).length := by rw [keysE_len]; exact hi
  rw [List.take_succ_eq_append_getElem h]
  simp [keysE]
theorem keys_end (A : List Ent) : (keysE A).drop A.length = [] := List.drop_eq_nil_of_le (by rw [keysE_len]; exact Nat.le_refl _)
theorem Rise.above {A : List Ent} (h : Rise A) {i : Nat} (hi : i < A.length) : ∀ f ∈ (keysE A).drop (i + 1), kb A[i].1 < kb f := fun f hf => by
  have hk := h.keys
  have hp : RiseK ((keysE A).drop i) := List.Pairwise.sublist (List.drop_sublist _ _) hk
  rw [keys_drop hi] at hp
  exact (List.pairwise_cons.1 hp).1 f hf
theorem keys_split (A : List Ent) (i : Nat) {k : ByteArray} (h : k ∈ keysE A) : k ∈ (keysE A).take i ∨ k ∈ (keysE A).drop i := by
  rw [← List.take_append_drop i (keysE A)] at h
  exact List.mem_append.1 h
/-- How far two maps have been gone through, and what has been told. -/
structure Mg (al : Int → Int → Bool) (A B : List Ent) (i q : Nat) (out : List Chg) : Prop where
  hi : i ≤ A.length
  hq : q ≤ B.length
  eq : out ++ chgsE al A B (mrgK ((keysE A).drop i) ((keysE B).drop q)) = difE al A B
  s1 : ∀ e ∈ (keysE A).take i, ∀ f ∈ (keysE B).drop q, kb e < kb f
  s2 : ∀ e ∈ (keysE B).take q, ∀ f ∈ (keysE A).drop i, kb e < kb f
section
variable {al : Int → Int → Bool} {A B : List Ent} {i q : Nat} {out : List Chg}
theorem Mg.start (hA : Rise A) (hB : Rise B) : Mg al A B 0 0 [] :=
  ⟨Nat.zero_le _, Nat.zero_le _, by rw [List.nil_append, List.drop_zero, List.drop_zero, mrg_uni hA hB]; rfl, fun e he => by simp at he, fun e he => by simp at he⟩
theorem Mg.len (h : Mg al A B i q out) (hB : Rise B) : out.length ≤ A.length + B.length := by
  have h1 := congrArg List.length h.eq
  have h2 : (difE al A B).length ≤ (keysE (uniE A B)).length := chgs_len al A B _
  have h3 := uni_len hB A
  rw [keysE_len] at h2
  rw [List.length_append] at h1
  omega
theorem Mg.lo (h : Mg al A B i q out) (hA : Rise A) (hi : i < A.length) (hq : q < B.length) (hlt : kb B[q].1 < kb A[i].1) :
    getE A B[q].1 = none ∧ Mg al A B i (q + 1) (out ++ [chgE A B B[q].1]) := by
  have hnone : getE A B[q].1 = none := Classical.byContradiction fun hn => by
    rcases keys_split A i (mem_keys.2 hn) with hm | hm
    · exact lt_irrefl_l _ (h.s1 _ hm _ (by rw [keys_drop hq]; exact List.mem_cons_self))
    · rw [keys_drop hi] at hm
      rcases List.mem_cons.1 hm with e | hm
      · rw [e] at hlt; exact lt_irrefl_l _ hlt
      · exact lt_asym hlt (hA.above hi _ hm)
  refine ⟨hnone, h.hi, hq, ?_, fun e he f hf => h.s1 e he f (by rw [keys_drop hq]; exact List.mem_cons_of_mem _ hf), fun e he f hf => ?_⟩
  · rw [← h.eq, keys_drop hi, keys_drop hq, mrg_lo _ _ hlt, chgs_cons, if_pos (by simp [isChg, chgE, hnone]), List.append_assoc]
  · rw [keys_take hq] at he
    rcases List.mem_append.1 he with he | he
    · exact h.s2 e he f hf
    · rw [List.mem_singleton.1 he]
      rw [keys_drop hi] at hf
      rcases List.mem_cons.1 hf with rfl | hf
      · exact hlt
      · exact List.lt_trans hlt (hA.above hi _ hf)
theorem Mg.both (h : Mg al A B i q out) (hA : Rise A) (hB : Rise B) (hi : i < A.length) (hq : q < B.length) (he : B[q].1 = A[i].1) :
    getE A B[q].1 = some A[i].2 ∧ getE B B[q].1 = some B[q].2 ∧ Mg al A B (i + 1) (q + 1) (out ++ if al A[i].2 B[q].2 = true then [] else [chgE A B B[q].1]) := by
  have ha : getE A B[q].1 = some A[i].2 := by rw [he]; exact get_own hA hi
  have hb : getE B B[q].1 = some B[q].2 := get_own hB hq
  refine ⟨ha, hb, hi, hq, ?_, fun e hm f hf => ?_, fun e hm f hf => ?_⟩
  · rw [← h.eq, keys_drop hi, keys_drop hq, mrg_eq _ _ he.symm, chgs_cons, List.append_assoc]
    congr 2
    have : isChg al (chgE A B B[q].1) = !al A[i].2 B[q].2 := by simp [isChg, chgE, ha, hb]
    rw [this]
    cases al A[i].2 B[q].2 <;> rfl
  · have h1 : kb A[i].1 < kb f := by rw [← he]; exact hB.above hq f hf
    rw [keys_take hi] at hm
    rcases List.mem_append.1 hm with hm | hm
    · exact h.s1 e hm f (by rw [keys_drop hq]; exact List.mem_cons_of_mem _ hf)
    · rw [List.mem_singleton.1 hm]; exact h1
  · have h1 : kb B[q].1 < kb f := by rw [he]; exact hA.above hi f hf
    rw [keys_take hq] at hm
    rcases List.mem_append.1 hm with hm | hm
    · exact h.s2 e hm f (by rw [keys_drop hi]; exact List.mem_cons_of_mem _ hf)
    · rw [List.mem_singleton.1 hm]; exact h1
theorem Mg.only (h : Mg al A B i q out) (hB : Rise B) (hi : i < A.length) (hlt : ∀ hq : q < B.length, kb A[i].1 < kb B[q].1) :
    Mg al A B (i + 1) q (out ++ [chgE A B A[i].1]) := by
  have hup : ∀ f ∈ (keysE B).drop q, kb A[i].1 < kb f := fun f hf => by
    by_cases hq : q < B.length
    · rw [keys_drop hq] at hf
      rcases List.mem_cons.1 hf with rfl | hf
      · exact hlt hq
      · exact List.lt_trans (hlt hq) (hB.above hq _ hf)
    · rw [show q = B.length by have := h.hq; omega, keys_end] at hf
      cases hf
  have hnone : getE B A[i].1 = none := Classical.byContradiction fun hn => by
    rcases keys_split B q (mem_keys.2 hn) with hm | hm
    · exact lt_irrefl_l _ (h.s2 _ hm _ (by rw [keys_drop hi]; exact List.mem_cons_self))
    · exact lt_irrefl_l _ (hup _ hm)
  refine ⟨hi, h.hq, ?_, fun e hm f hf => ?_, fun e he f hf => h.s2 e he f (by rw [keys_drop hi]; exact List.mem_cons_of_mem _ hf)⟩
  · have e : mrgK ((keysE A).drop i) ((keysE B).drop q) = A[i].1 :: mrgK ((keysE A).drop (i + 1)) ((keysE B).drop q) := by
      rw [keys_drop hi]
      by_cases hq : q < B.length
      · rw [keys_drop hq, mrg_hi _ _ (hlt hq)]
      · rw [show q = B.length by have := h.hq; omega, keys_end, mrg_none, mrg_none]
    rw [← h.eq, e, chgs_cons, if_pos (by simp [isChg, chgE, hnone]), List.append_assoc]
  · rw [keys_take hi] at hm
    rcases List.mem_append.1 hm with hm | hm
    · exact h.s1 e hm f hf
    · rw [List.mem_singleton.1 hm]; exact hup f hf
theorem Mg.rest (h : Mg al A B A.length q out) (hq : q < B.length) : Mg al A B A.length (q + 1) (out ++ [chgE A B B[q].1]) := by
  have hnone : getE A B[q].1 = none := Classical.byContradiction fun hn => by
    have hm := mem_keys.2 hn
    exact lt_irrefl_l _ (h.s1 _ (by rw [List.take_of_length_le (by rw [keysE_len]; exact Nat.le_refl _)]; exact hm) _ (by rw [keys_drop hq]; exact List.mem_cons_self))
  refine ⟨Nat.le_refl _, hq, ?_, fun e he f hf => h.s1 e he f (by rw [keys_drop hq]; exact List.mem_cons_of_mem _ hf), fun e he f hf => by rw [keys_end] at hf; cases hf⟩
  rw [← h.eq, keys_end, mrg_nil, mrg_nil, keys_drop hq, chgs_cons, if_pos (by simp [isChg, chgE, hnone]), List.append_assoc]
theorem Mg.lo' (h : Mg al A B i q out) (hA : Rise A) (hi : i < A.length) (hq : q < B.length) {b k : ByteArray} (hb : b = B[q].1) (hk : k = A[i].1) (hlt : kb b < kb k) : getE A b = none ∧ Mg al A B i (q + 1) (out ++ [chgE A B b]) := by
  subst hb hk
  exact h.lo hA hi hq hlt
theorem Mg.both' (h : Mg al A B i q out) (hA : Rise A) (hB : Rise B) (hi : i < A.length) (hq : q < B.length) {b : ByteArray} (hb : b = B[q].1) (hk : b = A[i].1) :
    ∃ x y, chgE A B b = (b, true, true, x, y) ∧ Mg al A B (i + 1) (q + 1) (out ++ if al x y = true then [] else [(b, true, true, x, y)]) := by
  subst hb
  obtain ⟨h1, h2, h3⟩ := h.both hA hB hi hq hk
  have e : chgE A B B[q].1 = (B[q].1, true, true, A[i].2, B[q].2) := by unfold chgE; rw [h1, h2]; rfl
  exact ⟨_, _, e, by rw [e] at h3; exact h3⟩
theorem Mg.only' (h : Mg al A B i q out) (hB : Rise B) (hi : i < A.length) {k : ByteArray} (hk : k = A[i].1) (hlt : ∀ hq : q < B.length, kb k < kb B[q].1) : Mg al A B (i + 1) q (out ++ [chgE A B k]) := by
  subst hk
  exact h.only hB hi hlt
theorem Mg.rest' (h : Mg al A B A.length q out) (hq : q < B.length) {k : ByteArray} (hk : k = B[q].1) : Mg al A B A.length (q + 1) (out ++ [chgE A B k]) := by
  subst hk
  exact h.rest hq
theorem Mg.done (h : Mg al A B A.length B.length out) : out = difE al A B := by
  rw [← h.eq, keys_end, keys_end, mrg_nil, chgs_nil, List.append_nil]
end
end Go.Proofs.YtnnlfgfgfegjkaaDoor
