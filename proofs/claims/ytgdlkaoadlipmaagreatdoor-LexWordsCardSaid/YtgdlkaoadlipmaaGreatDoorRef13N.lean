/- The document's answer for lex: the signs, and the token at a place. (written by tools/gen13/ref13n.py) -/
import Derived.Test.YtgdlkaoadlipmaaGreatDoorRef13
namespace Go.Proofs.YtgdlkaoadlipmaaGreatDoor
open Go.RowKit
set_option maxRecDepth 1000000
set_option linter.unusedSimpArgs false

/-- What stands at a place behind the blanks. -/
def nx (l : List UInt8) (b : Nat) : Tok × Nat × Int :=
  if (tokR (l.drop b)).2.2 = 0 then (tokAt b (tokR (l.drop b)).1 (tokR (l.drop b)).2.1, 0, 0) else (⟨0, 0, 0, 0, []⟩, b + (tokR (l.drop b)).2.1, (tokR (l.drop b)).2.2)
theorem next_nx (l : List UInt8) (p : Nat) : nextS l p = nx l (p + blkLen (l.drop p)) := rfl
theorem nx_end (l : List UInt8) (b : Nat) (h : l.length ≤ b) : nx l b = (⟨0, b, b, 0, []⟩, 0, 0) := by
  unfold nx
  rw [List.drop_eq_nil_of_le h]
  simp [tokR, tokAt, zTk]
theorem drop_c (s : ByteArray) (b : Nat) (h : b < s.size) : s.data.toList.drop b = s[b] :: s.data.toList.drop (b + 1) := by
  have hl := len_bytes s
  rw [List.drop_eq_getElem_cons (show b < s.data.toList.length by omega)]
  rfl
theorem nx_text (s : ByteArray) (b : Nat) (h : b < s.size) (hc : s[b].toNat = 34) : nx s.data.toList b =
    if (unquoteS (s.data.toList.drop b)).2.2 = 0 then (⟨4, b, b + (unquoteS (s.data.toList.drop b)).2.1, 0, (unquoteS (s.data.toList.drop b)).1⟩, 0, 0) else (⟨0, 0, 0, 0, []⟩, b + (unquoteS (s.data.toList.drop b)).2.1, (unquoteS (s.data.toList.drop b)).2.2) := by
  unfold nx
  rw [drop_c s b h, tokR_cons, if_pos hc]
  by_cases he : (unquoteS (s[b] :: s.data.toList.drop (b + 1))).2.2 = 0
  · rw [if_pos he, if_pos rfl, if_pos he]; rfl
  · rw [if_neg he, if_neg he, if_neg he]
theorem nx_num (s : ByteArray) (b : Nat) (h : b < s.size) (h34 : s[b].toNat ≠ 34) (hc : s[b].toNat = 45 ∨ digS s[b] = true) : nx s.data.toList b = numT s.data.toList b := by
  have ht : (s.data.toList.drop b).take (((s.data.toList.drop (b + 1)).takeWhile digS).length + 1) = s[b] :: (s.data.toList.drop (b + 1)).takeWhile digS := by
    rw [drop_c s b h, List.take_succ_cons, ← lx_tweq]
  unfold nx numT
  simp only
  rw [ht, drop_c s b h, tokR_cons, if_neg h34, if_pos hc]
  by_cases he : (parseS (s[b] :: (s.data.toList.drop (b + 1)).takeWhile digS)).2 = 0
  · rw [if_pos he, if_pos rfl, if_pos he]; simp only [tokAt, Nat.add_assoc]
  · rw [if_neg he, if_neg he, if_neg he]; simp
theorem nx_word (s : ByteArray) (b k : Nat) (h : b < s.size) (hl : letS s[b] = true) (h0 : b ≤ k) (h1 : k ≤ s.size) (ha : ∀ j (h : j < s.size), b ≤ j → j < k → nbS s[j] = true) (he : k = s.size ∨ ∃ h : k < s.size, nbS s[k] = false) :
    b < k ∧ nx s.data.toList b = (⟨2, b, k, 0, (s.extract b k).data.toList⟩, 0, 0) := by
  have hn : nbS s[b] = true := by unfold nbS; rw [hl]; rfl
  have hbk : b < k := by
    rcases Nat.lt_or_ge b k with h | h2
    · exact h
    · obtain rfl : b = k := by omega
      rcases he with e | ⟨_, e⟩
      · omega
      · rw [hn] at e; cases e
  obtain ⟨h2, h3⟩ := tw_scan nbS s b k h0 h1 ha he
  have hd := of_decide_eq_true (show decide (97 ≤ s[b].toNat ∧ s[b].toNat ≤ 122 ∨ 65 ≤ s[b].toNat ∧ s[b].toNat ≤ 90 ∨ s[b].toNat = 95) = true from hl)
  have hdg : ¬ (s[b].toNat = 45 ∨ digS s[b] = true) := fun h => h.elim (by omega) (fun h => by unfold digS at h; have := of_decide_eq_true h; omega)
  have h34 : ¬ s[b].toNat = 34 := by omega
  refine ⟨hbk, ?_⟩
  rw [ext_l, ← h2]
  rw [drop_c s b h] at h3 ⊢
  unfold nx
  rw [drop_c s b h, tokR_cons, if_neg h34, if_neg hdg, if_pos hl, if_pos rfl]
  simp only [tokAt]
  rw [h3, show b + (k - b) = k by omega]
theorem nx_sign (s : ByteArray) (b : Nat) (h : b < s.size) (h34 : s[b].toNat ≠ 34) (hn : ¬ (s[b].toNat = 45 ∨ digS s[b] = true)) (hl : letS s[b] = false) : nx s.data.toList b =
    match signsS.find? fun x => x.isPrefixOf (s.data.toList.drop b) with
    | some x => (⟨1, b, b + x.length, 0, x⟩, 0, 0)
    | none => (⟨0, 0, 0, 0, []⟩, b, 2) := by
  have hl' : ¬ letS s[b] = true := by rw [hl]; decide
  unfold nx
  rw [drop_c s b h, tokR_cons, if_neg h34, if_neg hn, if_neg hl']
  cases signsS.find? fun x => x.isPrefixOf (s[b] :: s.data.toList.drop (b + 1)) with
  | none => simp
  | some x => simp [tokAt]
theorem find_yes {α : Type} (p : α → Bool) : ∀ (l : List α) (i : Nat) (hi : i < l.length), (∀ j (h : j < l.length), j < i → p l[j] = false) → p l[i] = true → l.find? p = some l[i]
  | [], i, hi, _, _ => by simp at hi
  | a :: l, 0, _, _, h => by rw [List.find?_cons]; simp only [List.getElem_cons_zero] at h ⊢; rw [h]
  | a :: l, i + 1, hi, hj, h => by
    have h0 : p a = false := hj 0 (by simp) (by omega)
    rw [List.find?_cons, h0]
    simp only [List.getElem_cons_succ] at h ⊢
    exact find_yes p l i (by simpa using hi) (fun j h1 h2 => hj (j + 1) (by simpa using h1) (by omega)) h
theorem find_no {α : Type} (p : α → Bool) (l : List α) (h : ∀ j (_ : j < l.length), p l[j] = false) : l.find? p = none := by
  rw [List.find?_eq_none]
  intro x hx
  obtain ⟨j, hj, rfl⟩ := List.getElem_of_mem hx
  rw [h j hj]; decide
/-- Where the blanks end. -/
theorem blk_scan (s : ByteArray) (p k : Nat) (h0 : p ≤ k) (h1 : k ≤ s.size) (ha : ∀ j (h : j < s.size), p ≤ j → j < k → blkS s[j] = true) (he : k = s.size ∨ ∃ h : k < s.size, blkS s[k] = false) : nextS s.data.toList p = nx s.data.toList k := by
  have h := (tw_scan blkS s p k h0 h1 ha he).2
  rw [next_nx]
  unfold blkLen
  rw [h, show p + (k - p) = k by omega]
/-- Is what stands there with one byte more a name? -/
theorem name_one (s : ByteArray) (b k : Nat) (h0 : b ≤ k) (h1 : k < s.size) (ha : ∀ j (h : j < s.size), b ≤ j → j < k → nbS s[j] = true) : nameS (s.extract b (k + 1)).data.toList = (letS s[b] && nbS s[k]) := by
  have hl := len_bytes s
  rw [ext_l, drop_c s b (by omega), show k + 1 - b = (k - b) + 1 by omega, List.take_succ_cons]
  show (letS s[b] && ((s.data.toList.drop (b + 1)).take (k - b)).all nbS) = _
  cases hb : letS s[b] with
  | false => rfl
  | true =>
    rw [Bool.true_and, Bool.true_and]
    have hbn : nbS s[b] = true := by unfold nbS; rw [hb]; rfl
    cases hk : nbS s[k] with
    | true =>
      rw [List.all_eq_true]
      intro c hc
      obtain ⟨j, hj, rfl⟩ := List.getElem_of_mem hc
      simp only [List.length_take, List.length_drop, hl] at hj
      rw [List.getElem_take, List.getElem_drop]
      rcases Nat.lt_or_ge (b + 1 + j) k with h | h
      · exact ha (b + 1 + j) (by omega) (by omega) h
      · have e : b + 1 + j = k := by omega
        simp only [e]; exact hk
    | false =>
      have hbk : b ≠ k := fun e => by subst e; rw [hbn] at hk; cases hk
      rw [Bool.eq_false_iff]
      intro h
      rw [List.all_eq_true] at h
      have hm : s[k] ∈ (s.data.toList.drop (b + 1)).take (k - b) := by
        have hlt : k - b - 1 < ((s.data.toList.drop (b + 1)).take (k - b)).length := by simp only [List.length_take, List.length_drop, hl]; omega
        have e : ((s.data.toList.drop (b + 1)).take (k - b))[k - b - 1] = s[k] := by
          rw [List.getElem_take, List.getElem_drop]
          have e : b + 1 + (k - b - 1) = k := by omega
          simp only [e]; rfl
        rw [← e]; exact List.getElem_mem _
      rw [h _ hm] at hk; cases hk
/-- The signs lie in a block. -/
def SgAt (w : World) (g : Nat) : Prop := ∀ j (h : j < 23), w.cell? ⟨g, j, none⟩ = some (.string ⟨(signsS[j]'(by simpa [signsS] using h)).toArray⟩)
theorem SgAt.later {w w' : World} {g : Nat} (h : SgAt w g) (hb : Below w.heap.size w w') : SgAt w' g := fun j hj => (hb.cell (World.block_lt_of_cell? w _ (h j hj))).trans (h j hj)
def sgC : Array Value := #[.string ⟨#[46, 46]⟩, .string ⟨#[61, 61]⟩, .string ⟨#[33, 61]⟩, .string ⟨#[60, 61]⟩, .string ⟨#[62, 61]⟩, .string ⟨#[38, 38]⟩, .string ⟨#[124, 124]⟩, .string ⟨#[91]⟩, .string ⟨#[93]⟩, .string ⟨#[123]⟩, .string ⟨#[125]⟩, .string ⟨#[60]⟩, .string ⟨#[62]⟩, .string ⟨#[40]⟩, .string ⟨#[41]⟩, .string ⟨#[44]⟩, .string ⟨#[58]⟩, .string ⟨#[46]⟩, .string ⟨#[42]⟩, .string ⟨#[63]⟩, .string ⟨#[33]⟩, .string ⟨#[36]⟩, .string ⟨#[64]⟩]
theorem rf_Signs (w : World) : Calls Tryz.prog 9 #[] w fun e w' => ∃ g, e = .returned (.slice (some ⟨g, 0, none⟩) 23 23) ∧ SgAt w' g ∧ Below w.heap.size w w' := by
  go_enter Tryz.func9, Tryz.ntmps9
  go_wp2_with fail
  go_ret
  refine ⟨w.heap.size, rfl, fun j hj => ?_, Below.newly' _ _⟩
  refine cell_in (c := sgC) (heap_alloc_last _ _) ?_
  match j, hj with
  | 0, _ => rfl
  | 1, _ => rfl
  | 2, _ => rfl
  | 3, _ => rfl
  | 4, _ => rfl
  | 5, _ => rfl
  | 6, _ => rfl
  | 7, _ => rfl
  | 8, _ => rfl
  | 9, _ => rfl
  | 10, _ => rfl
  | 11, _ => rfl
  | 12, _ => rfl
  | 13, _ => rfl
  | 14, _ => rfl
  | 15, _ => rfl
  | 16, _ => rfl
  | 17, _ => rfl
  | 18, _ => rfl
  | 19, _ => rfl
  | 20, _ => rfl
  | 21, _ => rfl
  | 22, _ => rfl
  | k + 23, hk => exact absurd hk (by omega)
end Go.Proofs.YtgdlkaoadlipmaaGreatDoor
