/- Plain facts of layer 10: keys by their order, maps put together, how one differs from another one. No program is imported. -/
import Derived.Test.YtnnlfgfgfegjkaaDoorPkC
namespace Go.Proofs.YtnnlfgfgfegjkaaDoor
open Go.RowKit
set_option linter.unusedSimpArgs false

theorem Rise.nodup {L : List Ent} (h : Rise L) : L.Nodup := List.Pairwise.imp (R := fun a b : Ent => kb a.1 < kb b.1) (fun hab e => lt_ne hab (congrArg Prod.fst e)) h
theorem rise_ext {L M : List Ent} (hL : Rise L) (hM : Rise M) (h : ∀ e, e ∈ L ↔ e ∈ M) : L = M :=
  rise_perm hL hM ((List.perm_ext_iff_of_nodup hL.nodup hM.nodup).2 h)
/-- A map is told by what each key has. -/
theorem rise_get {L M : List Ent} (hL : Rise L) (hM : Rise M) (h : ∀ k, getE L k = getE M k) : L = M :=
  rise_ext hL hM fun e => by
    obtain ⟨k, x⟩ := e
    rw [← get_mem hL, ← get_mem hM, h k]
theorem Rise.sub {L M : List Ent} (h : Rise L) (s : M.Sublist L) : Rise M := List.Pairwise.sublist s h
theorem Rise.key_inj {L : List Ent} (h : Rise L) {i j : Nat} (hi : i < L.length) (hj : j < L.length) (hij : i < j) : kb L[i].1 < kb L[j].1 := List.pairwise_iff_getElem.1 h i j hi hj hij

/-! by their order -/
def placeE (L : List Ent) (i : Int) : Option Ent := if i < 0 then none else L[i.toNat]?
theorem place_nat (L : List Ent) (i : Nat) : placeE L (i : Int) = L[i]? := by
  unfold placeE
  rw [if_neg (by omega), Int.toNat_natCast]
theorem place_neg (L : List Ent) {i : Int} (h : i < 0) : placeE L i = none := by
  unfold placeE
  rw [if_pos h]
theorem place_out (L : List Ent) {i : Int} (h : (L.length : Int) ≤ i) : placeE L i = none := by
  unfold placeE
  split
  · rfl
  · exact List.getElem?_eq_none (by omega)
theorem place_in (L : List Ent) {i : Int} (h : 0 ≤ i) (h2 : i < (L.length : Int)) : placeE L i = some (L[i.toNat]'(by omega)) := by
  unfold placeE
  rw [if_neg (by omega), List.getElem?_eq_getElem]
/-- What At, Next and the others answer. -/
def ansE : Option Ent → Value
  | none => .tuple #[.string ⟨#[]⟩, .int .i64 0, .bool false]
  | some e => .tuple #[.string e.1, .int .i64 e.2, .bool true]
/-- The text right behind k. -/
abbrev behind (k : ByteArray) : ByteArray := k ++ ⟨#[0]⟩
theorem kb_behind (k : ByteArray) : kb (behind k) = kb k ++ [0] := by simp [kb, behind]
theorem lt_snoc : ∀ (a b : List UInt8), a < b ++ [0] ↔ a < b ∨ a = b
  | [], [] => by simp
  | [], y :: b => by simp
  | x :: a, [] => by
    rw [List.nil_append, List.cons_lt_cons_iff]
    have h1 : ¬ x < 0 := UInt8.not_lt_zero
    have h2 : ¬ a < [] := List.not_lt_nil a
    have h3 : ¬ (x :: a) < [] := List.not_lt_nil _
    simp [h1, h2, h3]
  | x :: a, y :: b => by
    rw [List.cons_append, List.cons_lt_cons_iff, List.cons_lt_cons_iff, lt_snoc a b, List.cons.injEq]
    constructor
    · rintro (h | ⟨h1, h2 | h2⟩)
      · exact .inl (.inl h)
      · exact .inl (.inr ⟨h1, h2⟩)
      · exact .inr ⟨h1, h2⟩
    · rintro ((h | ⟨h1, h2⟩) | ⟨h1, h2⟩)
      · exact .inl h
      · exact .inr ⟨h1, .inl h2⟩
      · exact .inr ⟨h1, .inr h2⟩
theorem lt_behind (a k : ByteArray) : kb a < kb (behind k) ↔ kb a < kb k ∨ a = k := by
  rw [kb_behind, lt_snoc, kb_iff]
theorem bel_behind {L : List Ent} (h : Rise L) (k : ByteArray) : belE L (behind k) = belE L k ++ atE L k := by
  have e : belE L (behind k) = belE (belE L k ++ (atE L k ++ abvE L k)) (behind k) := by rw [← parts_E h k]
  rw [e]
  have hat : ∀ a ∈ atE L k, a.1 = k := fun a ha => by
    unfold atE at ha
    cases hg : getE L k with
    | none => rw [hg] at ha; cases ha
    | some x => rw [hg] at ha; rw [List.mem_singleton.1 ha]
  show List.filter _ _ = _
  rw [List.filter_append, List.filter_append]
  rw [List.filter_eq_self.2 (fun a ha => ?_), List.filter_eq_self.2 (fun a ha => ?_), List.filter_eq_nil_iff.2 (fun a ha => ?_), List.append_nil]
  · have : kb k < kb a.1 := by simpa [abvE] using (List.mem_filter.1 ha).2
    simp only [decide_eq_true_eq, lt_behind]
    rintro (h | h)
    · exact lt_asym this h
    · exact lt_ne this h.symm
  · simp only [decide_eq_true_eq, lt_behind]
    exact .inr (hat a ha)
  · simp only [decide_eq_true_eq, lt_behind]
    exact .inl (by simpa [belE] using (List.mem_filter.1 ha).2)
theorem len_behind {L : List Ent} (h : Rise L) (k : ByteArray) : (belE L (behind k)).length = (belE L k).length + (if (getE L k).isSome = true then 1 else 0) := by
  rw [bel_behind h, List.length_append]
  unfold atE
  cases getE L k <;> simp
theorem bel_le (L : List Ent) (k : ByteArray) : (belE L k).length ≤ L.length := List.length_filter_le _ _
/-- The place of a key of one's own. -/
theorem bel_own {L : List Ent} (h : Rise L) {i : Nat} (hi : i < L.length) : (belE L L[i].1).length = i := by
  have e : belE L L[i].1 = L.take i := by
    have hs : L = L.take i ++ L.drop i := (List.take_append_drop i L).symm
    have e : belE L L[i].1 = belE (L.take i ++ L.drop i) L[i].1 := by rw [← hs]
    rw [e]
    show List.filter _ _ = _
    rw [List.filter_append, List.filter_eq_self.2 (fun a ha => ?_), List.filter_eq_nil_iff.2 (fun a ha => ?_), List.append_nil]
    · obtain ⟨j, hj, rfl⟩ := List.mem_iff_getElem.1 ha
      rw [List.length_drop] at hj
      rw [List.getElem_drop]
      simp only [decide_eq_true_eq]
      by_cases h0 : j = 0
      · subst h0; exact lt_irrefl_l _
      · exact lt_asym (h.key_inj hi (by omega) (by omega))
    · obtain ⟨j, hj, rfl⟩ := List.mem_iff_getElem.1 ha
      rw [List.length_take] at hj
      rw [List.getElem_take]
      simp only [decide_eq_true_eq]
      exact h.key_inj (by omega) hi (by omega)
  rw [e, List.length_take]
  omega
theorem get_own {L : List Ent} (h : Rise L) {i : Nat} (hi : i < L.length) : getE L L[i].1 = some L[i].2 := (get_mem h).2 (List.getElem_mem hi)

/-! some of the keys -/
def onlyE (L : List Ent) (p : Ent → Bool) (j : Nat) : List Ent := (L.take j).filter p ++ L.drop j
theorem only_zero (L : List Ent) (p : Ent → Bool) : onlyE L p 0 = L := by simp [onlyE]
theorem only_all (L : List Ent) (p : Ent → Bool) : onlyE L p L.length = L.filter p := by simp [onlyE]
theorem only_keep {L : List Ent} {p : Ent → Bool} {j : Nat} (hj : j < L.length) (hp : p L[j] = true) : onlyE L p (j + 1) = onlyE L p j := by
  unfold onlyE
  rw [List.take_succ_eq_append_getElem hj, List.filter_append, List.drop_eq_getElem_cons hj, List.append_assoc]
  simp [hp]
theorem only_cut {L : List Ent} (h : Rise L) {p : Ent → Bool} {j : Nat} (hj : j < L.length) (hp : p L[j] = false) : delE (onlyE L p j) L[j].1 = onlyE L p (j + 1) := by
  unfold onlyE
  rw [List.take_succ_eq_append_getElem hj, List.filter_append]
  rw [List.filter_cons_of_neg (by simp [hp]), List.filter_nil, List.append_nil]
  rw [List.drop_eq_getElem_cons hj]
  show List.filter _ _ = _
  have e1 : ((L.take j).filter p).filter (fun e => decide (e.1 ≠ L[j].1)) = (L.take j).filter p := List.filter_eq_self.2 fun a ha => by
    obtain ⟨i, hi, rfl⟩ := List.mem_iff_getElem.1 (List.mem_filter.1 ha).1
    rw [List.length_take] at hi
    rw [List.getElem_take]
    have := lt_ne (h.key_inj (by omega : i < L.length) hj (by omega))
    simpa using this
  have e2 : (L.drop (j + 1)).filter (fun e => decide (e.1 ≠ L[j].1)) = L.drop (j + 1) := List.filter_eq_self.2 fun a ha => by
    obtain ⟨i, hi, rfl⟩ := List.mem_iff_getElem.1 ha
    rw [List.length_drop] at hi
    rw [List.getElem_drop]
    have := lt_ne (h.key_inj hj (by omega : j + 1 + i < L.length) (by omega))
    simpa using this.symm
  rw [List.filter_append, List.filter_cons_of_neg (by simp), e1, e2]
theorem only_sub (L : List Ent) (p : Ent → Bool) (j : Nat) : (onlyE L p j).Sublist L := by
  have h : (onlyE L p j).Sublist (L.take j ++ L.drop j) := List.Sublist.append List.filter_sublist (List.Sublist.refl _)
  rwa [List.take_append_drop] at h
theorem only_rise {L : List Ent} (h : Rise L) (p : Ent → Bool) (j : Nat) : Rise (onlyE L p j) := h.sub (only_sub L p j)
theorem only_len (L : List Ent) (p : Ent → Bool) (j : Nat) : (onlyE L p j).length ≤ L.length := (only_sub L p j).length_le
/-- A key above all is set behind all. -/
theorem ins_last {l : List Ent} {k : ByteArray} (x : Int) (h : ∀ e ∈ l, kb e.1 < kb k) : insE l k x = l ++ [(k, x)] := by
  unfold insE
  have e1 : belE l k = l := List.filter_eq_self.2 fun a ha => by simpa using h a ha
  have e2 : abvE l k = [] := List.filter_eq_nil_iff.2 fun a ha => by simpa using lt_asym (h a ha)
  rw [e1, e2]
theorem take_lt {L : List Ent} (h : Rise L) {j : Nat} (hj : j < L.length) : ∀ e ∈ L.take j, kb e.1 < kb L[j].1 := fun e he => by
  obtain ⟨i, hi, rfl⟩ := List.mem_iff_getElem.1 he
  rw [List.length_take] at hi
  rw [List.getElem_take]
  exact h.key_inj (by omega) hj (by omega)
/-- The kept ones, told one by one. -/
theorem keep_on {L : List Ent} (h : Rise L) {p : Ent → Bool} {j : Nat} (hj : j < L.length) (hp : p L[j] = true) : insE ((L.take j).filter p) L[j].1 L[j].2 = (L.take (j + 1)).filter p := by
  rw [ins_last _ fun e he => take_lt h hj e (List.mem_filter.1 he).1, List.take_succ_eq_append_getElem hj, List.filter_append]
  simp [hp]
theorem keep_off {L : List Ent} {p : Ent → Bool} {j : Nat} (hj : j < L.length) (hp : p L[j] = false) : (L.take (j + 1)).filter p = (L.take j).filter p := by
  rw [List.take_succ_eq_append_getElem hj, List.filter_append]
  simp [hp]

/-! put together -/
def uniE (A B : List Ent) : List Ent := A.foldl (fun b e => insE b e.1 e.2) B
theorem uni_nil (B : List Ent) : uniE [] B = B := rfl
theorem uni_snoc (A : List Ent) (e : Ent) (B : List Ent) : uniE (A ++ [e]) B = insE (uniE A B) e.1 e.2 := by simp [uniE]
theorem uni_take {A : List Ent} {j : Nat} (hj : j < A.length) (B : List Ent) : uniE (A.take (j + 1)) B = insE (uniE (A.take j) B) A[j].1 A[j].2 := by
  rw [List.take_succ_eq_append_getElem hj, uni_snoc]
theorem uni_rise {B : List Ent} (hB : Rise B) : ∀ A : List Ent, Rise (uniE A B) := by
  intro A
  induction A generalizing B with
  | nil => exact hB
  | cons e A ih => exact ih (hB.ins _ _)
theorem uni_len {B : List Ent} (hB : Rise B) : ∀ A : List Ent, (uniE A B).length ≤ A.length + B.length := by
  intro A
  induction A generalizing B with
  | nil => simp [uniE]
  | cons e A ih =>
    have h := ih (hB.ins e.1 e.2)
    have h2 := len_ins hB e.1 e.2
    show (uniE A (insE B e.1 e.2)).length ≤ _
    rw [List.length_cons]
    split at h2 <;> omega
theorem mem_uni {A B : List Ent} (hA : Rise A) (e : Ent) : e ∈ uniE A B ↔ e ∈ A ∨ (e ∈ B ∧ getE A e.1 = none) := by
  induction A generalizing B with
  | nil =>
    have : getE [] e.1 = none := rfl
    simp [uniE, this]
  | cons a A ih =>
    have h' := List.pairwise_cons.1 hA
    have ih := ih (B := insE B a.1 a.2) h'.2
    show e ∈ uniE A (insE B a.1 a.2) ↔ _
    rw [ih, mem_ins, List.mem_cons, get_none, get_none]
    have ha : ∀ b ∈ A, b.1 ≠ a.1 := fun b hb => (lt_ne (h'.1 b hb)).symm
    constructor
    · rintro (h | ⟨rfl | ⟨h1, h2⟩, h3⟩)
      · exact .inl (.inr h)
      · exact .inl (.inl rfl)
      · refine .inr ⟨h1, fun b hb => ?_⟩
        rcases List.mem_cons.1 hb with rfl | hb
        · exact fun e => h2 e.symm
        · exact h3 b hb
    · rintro ((rfl | h) | ⟨h1, h2⟩)
      · exact .inr ⟨.inl rfl, ha⟩
      · exact .inl h
      · exact .inr ⟨.inr ⟨h1, fun e => h2 a List.mem_cons_self e.symm⟩, fun b hb => h2 b (List.mem_cons_of_mem _ hb)⟩
/-- The way of the code: what the other one has besides is set. -/
def addE (A B : List Ent) : List Ent := B.foldl (fun u e => if (getE A e.1).isSome = true then u else insE u e.1 e.2) A
theorem add_snoc (A B : List Ent) (e : Ent) : addE A (B ++ [e]) = if (getE A e.1).isSome = true then addE A B else insE (addE A B) e.1 e.2 := by simp [addE]
theorem add_rise {A : List Ent} (hA : Rise A) (B : List Ent) : Rise (addE A B) := by
  obtain ⟨n, hn⟩ : ∃ n, n = B.length := ⟨_, rfl⟩
  induction n generalizing B with
  | zero =>
    obtain rfl := List.eq_nil_of_length_eq_zero hn.symm
    exact hA
  | succ n ih =>
    have hne : B ≠ [] := fun e => by rw [e] at hn; simp at hn
    obtain ⟨l, e, rfl⟩ : ∃ l e, B = l ++ [e] := ⟨B.dropLast, B.getLast hne, (List.dropLast_concat_getLast hne).symm⟩
    have h := ih l (by simp at hn; omega)
    rw [add_snoc]
    split
    · exact h
    · exact h.ins _ _
theorem add_len {A : List Ent} (hA : Rise A) (B : List Ent) : (addE A B).length ≤ A.length + B.length := by
  obtain ⟨n, hn⟩ : ∃ n, n = B.length := ⟨_, rfl⟩
  induction n generalizing B with
  | zero =>
    obtain rfl := List.eq_nil_of_length_eq_zero hn.symm
    exact Nat.le_refl _
  | succ n ih =>
    have hne : B ≠ [] := fun e => by rw [e] at hn; simp at hn
    obtain ⟨l, e, rfl⟩ : ∃ l e, B = l ++ [e] := ⟨B.dropLast, B.getLast hne, (List.dropLast_concat_getLast hne).symm⟩
    have h := ih l (by simp at hn; omega)
    have h2 := len_ins (add_rise hA l) e.1 e.2
    rw [add_snoc, List.length_append, List.length_singleton]
    split
    · omega
    · split at h2 <;> omega
theorem mem_add {A : List Ent} (B : List Ent) (hB : Rise B) (e : Ent) : e ∈ addE A B ↔ e ∈ A ∨ (e ∈ B ∧ getE A e.1 = none) := by
  obtain ⟨n, hn⟩ : ∃ n, n = B.length := ⟨_, rfl⟩
  induction n generalizing B with
  | zero =>
    obtain rfl := List.eq_nil_of_length_eq_zero hn.symm
    simp [addE]
  | succ n ih =>
    have hne : B ≠ [] := fun e => by rw [e] at hn; simp at hn
    obtain ⟨l, b, rfl⟩ : ∃ l e, B = l ++ [e] := ⟨B.dropLast, B.getLast hne, (List.dropLast_concat_getLast hne).symm⟩
    have hp := List.pairwise_append.1 hB
    have h := ih l hp.1 (by simp at hn; omega)
    rw [add_snoc, List.mem_append, List.mem_singleton]
    cases hg : getE A b.1 with
    | some y =>
      rw [if_pos (by simp), h]
      constructor
      · rintro (h | ⟨h1, h2⟩)
        · exact .inl h
        · exact .inr ⟨.inl h1, h2⟩
      · rintro (h | ⟨h1 | rfl, h2⟩)
        · exact .inl h
        · exact .inr ⟨h1, h2⟩
        · rw [hg] at h2; cases h2
    | none =>
      rw [if_neg (by simp), mem_ins, h]
      constructor
      · rintro (rfl | ⟨h | ⟨h1, h2⟩, h3⟩)
        · exact .inr ⟨.inr rfl, hg⟩
        · exact .inl h
        · exact .inr ⟨.inl h1, h2⟩
      · rintro (h | ⟨h1 | rfl, h2⟩)
        · exact .inr ⟨.inl h, (get_none.1 hg) e h⟩
        · exact .inr ⟨.inr ⟨h1, h2⟩, lt_ne (hp.2.2 e h1 b (List.mem_singleton.2 rfl))⟩
        · exact .inl rfl
theorem add_uni {A B : List Ent} (hA : Rise A) (hB : Rise B) : addE A B = uniE A B :=
  rise_ext (add_rise hA B) (uni_rise hB A) fun e => by rw [mem_add B hB, mem_uni hA]
theorem get_uni {A B : List Ent} (hA : Rise A) (hB : Rise B) (k : ByteArray) : getE (uniE A B) k = match getE A k with | some x => some x | none => getE B k := by
  cases hg : getE A k with
  | some x => exact (get_mem (uni_rise hB A)).2 ((mem_uni hA _).2 (.inl ((get_mem hA).1 hg)))
  | none =>
    cases hb : getE B k with
    | some y => exact (get_mem (uni_rise hB A)).2 ((mem_uni hA _).2 (.inr ⟨(get_mem hB).1 hb, hg⟩))
    | none =>
      simp only
      rw [get_none] at hg hb ⊢
      intro e he
      rcases (mem_uni hA e).1 he with h | ⟨h, _⟩
      · exact hg e h
      · exact hb e h
end Go.Proofs.YtnnlfgfgfegjkaaDoor
