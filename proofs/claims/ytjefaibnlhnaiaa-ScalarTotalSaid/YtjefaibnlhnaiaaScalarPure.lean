/- Plain facts of layer 5: scalars, their keys, what is read of keys, and the keys' order. No program is imported. -/
import Derived.Test.YtjefaibnlhnaiaaLaw02Pure
import Derived.Test.YtjefaibnlhnaiaaRef01Bytes
namespace Go.Proofs.Ytjefaibnlhnaiaa
open Go.RowKit

/-- A scalar: its kind, its number, its text. -/
abbrev Sc := Int × Int × List UInt8
def chkSc (s : Sc) : Int :=
  if s.1 < 0 ∨ 3 < s.1 then 3
  else if (s.1 = 0 ∨ s.1 = 3) ∧ s.2.1 ≠ 0 then 1
  else if s.1 ≠ 3 ∧ s.2.2 ≠ [] then 1
  else if s.1 = 1 ∧ s.2.1 ≠ 0 ∧ s.2.1 ≠ 1 then 4
  else 0
def ordSc (a b : Sc) : Int :=
  if a.1 < b.1 then -1 else if b.1 < a.1 then 1 else if a.2.1 < b.2.1 then -1 else if b.2.1 < a.2.1 then 1 else orderS a.2.2 b.2.2
def covOne (c : UInt8) : List UInt8 := if c = 0 then [0, 255] else [c]
def covS (l : List UInt8) : List UInt8 := l.flatMap covOne
def keySc (s : Sc) : List UInt8 :=
  if chkSc s ≠ 0 then [] else if s.1 = 0 then [1] else if s.1 = 1 then [2, bt8 s.2.1] else if s.1 = 2 then 3 :: bytesS s.2.1 else 4 :: (covS s.2.2 ++ [0, 0])
def putS (c : UInt8) (k : Nat) (x : List UInt8 × Nat × Int) : List UInt8 × Nat × Int := if x.2.2 = 0 then (c :: x.1, x.2.1 + k, 0) else ([], x.2.1 + k, x.2.2)
/-- The text of covered bytes, up to 00 00, and the place behind these; or where it breaks, and how. -/
def bareS : List UInt8 → List UInt8 × Nat × Int
  | [] => ([], 0, 10)
  | c :: r => if c ≠ 0 then putS c 1 (bareS r) else match r with
    | [] => ([], 1, 10)
    | d :: r' => if d = 0 then ([], 2, 0) else if d = 255 then putS 0 2 (bareS r') else ([], 1, 2)
def unkSc : List UInt8 → Sc × Nat × Int
  | [] => ((0, 0, []), 0, 10)
  | c :: r =>
    if c = 1 then ((0, 0, []), 1, 0)
    else if c = 2 then (match r with
      | [] => ((0, 0, []), 1, 10)
      | b :: _ => if 1 < b.toNat then ((0, 0, []), 1, 2) else ((1, (b.toNat : Int), []), 2, 0))
    else if c = 3 then (if r.length < 8 then ((0, 0, []), r.length + 1, 10) else ((2, (unbytesS (r.take 8)).1, []), 9, 0))
    else if c = 4 then (if (bareS r).2.2 = 0 then ((3, 0, (bareS r).1), (bareS r).2.1 + 1, 0) else ((0, 0, []), (bareS r).2.1 + 1, (bareS r).2.2))
    else ((0, 0, []), 0, 2)

theorem chk_cases (s : Sc) (h : chkSc s = 0) : s = (0, 0, []) ∨ s = (1, 0, []) ∨ s = (1, 1, []) ∨ (∃ n, s = (2, n, [])) ∨ ∃ t, s = (3, 0, t) := by
  obtain ⟨k, n, t⟩ := s
  unfold chkSc at h
  simp only at h
  split at h
  · cases h
  rename_i h1
  split at h
  · cases h
  rename_i h2
  split at h
  · cases h
  rename_i h3
  split at h
  · cases h
  rename_i h4
  have hk : k = 0 ∨ k = 1 ∨ k = 2 ∨ k = 3 := by omega
  rcases hk with rfl | rfl | rfl | rfl
  · have hn : n = 0 := by omega
    have ht : t = [] := by
      rcases Decidable.em (t = []) with h | h
      · exact h
      · exact absurd ⟨by decide, h⟩ h3
    subst hn ht; exact .inl rfl
  · have ht : t = [] := by
      rcases Decidable.em (t = []) with h | h
      · exact h
      · exact absurd ⟨by decide, h⟩ h3
    subst ht
    have hn : n = 0 ∨ n = 1 := by omega
    rcases hn with rfl | rfl
    · exact .inr (.inl rfl)
    · exact .inr (.inr (.inl rfl))
  · have ht : t = [] := by
      rcases Decidable.em (t = []) with h | h
      · exact h
      · exact absurd ⟨by decide, h⟩ h3
    subst ht; exact .inr (.inr (.inr (.inl ⟨n, rfl⟩)))
  · have hn : n = 0 := by omega
    subst hn; exact .inr (.inr (.inr (.inr ⟨t, rfl⟩)))
theorem chk_null : chkSc (0, 0, []) = 0 := by decide
theorem chk_false : chkSc (1, 0, []) = 0 := by decide
theorem chk_true : chkSc (1, 1, []) = 0 := by decide
theorem chk_int (n : Int) : chkSc (2, n, []) = 0 := by simp [chkSc]
theorem chk_text (t : List UInt8) : chkSc (3, 0, t) = 0 := by simp [chkSc]
theorem key_null : keySc (0, 0, []) = [1] := by decide
theorem key_false : keySc (1, 0, []) = [2, 0] := by decide +kernel
theorem key_true : keySc (1, 1, []) = [2, 1] := by decide +kernel
theorem key_int (n : Int) : keySc (2, n, []) = 3 :: bytesS n := by simp [keySc, chk_int]
theorem key_text (t : List UInt8) : keySc (3, 0, t) = 4 :: (covS t ++ [0, 0]) := by simp [keySc, chk_text]
theorem key_bad (s : Sc) (h : ¬ chkSc s = 0) : keySc s = [] := by simp [keySc, h]

/-! covered texts -/
theorem cov_cons (c : UInt8) (t : List UInt8) : covS (c :: t) = covOne c ++ covS t := by simp [covS]
theorem cov_len (t : List UInt8) : (covS t).length ≤ 2 * t.length := by
  induction t with
  | nil => simp [covS]
  | cons c t ih =>
    rw [cov_cons, List.length_append, List.length_cons]
    have : (covOne c).length ≤ 2 := by unfold covOne; split <;> simp
    omega
theorem bare_plain (c : UInt8) (r : List UInt8) (h : c ≠ 0) : bareS (c :: r) = putS c 1 (bareS r) := by rw [bareS.eq_def]; simp [h]
theorem bare_two (d : UInt8) (r : List UInt8) : bareS (0 :: d :: r) = if d = 0 then ([], 2, 0) else if d = 255 then putS 0 2 (bareS r) else ([], 1, 2) := by rw [bareS.eq_def]; simp
theorem bare_cov (r : List UInt8) : bareS (0 :: 255 :: r) = putS 0 2 (bareS r) := by rw [bare_two, if_neg (by decide), if_pos rfl]
theorem bare_one : bareS [0] = ([], 1, 10) := by decide
theorem bare_cover (x : List UInt8) : ∀ t : List UInt8, bareS (covS t ++ 0 :: 0 :: x) = (t, (covS t).length + 2, 0)
  | [] => by simp [covS, bareS]
  | c :: t => by
    have ih := bare_cover x t
    rw [cov_cons]
    unfold covOne
    by_cases h : c = 0
    · subst h
      rw [if_pos rfl]
      show bareS (0 :: 255 :: (covS t ++ 0 :: 0 :: x)) = _
      rw [bare_cov, ih]
      simp [putS]
    · rw [if_neg h]
      show bareS (c :: (covS t ++ 0 :: 0 :: x)) = _
      rw [bare_plain c _ h, ih]
      simp [putS]
theorem bare_back : ∀ (m : Nat) (k : List UInt8), k.length ≤ m → (bareS k).2.2 = 0 → k = covS (bareS k).1 ++ 0 :: 0 :: k.drop (bareS k).2.1 ∧ (bareS k).2.1 = (covS (bareS k).1).length + 2
  | _, [], _, h => by simp [bareS] at h
  | 0, _ :: _, hm, _ => by simp at hm
  | m + 1, c :: r, hm, h => by
    by_cases hc : c ≠ 0
    · rw [bare_plain c r hc] at h ⊢
      have h0 : (bareS r).2.2 = 0 := by
        unfold putS at h
        split at h
        · assumption
        · exact h
      obtain ⟨h1, h2⟩ := bare_back m r (by simp at hm; omega) h0
      unfold putS
      rw [if_pos h0]
      simp only [cov_cons, covOne, if_neg hc, List.cons_append, List.nil_append, List.drop_succ_cons, List.length_cons]
      exact ⟨by rw [← h1], by omega⟩
    · have hc0 : c = 0 := by simpa using hc
      subst hc0
      cases r with
      | nil => rw [bare_one] at h; simp at h
      | cons d r' =>
        rw [bare_two] at h ⊢
        by_cases hd : d = 0
        · subst hd
          rw [if_pos rfl]
          simp [covS]
        · rw [if_neg hd] at h ⊢
          by_cases hf : d = 255
          · subst hf
            rw [if_pos rfl] at h ⊢
            have h0 : (bareS r').2.2 = 0 := by
              unfold putS at h
              split at h
              · assumption
              · exact h
            obtain ⟨h1, h2⟩ := bare_back m r' (by simp at hm; omega) h0
            unfold putS
            rw [if_pos h0]
            simp only [cov_cons, covOne, if_true, List.cons_append, List.nil_append, List.length_cons]
            refine ⟨?_, by omega⟩
            show 0 :: 255 :: r' = 0 :: 255 :: (covS (bareS r').1 ++ 0 :: 0 :: r'.drop (bareS r').2.1)
            rw [← h1]
          · rw [if_neg hf] at h
            simp at h
theorem bare_cut : ∀ (t : List UInt8) (j : Nat), j < (covS t).length + 2 → bareS ((covS t ++ [0, 0]).take j) = ([], j, 10)
  | [], j, h => by
    have hj : j = 0 ∨ j = 1 := by simp [covS] at h; omega
    rcases hj with rfl | rfl
    · simp [covS, bareS]
    · simp [covS, bareS]
  | c :: t, j, h => by
    have ih := bare_cut t
    rw [cov_cons] at h ⊢
    unfold covOne at h ⊢
    by_cases hc : c = 0
    · subst hc
      rw [if_pos rfl] at h ⊢
      show bareS ((0 :: 255 :: (covS t ++ [0, 0])).take j) = _
      match j, h with
      | 0, _ => simp [bareS]
      | 1, _ => simpa using bare_one
      | j + 2, h =>
        simp only [List.take_succ_cons]
        rw [bare_cov, ih j (by simp at h; omega)]
        simp [putS]
    · rw [if_neg hc] at h ⊢
      show bareS ((c :: (covS t ++ [0, 0])).take j) = _
      match j, h with
      | 0, _ => simp [bareS]
      | j + 1, h =>
        simp only [List.take_succ_cons]
        rw [bare_plain c _ hc, ih j (by simp at h; omega)]
        simp [putS]

/-! keys -/
theorem unk_null (r : List UInt8) : unkSc (1 :: r) = ((0, 0, []), 1, 0) := by simp [unkSc]
theorem unk_bool (b : UInt8) (r : List UInt8) : unkSc (2 :: b :: r) = if 1 < b.toNat then ((0, 0, []), 1, 2) else ((1, (b.toNat : Int), []), 2, 0) := by simp [unkSc]
theorem unk_int (r : List UInt8) : unkSc (3 :: r) = if r.length < 8 then ((0, 0, []), r.length + 1, 10) else ((2, (unbytesS (r.take 8)).1, []), 9, 0) := by simp [unkSc]
theorem unk_text (r : List UInt8) : unkSc (4 :: r) = if (bareS r).2.2 = 0 then ((3, 0, (bareS r).1), (bareS r).2.1 + 1, 0) else ((0, 0, []), (bareS r).2.1 + 1, (bareS r).2.2) := by simp [unkSc]
/-- A key is read as its scalar, whatever stands behind. -/
theorem unk_key (s : Sc) (hc : chkSc s = 0) (hn : InR s.2.1) (x : List UInt8) : unkSc (keySc s ++ x) = (s, (keySc s).length, 0) := by
  rcases chk_cases s hc with rfl | rfl | rfl | ⟨n, rfl⟩ | ⟨t, rfl⟩
  · rw [key_null]; exact unk_null x
  · rw [key_false]; show unkSc (2 :: 0 :: x) = _; rw [unk_bool]; simp
  · rw [key_true]; show unkSc (2 :: 1 :: x) = _; rw [unk_bool]; simp
  · rw [key_int]
    show unkSc (3 :: (bytesS n ++ x)) = _
    have hl := bytesS_len n
    rw [unk_int, if_neg (by rw [List.length_append, hl]; omega), List.take_left' hl, unbytes_bytes n hn]
    simp [hl]
  · rw [key_text]
    have e : (4 :: (covS t ++ [0, 0])) ++ x = 4 :: (covS t ++ 0 :: 0 :: x) := by simp
    rw [e, unk_text, bare_cover]
    simp
/-- What is read has the key that was read. -/
theorem unk_back (k : List UInt8) (h : (unkSc k).2.2 = 0) : chkSc (unkSc k).1 = 0 ∧ InR (unkSc k).1.2.1 ∧ keySc (unkSc k).1 = k.take (unkSc k).2.1 ∧ 1 ≤ (unkSc k).2.1 ∧ (unkSc k).2.1 ≤ k.length := by
  have i0 : InR 0 := ⟨by decide, by decide⟩
  cases k with
  | nil => simp [unkSc] at h
  | cons c r =>
    by_cases h1 : c = 1
    · subst h1
      rw [unk_null]
      exact ⟨chk_null, i0, by rw [key_null]; rfl, Nat.le_refl _, by simp⟩
    by_cases h2 : c = 2
    · subst h2
      cases r with
      | nil => simp [unkSc] at h
      | cons b r =>
        rw [unk_bool] at h ⊢
        by_cases hb : 1 < b.toNat
        · rw [if_pos hb] at h; simp at h
        · rw [if_neg hb]
          have hb' : b = 0 ∨ b = 1 := by
            rcases (show b.toNat = 0 ∨ b.toNat = 1 by omega) with h | h
            · exact .inl (UInt8.toNat_inj.1 (by simpa using h))
            · exact .inr (UInt8.toNat_inj.1 (by simpa using h))
          rcases hb' with rfl | rfl
          · exact ⟨chk_false, i0, key_false, by simp, by simp⟩
          · exact ⟨chk_true, ⟨by decide, by decide⟩, key_true, by simp, by simp⟩
    by_cases h3 : c = 3
    · subst h3
      rw [unk_int] at h ⊢
      by_cases hl : r.length < 8
      · rw [if_pos hl] at h; simp at h
      · rw [if_neg hl]
        have hl8 : (r.take 8).length = 8 := by rw [List.length_take]; omega
        refine ⟨chk_int _, unbytesS_in _, ?_, by simp, by simp; omega⟩
        simp only
        rw [key_int, bytes_unbytes _ (by simp [unbytesS, hl8])]
        rfl
    by_cases h4 : c = 4
    · subst h4
      rw [unk_text] at h ⊢
      by_cases hb : (bareS r).2.2 = 0
      · rw [if_pos hb]
        obtain ⟨e1, e2⟩ := bare_back r.length r (Nat.le_refl _) hb
        have hlen : (bareS r).2.1 ≤ r.length := by
          have := congrArg List.length e1
          simp at this
          omega
        refine ⟨chk_text _, i0, ?_, by simp, by simpa using hlen⟩
        simp only
        rw [key_text, List.take_succ_cons]
        congr 1
        have e3 : covS (bareS r).1 ++ 0 :: 0 :: r.drop (bareS r).2.1 = (covS (bareS r).1 ++ [0, 0]) ++ r.drop (bareS r).2.1 := by simp
        have e4 : (covS (bareS r).1 ++ [0, 0]).length = (bareS r).2.1 := by simp; omega
        exact ((congrArg (List.take (bareS r).2.1) (e1.trans e3)).trans (List.take_left' e4)).symm
      · rw [if_neg hb] at h
        exact absurd h hb
    · exfalso
      simp [unkSc, h1, h2, h3, h4] at h
/-- Cut off anywhere a key is too short. -/
theorem unk_cut (s : Sc) (hc : chkSc s = 0) (j : Nat) (h : j < (keySc s).length) : (unkSc ((keySc s).take j)).2 = (j, 10) := by
  cases j with
  | zero => simp [unkSc]
  | succ j =>
    rcases chk_cases s hc with rfl | rfl | rfl | ⟨n, rfl⟩ | ⟨t, rfl⟩
    · rw [key_null] at h; simp at h
    · rw [key_false] at h ⊢
      obtain rfl : j = 0 := by simp at h; omega
      simp [unkSc]
    · rw [key_true] at h ⊢
      obtain rfl : j = 0 := by simp at h; omega
      simp [unkSc]
    · rw [key_int] at h ⊢
      have hl := bytesS_len n
      simp only [List.length_cons, hl] at h
      rw [List.take_succ_cons, unk_int, if_pos (by rw [List.length_take, hl]; omega)]
      simp [hl]; omega
    · rw [key_text] at h ⊢
      rw [List.take_succ_cons, unk_text, bare_cut t j (by simp at h; omega)]
      simp
theorem key_len (s : Sc) : (keySc s).length ≤ 2 * s.2.2.length + 9 := by
  by_cases hc : chkSc s = 0
  · rcases chk_cases s hc with rfl | rfl | rfl | ⟨n, rfl⟩ | ⟨t, rfl⟩
    · rw [key_null]; simp
    · rw [key_false]; simp
    · rw [key_true]; simp
    · rw [key_int]; simp [bytesS_len]
    · rw [key_text]
      have := cov_len t
      simp; omega
  · rw [key_bad s hc]; simp

/-! the keys' order -/
theorem ord_cons_lt (a b : UInt8) (l r : List UInt8) (h : a < b) : orderS (a :: l) (b :: r) = -1 := (orderS_less _ _).2 (List.cons_lt_cons_iff.2 (.inl h))
theorem ord_cons_gt (a b : UInt8) (l r : List UInt8) (h : b < a) : orderS (a :: l) (b :: r) = 1 := by rw [orderS_neg, ord_cons_lt b a r l h]; rfl
theorem ord_cons (a : UInt8) (l r : List UInt8) : orderS (a :: l) (a :: r) = orderS l r := by
  unfold orderS
  have h1 : (a :: l = a :: r) ↔ l = r := by simp
  have h2 : (a :: l < a :: r) ↔ l < r := by
    rw [List.cons_lt_cons_iff]
    exact ⟨fun h => by rcases h with h | h; exact absurd h (UInt8.lt_irrefl _); exact h.2, fun h => .inr ⟨rfl, h⟩⟩
  simp only [h1, h2]
theorem com_ne (a b : UInt8) (l r : List UInt8) (h : ¬ a = b) : commonS (a :: l) (b :: r) = 0 := by simp [commonS, h]
theorem com_eq (a : UInt8) (l r : List UInt8) : commonS (a :: l) (a :: r) = commonS l r + 1 := by simp [commonS]
/-- Unlike where both go on; and in what order, whatever stands behind. -/
def Apart (k l : List UInt8) (o : Int) : Prop := commonS k l < k.length ∧ commonS k l < l.length ∧ ∀ x y, orderS (k ++ x) (l ++ y) = o
theorem Apart.cons {k l : List UInt8} {o : Int} (h : Apart k l o) (c : UInt8) : Apart (c :: k) (c :: l) o := by
  refine ⟨?_, ?_, fun x y => ?_⟩
  · rw [com_eq, List.length_cons]; have := h.1; omega
  · rw [com_eq, List.length_cons]; have := h.2.1; omega
  · rw [List.cons_append, List.cons_append, ord_cons]; exact h.2.2 x y
theorem Apart.lt {a b : UInt8} (h : a < b) (k l : List UInt8) : Apart (a :: k) (b :: l) (-1) := by
  have hne : ¬ a = b := fun e => by subst e; exact absurd h (UInt8.lt_irrefl _)
  exact ⟨by rw [com_ne _ _ _ _ hne]; simp, by rw [com_ne _ _ _ _ hne]; simp, fun x y => ord_cons_lt _ _ _ _ h⟩
theorem Apart.gt {a b : UInt8} (h : b < a) (k l : List UInt8) : Apart (a :: k) (b :: l) 1 := by
  have hne : ¬ a = b := fun e => by subst e; exact absurd h (UInt8.lt_irrefl _)
  exact ⟨by rw [com_ne _ _ _ _ hne]; simp, by rw [com_ne _ _ _ _ hne]; simp, fun x y => ord_cons_gt _ _ _ _ h⟩
/-- Lists of one length that are unlike. -/
theorem apart_same : ∀ (k l : List UInt8), k.length = l.length → ¬ k = l → Apart k l (orderS k l)
  | [], [], _, h => absurd rfl h
  | [], _ :: _, h, _ => by simp at h
  | _ :: _, [], h, _ => by simp at h
  | a :: k, b :: l, hl, h => by
    by_cases hab : a = b
    · subst hab
      rw [ord_cons]
      exact (apart_same k l (by simpa using hl) (fun e => h (by rw [e]))).cons a
    · rcases (show a < b ∨ b < a by
        rw [UInt8.lt_iff_toNat_lt, UInt8.lt_iff_toNat_lt]
        have : ¬ a.toNat = b.toNat := fun e => hab (UInt8.toNat_inj.1 e)
        omega) with h1 | h1
      · rw [ord_cons_lt _ _ _ _ h1]; exact Apart.lt h1 k l
      · rw [ord_cons_gt _ _ _ _ h1]; exact Apart.gt h1 k l
theorem apart_cover : ∀ (t u : List UInt8), ¬ t = u → Apart (covS t ++ [0, 0]) (covS u ++ [0, 0]) (orderS t u)
  | [], [], h => absurd rfl h
  | [], d :: u, _ => by
    have e : orderS [] (d :: u) = -1 := by simp [orderS]
    rw [e, cov_cons]
    unfold covOne
    by_cases hd : d = 0
    · subst hd
      rw [if_pos rfl]
      show Apart (0 :: [0]) (0 :: (255 :: (covS u ++ [0, 0]))) (-1)
      exact (Apart.lt (by decide) [] _).cons 0
    · rw [if_neg hd]
      show Apart (0 :: [0]) (d :: (covS u ++ [0, 0])) (-1)
      exact Apart.lt (by rw [UInt8.lt_iff_toNat_lt]; have : ¬ d.toNat = 0 := fun e => hd (UInt8.toNat_inj.1 (by simpa using e)); simp; omega) _ _
  | c :: t, [], _ => by
    have e : orderS (c :: t) [] = 1 := by simp [orderS]
    rw [e, cov_cons]
    unfold covOne
    by_cases hc : c = 0
    · subst hc
      rw [if_pos rfl]
      show Apart (0 :: (255 :: (covS t ++ [0, 0]))) (0 :: [0]) 1
      exact (Apart.gt (by decide) _ []).cons 0
    · rw [if_neg hc]
      show Apart (c :: (covS t ++ [0, 0])) (0 :: [0]) 1
      exact Apart.gt (by rw [UInt8.lt_iff_toNat_lt]; have : ¬ c.toNat = 0 := fun e => hc (UInt8.toNat_inj.1 (by simpa using e)); simp; omega) _ _
  | c :: t, d :: u, h => by
    by_cases hcd : c = d
    · subst hcd
      rw [ord_cons, cov_cons, cov_cons]
      have ih := apart_cover t u (fun e => h (by rw [e]))
      unfold covOne
      by_cases hc : c = 0
      · rw [if_pos hc]
        exact (ih.cons 255).cons 0
      · rw [if_neg hc]
        exact ih.cons c
    · have h1 : c < d ∨ d < c := by
        rw [UInt8.lt_iff_toNat_lt, UInt8.lt_iff_toNat_lt]
        have : ¬ c.toNat = d.toNat := fun e => hcd (UInt8.toNat_inj.1 e)
        omega
      have hx : ∀ (e : UInt8) (v : List UInt8), ∃ r, covS (e :: v) ++ [0, 0] = e :: r := fun e v => by
        rw [cov_cons]; unfold covOne
        split
        · rename_i h0; subst h0; exact ⟨_, rfl⟩
        · exact ⟨_, rfl⟩
      obtain ⟨r1, e1⟩ := hx c t
      obtain ⟨r2, e2⟩ := hx d u
      rw [e1, e2]
      rcases h1 with h1 | h1
      · rw [ord_cons_lt _ _ _ _ h1]; exact Apart.lt h1 r1 r2
      · rw [ord_cons_gt _ _ _ _ h1]; exact Apart.gt h1 r1 r2
/-- Keys of unlike scalars. -/
theorem key_apart (a b : Sc) (ha : chkSc a = 0) (hb : chkSc b = 0) (ia : InR a.2.1) (ib : InR b.2.1) (h : ¬ a = b) : Apart (keySc a) (keySc b) (ordSc a b) := by
  rcases chk_cases a ha with rfl | rfl | rfl | ⟨n, rfl⟩ | ⟨t, rfl⟩ <;> rcases chk_cases b hb with rfl | rfl | rfl | ⟨m, rfl⟩ | ⟨u, rfl⟩
  all_goals try rw [key_null]
  all_goals try rw [key_false]
  all_goals try rw [key_true]
  all_goals try rw [key_int]
  all_goals try rw [key_text]
  all_goals try rw [key_null]
  all_goals try rw [key_false]
  all_goals try rw [key_true]
  all_goals try rw [key_int]
  all_goals try rw [key_text]
  all_goals first
    | exact absurd rfl h
    | exact Apart.lt (by decide) _ _
    | exact Apart.gt (by decide) _ _
    | exact (Apart.lt (by decide) _ _).cons 2
    | exact (Apart.gt (by decide) _ _).cons 2
    | skip
  · have hne : ¬ n = m := fun e => h (by rw [e])
    have hnb : ¬ bytesS n = bytesS m := fun e => by
      have h1 := unbytes_bytes n ia
      rw [e, unbytes_bytes m ib] at h1
      exact hne (by simpa using h1.symm)
    have e : ordSc (2, n, []) (2, m, []) = orderS (bytesS n) (bytesS m) := by
      unfold ordSc
      simp only [Int.lt_irrefl, if_false]
      by_cases h1 : n < m
      · rw [if_pos h1, (orderS_less _ _).2 ((bytesS_lt n m ia ib).2 h1)]
      · have h2 : m < n := by omega
        rw [if_neg h1, if_pos h2, orderS_neg, (orderS_less _ _).2 ((bytesS_lt m n ib ia).2 h2)]; rfl
    rw [e]
    exact (apart_same _ _ (by rw [bytesS_len, bytesS_len]) hnb).cons 3
  · have hne : ¬ t = u := fun e => h (by rw [e])
    have e : ordSc (3, 0, t) (3, 0, u) = orderS t u := by simp [ordSc]
    rw [e]
    exact (apart_cover t u hne).cons 4

/-! the order is total -/
theorem ordSc_range (a b : Sc) : ordSc a b = -1 ∨ ordSc a b = 0 ∨ ordSc a b = 1 := by
  unfold ordSc
  split
  · exact .inl rfl
  split
  · exact .inr (.inr rfl)
  split
  · exact .inl rfl
  split
  · exact .inr (.inr rfl)
  exact orderS_range _ _
theorem ordSc_zero (a b : Sc) : ordSc a b = 0 ↔ a = b := by
  obtain ⟨k, n, t⟩ := a
  obtain ⟨k', n', t'⟩ := b
  unfold ordSc
  simp only [Prod.mk.injEq]
  constructor
  · intro h
    split at h
    · cases h
    split at h
    · cases h
    split at h
    · cases h
    split at h
    · cases h
    exact ⟨by omega, by omega, (orderS_zero _ _).1 h⟩
  · rintro ⟨rfl, rfl, rfl⟩
    simp [(orderS_zero t t).2 rfl]
theorem ordSc_neg (a b : Sc) : ordSc b a = - ordSc a b := by
  unfold ordSc
  by_cases h1 : a.1 < b.1
  · rw [if_pos h1, if_neg (by omega), if_pos h1]; rfl
  rw [if_neg h1]
  by_cases h2 : b.1 < a.1
  · simp only [if_pos h2, if_neg h1]
  rw [if_neg h2, if_neg h2, if_neg h1]
  by_cases h3 : a.2.1 < b.2.1
  · rw [if_pos h3, if_neg (by omega), if_pos h3]; rfl
  rw [if_neg h3]
  by_cases h4 : b.2.1 < a.2.1
  · simp only [if_pos h4, if_neg h3]
  rw [if_neg h4, if_neg h4, if_neg h3, orderS_neg]
/-- Below, by parts. -/
theorem ordSc_le (a b : Sc) (h : ordSc a b ≤ 0) : a.1 < b.1 ∨ (a.1 = b.1 ∧ (a.2.1 < b.2.1 ∨ (a.2.1 = b.2.1 ∧ orderS a.2.2 b.2.2 ≤ 0))) := by
  unfold ordSc at h
  split at h
  · left; assumption
  split at h
  · omega
  split at h
  · right; exact ⟨by omega, .inl ‹_›⟩
  split at h
  · omega
  right; exact ⟨by omega, .inr ⟨by omega, h⟩⟩
theorem ordSc_trans (a b c : Sc) (h1 : ordSc a b ≤ 0) (h2 : ordSc b c ≤ 0) : ordSc a c ≤ 0 ∧ (ordSc a b = 0 ∧ ordSc b c = 0 ∨ ordSc a c < 0) := by
  by_cases e1 : a = b
  · subst e1
    by_cases e2 : a = c
    · subst e2
      exact ⟨h2, .inl ⟨(ordSc_zero a a).2 rfl, (ordSc_zero a a).2 rfl⟩⟩
    · have : ¬ ordSc a c = 0 := fun h => e2 ((ordSc_zero a c).1 h)
      exact ⟨h2, .inr (by omega)⟩
  by_cases e2 : b = c
  · subst e2
    have : ¬ ordSc a b = 0 := fun h => e1 ((ordSc_zero a b).1 h)
    exact ⟨h1, .inr (by omega)⟩
  have hlt : ordSc a c < 0 := by
    have g1 := ordSc_le a b h1
    have g2 := ordSc_le b c h2
    have n1 : ¬ ordSc a b = 0 := fun h => e1 ((ordSc_zero a b).1 h)
    have n2 : ¬ ordSc b c = 0 := fun h => e2 ((ordSc_zero b c).1 h)
    unfold ordSc
    by_cases k1 : a.1 < c.1
    · rw [if_pos k1]; decide
    rw [if_neg k1, if_neg (by omega)]
    by_cases k2 : a.2.1 < c.2.1
    · rw [if_pos k2]; decide
    rw [if_neg k2, if_neg (by omega)]
    have q1 : orderS a.2.2 b.2.2 ≤ 0 := by
      rcases g1 with g1 | ⟨_, g1 | ⟨_, g1⟩⟩
      · omega
      · omega
      · exact g1
    have q2 : orderS b.2.2 c.2.2 ≤ 0 := by
      rcases g2 with g2 | ⟨_, g2 | ⟨_, g2⟩⟩
      · omega
      · omega
      · exact g2
    rcases (orderS_trans _ _ _ q1 q2).2 with ⟨z1, z2⟩ | z
    · exfalso
      have ea : a = b := by
        obtain ⟨a1, a2, a3⟩ := a
        obtain ⟨b1, b2, b3⟩ := b
        simp only at *
        have := (orderS_zero a3 b3).1 z1
        subst this
        have : a1 = b1 := by omega
        have : a2 = b2 := by omega
        subst_vars; rfl
      exact e1 ea
    · exact z
  exact ⟨by omega, .inr hlt⟩
end Go.Proofs.Ytjefaibnlhnaiaa
