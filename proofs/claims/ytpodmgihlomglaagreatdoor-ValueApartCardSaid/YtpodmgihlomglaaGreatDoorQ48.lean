import Derived.Test.YtpodmgihlomglaaGreatDoorQ39
import Derived.Test.YtpodmgihlomglaaGreatDoorQ40
import Derived.Test.YtpodmgihlomglaaGreatDoorQ44
namespace Go.Proofs.YtpodmgihlomglaaGreatDoor
open Go.RowKit
set_option maxRecDepth 1000000
set_option linter.unusedSimpArgs false
theorem kB_data (a : Tr) : (kB a).data.toList = keyT a := by simp [kB]
theorem commonS_of : ∀ (k : Nat) (l r : List UInt8), l.take k = r.take k → k ≤ l.length → k ≤ r.length → (k = l.length ∨ k = r.length ∨ l[k]? ≠ r[k]?) → commonS l r = k
 | 0, l, r, _, _, _, h => by
  cases l with
  | nil => rfl
  | cons a l =>
   cases r with
   | nil => rfl
   | cons b r =>
    rcases h with h | h | h
    ·simp at h
    ·simp at h
    ·have : ¬ a = b := by simpa using h
     simp [commonS, this]
 | k + 1, l, r, ht, hl, hr, h => by
  cases l with
  | nil => simp at hl
  | cons a l =>
   cases r with
   | nil => simp at hr
   | cons b r =>
    simp only [List.take_succ_cons, List.cons.injEq] at ht
    simp only [List.length_cons] at hl hr h
    simp only [commonS]
    rw [if_pos ht.1, commonS_of k l r ht.2 (by omega) (by omega) (by
     rcases h with h | h | h
     ·exact .inl (by omega)
     ·exact .inr (.inl (by omega))
     ·exact .inr (.inr (by simpa using h)))]
theorem get_bytes (s : ByteArray) (k : Nat) (h : k < s.size) : s.data.toList[k]? = some s[k] := by
 rw [List.getElem?_eq_getElem (by simpa using h)]; rfl
set_option maxHeartbeats 8000000 in
theorem ref_Common (a b : ByteArray) (w : World) (ha : a.size ≤ maxLen) : Calls Tryz.prog 29 #[.string a, .string b] w fun e w' => e = .returned (.int .i64 (commonS a.data.toList b.data.toList : Nat)) ∧ Drawn w w' := by
 unfold maxLen at ha
 go_enter Tryz.func29, Tryz.ntmps29
 go_wp2
 go_loopw [5] (fun n wr => ∃ k : Nat, k ≤ a.size ∧ k ≤ b.size ∧ n = .int .i64 k ∧ a.data.toList.take k = b.data.toList.take k ∧ Drawn w wr) (fun n _ => a.size - (intOf n).toNat)
 case atStart => exact ⟨0, Nat.zero_le _, Nat.zero_le _, rfl, rfl, Drawn.refl _⟩
 case round =>
  obtain ⟨k, hka, hkb, rfl, ht, hd⟩ := hrel
  have HT := Lib.hid ht
  have HD := Lib.hid hd
  clear ht hd
  by_cases h1 : k < a.size
  ·by_cases h2 : k < b.size
   ·have h1' : decide ((k : Int) < (a.size : Int)) = true := by simp; omega
    have h2' : decide ((k : Int) < (b.size : Int)) = true := by simp; omega
    by_cases h3 : a[k] = b[k]
    ·have HS : Hid (a.data.toList.take (k + 1) = b.data.toList.take (k + 1)) := by
      show _ = _
      rw [take_bytes a k h1, take_bytes b k h2, HT.out, h3]
     have h4 : ((a[k].toNat : Int) == (b[k].toNat : Int)) = true := by rw [h3]; exact beq_self_eq_true _
     have h5 : (a[k].toNat : Int) = (b[k].toNat : Int) := by rw [h3]
     clear h3
     go_wp2
     go_quiet (fail)
     go_wp2
     go_roundw
     case rel => exact ⟨k + 1, by omega, by omega, by go_num, HS.out, HD.out.more _⟩
     case measure => simp [intOf]; omega
    ·have HF : Hid (commonS a.data.toList b.data.toList = k) := by
      refine commonS_of k _ _ HT.out (by rw [len_bytes]; omega) (by rw [len_bytes]; omega) (.inr (.inr ?_))
      rw [get_bytes a k h1, get_bytes b k h2]; simpa using h3
     have h5 : ¬ (a[k].toNat : Int) = (b[k].toNat : Int) := fun e => h3 (UInt8.toNat_inj.1 (by omega))
     have h4 : ((a[k].toNat : Int) == (b[k].toNat : Int)) = false := beq_eq_false_iff_ne.2 h5
     clear h3
     go_wp2
     go_quiet (fail)
     go_wp2
     go_ret
     exact ⟨ret_nat (by rw [HF.out]), HD.out.more _⟩
   ·have HF : Hid (commonS a.data.toList b.data.toList = k) :=
     commonS_of k _ _ HT.out (by rw [len_bytes]; omega) (by rw [len_bytes]; omega) (.inr (.inl (by rw [len_bytes]; omega)))
    have h1' : decide ((k : Int) < (a.size : Int)) = true := by simp; omega
    have h2' : decide ((k : Int) < (b.size : Int)) = false := by simp; omega
    go_wp2
    go_quiet (fail)
    go_wp2
    go_ret
    exact ⟨ret_nat (by rw [HF.out]), HD.out.more _⟩
  ·have HF : Hid (commonS a.data.toList b.data.toList = k) :=
    commonS_of k _ _ HT.out (by rw [len_bytes]; omega) (by rw [len_bytes]; omega) (.inl (by rw [len_bytes]; omega))
   have h1' : decide ((k : Int) < (a.size : Int)) = false := by simp; omega
   go_wp2
   go_quiet (fail)
   go_wp2
   go_ret
   exact ⟨ret_nat (by rw [HF.out]), HD.out.more _⟩
def valS (l : List UInt8) : Int := l.foldl (fun n c => n * 256 + (c.toNat : Int)) 0
def unbytesS (l : List UInt8) : Int × Int := if l.length = 8 then (valS l - 9223372036854775808, 0) else (0, 2)
theorem fold_wS (l : List UInt8) : ∀ n : Int, l.foldl (fun n c => n * 256 + (c.toNat : Int)) n = n * 256 ^ l.length + wS l := by
 induction l with
 | nil => intro n; simp [wS]
 | cons c r ih =>
  intro n
  simp only [List.foldl_cons, wS, List.length_cons, Int.pow_succ]
  rw [ih, Int.add_mul, Int.mul_assoc, Int.mul_comm 256]
  omega
theorem valS_eq (l : List UInt8) : valS l = wS l := by unfold valS; rw [fold_wS]; simp
theorem bytesS_wS (n : Int) (h : InR n) : wS (bytesS n) = n + 9223372036854775808 := by
 unfold InR at h
 simp only [wS, bytesS, bt8_toNat, List.length_cons, List.length_nil, Nat.reduceAdd, Int.reducePow]
 omega
theorem unbytes_bytes (n : Int) (h : InR n) : unbytesS (bytesS n) = (n, 0) := by
 unfold unbytesS
 rw [if_pos (bytesS_len n), valS_eq, bytesS_wS n h]
 congr 1; omega
def putS (c : UInt8) (k : Nat) (x : List UInt8 × Nat × Int) : List UInt8 × Nat × Int := if x.2.2 = 0 then (c :: x.1, x.2.1 + k, 0) else ([], x.2.1 + k, x.2.2)
def bareS : List UInt8 → List UInt8 × Nat × Int
 | [] => ([], 0, 10)
 | c :: r => if c ≠ 0 then putS c 1 (bareS r) else match r with
  | [] => ([], 1, 10)
  | d :: r' => if d = 0 then ([], 2, 0) else if d = 255 then putS 0 2 (bareS r') else ([], 1, 2)
def unkSc : List UInt8 → Sc × Nat × Int
 | [] => ((0, 0, []), 0, 10)
 | c :: r =>
  if c = 1 then ((0, 0, []), 1, 0)
  else if c = 2 then (match r with
   | [] => ((0, 0, []), 1, 10)
   | b :: _ => if 1 < b.toNat then ((0, 0, []), 1, 2) else ((1, (b.toNat : Int), []), 2, 0))
  else if c = 3 then (if r.length < 8 then ((0, 0, []), r.length + 1, 10) else ((2, (unbytesS (r.take 8)).1, []), 9, 0))
  else if c = 4 then (if (bareS r).2.2 = 0 then ((3, 0, (bareS r).1), (bareS r).2.1 + 1, 0) else ((0, 0, []), (bareS r).2.1 + 1, (bareS r).2.2))
  else ((0, 0, []), 0, 2)
theorem bare_plain (c : UInt8) (r : List UInt8) (h : c ≠ 0) : bareS (c :: r) = putS c 1 (bareS r) := by rw [bareS.eq_def]; simp [h]
theorem bare_two (d : UInt8) (r : List UInt8) : bareS (0 :: d :: r) = if d = 0 then ([], 2, 0) else if d = 255 then putS 0 2 (bareS r) else ([], 1, 2) := by rw [bareS.eq_def]; simp
theorem bare_cov (r : List UInt8) : bareS (0 :: 255 :: r) = putS 0 2 (bareS r) := by rw [bare_two, if_neg (by decide), if_pos rfl]
theorem bare_cover (x : List UInt8) : ∀ t : List UInt8, bareS (covS t ++ 0 :: 0 :: x) = (t, (covS t).length + 2, 0)
 | [] => by simp [covS, bareS]
 | c :: t => by
  have ih := bare_cover x t
  rw [cov_cons]
  unfold covOne
  by_cases h : c = 0
  ·subst h
   rw [if_pos rfl]
   show bareS (0 :: 255 :: (covS t ++ 0 :: 0 :: x)) = _
   rw [bare_cov, ih]
   simp [putS]
  ·rw [if_neg h]
   show bareS (c :: (covS t ++ 0 :: 0 :: x)) = _
   rw [bare_plain c _ h, ih]
   simp [putS]
theorem unk_null (r : List UInt8) : unkSc (1 :: r) = ((0, 0, []), 1, 0) := by simp [unkSc]
theorem unk_bool (b : UInt8) (r : List UInt8) : unkSc (2 :: b :: r) = if 1 < b.toNat then ((0, 0, []), 1, 2) else ((1, (b.toNat : Int), []), 2, 0) := by simp [unkSc]
theorem unk_int (r : List UInt8) : unkSc (3 :: r) = if r.length < 8 then ((0, 0, []), r.length + 1, 10) else ((2, (unbytesS (r.take 8)).1, []), 9, 0) := by simp [unkSc]
theorem unk_text (r : List UInt8) : unkSc (4 :: r) = if (bareS r).2.2 = 0 then ((3, 0, (bareS r).1), (bareS r).2.1 + 1, 0) else ((0, 0, []), (bareS r).2.1 + 1, (bareS r).2.2) := by simp [unkSc]
theorem unk_key (s : Sc) (hc : chkSc s = 0) (hn : InR s.2.1) (x : List UInt8) : unkSc (keySc s ++ x) = (s, (keySc s).length, 0) := by
 rcases chk_cases s hc with rfl | rfl | rfl | ⟨n, rfl⟩ | ⟨t, rfl⟩
 ·rw [key_null]; exact unk_null x
 ·rw [key_false]; show unkSc (2 :: 0 :: x) = _; rw [unk_bool]; simp
 ·rw [key_true]; show unkSc (2 :: 1 :: x) = _; rw [unk_bool]; simp
 ·rw [key_int]
  show unkSc (3 :: (bytesS n ++ x)) = _
  have hl := bytesS_len n
  rw [unk_int, if_neg (by rw [List.length_append, hl]; omega), List.take_left' hl, unbytes_bytes n hn]
  simp [hl]
 ·rw [key_text]
  have e : (4 :: (covS t ++ [0, 0])) ++ x = 4 :: (covS t ++ 0 :: 0 :: x) := by simp
  rw [e, unk_text, bare_cover]
  simp
end Go.Proofs.YtpodmgihlomglaaGreatDoor
namespace Go.Proofs.YtpodmgihlomglaaGreatDoor
namespace Tr
open Go.RowKit
set_option linter.unusedSimpArgs false
end Tr
theorem keySc_first {s : Sc} (h : chkSc s = 0) : ∃ r, keySc s = bt8 (s.1 + 1) :: r := by
 rcases chk_cases s h with rfl | rfl | rfl | ⟨n, rfl⟩ | ⟨t, rfl⟩
 ·exact ⟨[], by rw [key_null]; decide +kernel⟩
 ·exact ⟨[0], by rw [key_false]; decide +kernel⟩
 ·exact ⟨[1], by rw [key_true]; decide +kernel⟩
 ·exact ⟨bytesS n, by rw [key_int]; congr 1⟩
 ·exact ⟨covS t ++ [0, 0], by rw [key_text]; congr 1⟩
theorem key_first {a : Tr} (h : Good a) : (∃ r, keyT a = bt8 (a.k + 1) :: r) ∧ 0 ≤ a.k ∧ a.k ≤ 6 := by
 cases a with
 | nd k n t ks xs =>
  rw [good_iff] at h
  simp only [Tr.k, Tr.n, Tr.t, Tr.ks, Tr.xs] at h ⊢
  rcases h.2 with ⟨h0, h3, hc, _⟩ | ⟨_, _, h⟩
  ·refine ⟨?_, h0, by have : k ≤ 3 := h3; show k ≤ 6; omega⟩
   rw [keyT, if_pos h3]
   exact keySc_first hc
  ·have hk : k = 4 ∨ k = 5 ∨ k = 6 := by
    rcases h with h | h | h
    ·exact .inl h.1
    ·exact .inr (.inl h.1)
    ·exact .inr (.inr h.1)
   refine ⟨?_, by show 0 ≤ k; omega, by show k ≤ 6; omega⟩
   rw [keyT, if_neg (by omega)]
   exact ⟨_, rfl⟩
theorem bt8_kind {i j : Int} (hi : 0 ≤ i ∧ i ≤ 6) (hj : 0 ≤ j ∧ j ≤ 6) (h : bt8 (i + 1) = bt8 (j + 1)) : i = j := by
 have e1 : i = 0 ∨ i = 1 ∨ i = 2 ∨ i = 3 ∨ i = 4 ∨ i = 5 ∨ i = 6 := by omega
 have e2 : j = 0 ∨ j = 1 ∨ j = 2 ∨ j = 3 ∨ j = 4 ∨ j = 5 ∨ j = 6 := by omega
 rcases e1 with rfl | rfl | rfl | rfl | rfl | rfl | rfl <;> rcases e2 with rfl | rfl | rfl | rfl | rfl | rfl | rfl <;> first | rfl | (exfalso; revert h; decide +kernel)
theorem bt8_ne {i : Int} (hi : 0 ≤ i ∧ i ≤ 6) : bt8 (i + 1) ≠ 0 := by
 have e1 : i = 0 ∨ i = 1 ∨ i = 2 ∨ i = 3 ∨ i = 4 ∨ i = 5 ∨ i = 6 := by omega
 rcases e1 with rfl | rfl | rfl | rfl | rfl | rfl | rfl <;> decide +kernel
theorem keySc_inj {s s' : Sc} (h : chkSc s = 0) (h' : chkSc s' = 0) (hn : InR s.2.1) (hn' : InR s'.2.1) {x y : List UInt8} (e : keySc s ++ x = keySc s' ++ y) : s = s' ∧ x = y := by
 have h1 := unk_key s h hn x
 have h2 := unk_key s' h' hn' y
 rw [e, h2] at h1
 have hs : s' = s := (Prod.mk.inj h1).1
 subst hs
 exact ⟨rfl, List.append_cancel_left e⟩
theorem keyB_inj {a b : ByteArray} {x y : List UInt8} (e : keyB a ++ x = keyB b ++ y) : a = b ∧ x = y := by
 obtain ⟨h1, h2⟩ := keySc_inj (chk_text _) (chk_text _) inr0 inr0 e
 exact ⟨kb_inj (Prod.mk.inj (Prod.mk.inj h1).2).2, h2⟩
theorem keyB_first (a : ByteArray) : ∃ r, keyB a = 4 :: r := ⟨_, key_text _⟩
theorem tr_apart (a : Tr) : ∀ (b : Tr) (x y : List UInt8), Good a → Good b → keyT a ++ x = keyT b ++ y → a = b ∧ x = y := by
 induction a using tr_ind with
 | h k n t ks xs ih =>
  intro b x y ha hb e
  obtain ⟨k', n', t', ks', xs'⟩ := b
  obtain ⟨⟨r, hr⟩, ka⟩ := key_first ha
  obtain ⟨⟨r', hr'⟩, kb'⟩ := key_first hb
  have hk : k = k' := by
   rw [hr, hr'] at e
   exact bt8_kind ka kb' (List.cons.inj e).1
  subst hk
  clear hr hr' r r'
  rw [good_iff] at ha hb
  simp only [Tr.k, Tr.n, Tr.t, Tr.ks, Tr.xs] at ha hb ka
  rw [keyT, keyT] at e
  by_cases h3 : k ≤ 3
  ·rw [if_pos h3, if_pos h3] at e
   rcases ha.2 with ha | ha
   ·rcases hb.2 with hb | hb
    ·obtain ⟨_, _, hc, hi, rfl, rfl⟩ := ha
     obtain ⟨_, _, hc', hi', rfl, rfl⟩ := hb
     obtain ⟨h1, h2⟩ := keySc_inj hc hc' hi hi' e
     have h4 := (Prod.mk.inj (Prod.mk.inj h1).2)
     have h5 := kb_inj h4.2
     have h6 : n = n' := h4.1
     subst h6 h5
     exact ⟨rfl, h2⟩
    ·exfalso; omega
   ·exfalso; omega
  ·rw [if_neg h3, if_neg h3] at e
   rw [List.cons_append, List.cons_append] at e
   have e2 := (List.cons.inj e).2
   rw [List.append_assoc, List.append_assoc] at e2
   rcases ha.2 with ha2 | ha2
   ·exfalso; omega
   rcases hb.2 with hb2 | hb2
   ·exfalso; omega
   obtain ⟨rfl, rfl, ha3⟩ := ha2
   obtain ⟨rfl, rfl, hb3⟩ := hb2
   have key : ∀ (xs : List Tr) (ks ks' : List ByteArray) (xs' : List Tr), (∀ z ∈ xs, ∀ (b : Tr) (x y : List UInt8), Good z → Good b → keyT z ++ x = keyT b ++ y → z = b ∧ x = y) → (∀ z ∈ xs, Good z) → (∀ z ∈ xs', Good z) → (k = 5 → ks.length = xs.length ∧ ks'.length = xs'.length) →
     keyL k ks xs ++ ([0] ++ x) = keyL k ks' xs' ++ ([0] ++ y) → xs = xs' ∧ (k = 5 → ks = ks') ∧ x = y := by
    intro xs
    induction xs with
    | nil =>
     intro ks ks' xs' _ _ hg hl e
     cases xs' with
     | nil =>
      rw [keyL, keyL] at e
      refine ⟨rfl, fun h5 => ?_, by simpa using e⟩
      have := hl h5
      rw [List.length_eq_zero_iff.1 this.1, List.length_eq_zero_iff.1 this.2]
     | cons z r =>
      exfalso
      rw [keyL, keyL] at e
      obtain ⟨⟨q, hq⟩, hk⟩ := key_first (hg z (List.mem_cons_self ..))
      by_cases h5 : k = 5
      ·rw [if_pos h5] at e
       obtain ⟨q2, hq2⟩ := keyB_first (ks'.headD ⟨#[]⟩)
       rw [hq2] at e
       simp at e
      ·rw [if_neg h5, hq] at e
       simp at e
       exact bt8_ne hk e.1.symm
    | cons z r ih2 =>
     intro ks ks' xs' hi hg hg' hl e
     cases xs' with
     | nil =>
      exfalso
      rw [keyL, keyL] at e
      obtain ⟨⟨q, hq⟩, hk⟩ := key_first (hg z (List.mem_cons_self ..))
      by_cases h5 : k = 5
      ·rw [if_pos h5] at e
       obtain ⟨q2, hq2⟩ := keyB_first (ks.headD ⟨#[]⟩)
       rw [hq2] at e
       simp at e
      ·rw [if_neg h5, hq] at e
       simp at e
       exact bt8_ne hk e.1
     | cons z' r' =>
      rw [keyL, keyL] at e
      have hz := hg z (List.mem_cons_self ..)
      have hz' := hg' z' (List.mem_cons_self ..)
      have rest : ks.headD ⟨#[]⟩ = ks'.headD ⟨#[]⟩ ∨ ¬ k = 5 := by
       by_cases h5 : k = 5
       ·rw [if_pos h5, if_pos h5] at e
        simp only [List.append_assoc] at e
        exact .inl (keyB_inj e).1
       ·exact .inr h5
      have e4 : keyT z ++ (keyL k ks.tail r ++ ([0] ++ x)) = keyT z' ++ (keyL k ks'.tail r' ++ ([0] ++ y)) := by
       by_cases h5 : k = 5
       ·rw [if_pos h5, if_pos h5] at e
        simp only [List.append_assoc] at e
        exact (keyB_inj e).2
       ·rw [if_neg h5, if_neg h5, List.nil_append, List.nil_append, List.append_assoc, List.append_assoc] at e
        exact e
      obtain ⟨rfl, e5⟩ := hi z (List.mem_cons_self ..) z' _ _ hz hz' e4
      obtain ⟨rfl, h6, h7⟩ := ih2 ks.tail ks'.tail r' (fun w hw => hi w (List.mem_cons_of_mem _ hw)) (fun w hw => hg w (List.mem_cons_of_mem _ hw)) (fun w hw => hg' w (List.mem_cons_of_mem _ hw)) (fun h5 => by have := hl h5; simp at this ⊢; omega) e5
      refine ⟨rfl, fun h5 => ?_, h7⟩
      have hl' := hl h5
      have h8 := h6 h5
      rcases rest with h9 | h9
      ·cases ks with
       | nil => simp at hl'
       | cons c ks =>
        cases ks' with
        | nil => simp at hl'
        | cons c' ks' =>
         simp at h8 h9
         rw [h8, h9]
      ·exact absurd h5 h9
   have hl : k = 5 → ks.length = xs.length ∧ ks'.length = xs'.length := by
    intro h5
    constructor
    ·rcases ha3 with h | h | h
     ·omega
     ·exact h.2.1
     ·omega
    ·rcases hb3 with h | h | h
     ·omega
     ·exact h.2.1
     ·omega
   obtain ⟨rfl, h6, h7⟩ := key xs ks ks' xs' ih ha.1 hb.1 hl e2
   by_cases h5 : k = 5
   ·rw [h6 h5]; exact ⟨rfl, h7⟩
   ·have h8 : ks = [] := by
     rcases ha3 with h | h | h
     ·exact h.2
     ·exact absurd h.1 h5
     ·exact h.2.1
    have h9 : ks' = [] := by
     rcases hb3 with h | h | h
     ·exact h.2
     ·exact absurd h.1 h5
     ·exact h.2.1
    rw [h8, h9]; exact ⟨rfl, h7⟩
theorem common_prefix : ∀ (a b : List UInt8), (commonS a b = a.length → ∃ y, b = a ++ y) ∧ (commonS a b = b.length → ∃ y, a = b ++ y)
 | [], b => ⟨fun _ => ⟨b, rfl⟩, fun h => ⟨[], by cases b with | nil => rfl | cons c b => simp [commonS] at h⟩⟩
 | c :: a, [] => ⟨fun h => by simp [commonS] at h, fun _ => ⟨c :: a, rfl⟩⟩
 | c :: a, d :: b => by
  obtain ⟨h1, h2⟩ := common_prefix a b
  by_cases hcd : c = d
  ·subst hcd
   rw [com_eq]
   refine ⟨fun h => ?_, fun h => ?_⟩
   ·obtain ⟨y, hy⟩ := h1 (by simpa using h)
    exact ⟨y, by rw [hy]; rfl⟩
   ·obtain ⟨y, hy⟩ := h2 (by simpa using h)
    exact ⟨y, by rw [hy]; rfl⟩
  ·rw [com_ne _ _ _ _ hcd]
   refine ⟨fun h => ?_, fun h => ?_⟩ <;> simp at h
theorem common_le : ∀ (a b : List UInt8), commonS a b ≤ a.length ∧ commonS a b ≤ b.length
 | [], b => by simp [commonS]
 | c :: a, [] => by simp [commonS]
 | c :: a, d :: b => by
  have h := common_le a b
  by_cases hcd : c = d
  ·subst hcd; rw [com_eq]; simp; omega
  ·rw [com_ne _ _ _ _ hcd]; simp
theorem key_common {a b : Tr} (ha : Good a) (hb : Good b) (hne : a ≠ b) : commonS (keyT a) (keyT b) < (keyT a).length ∧ commonS (keyT a) (keyT b) < (keyT b).length := by
 obtain ⟨h1, h2⟩ := common_prefix (keyT a) (keyT b)
 obtain ⟨l1, l2⟩ := common_le (keyT a) (keyT b)
 constructor
 ·rcases Nat.lt_or_ge (commonS (keyT a) (keyT b)) (keyT a).length with h | h
  ·exact h
  ·obtain ⟨y, hy⟩ := h1 (by omega)
   exact absurd (tr_apart a b y [] ha hb (by rw [List.append_nil]; exact hy.symm)).1 hne
 ·rcases Nat.lt_or_ge (commonS (keyT a) (keyT b)) (keyT b).length with h | h
  ·exact h
  ·obtain ⟨y, hy⟩ := h2 (by omega)
   exact absurd (tr_apart a b [] y ha hb (by rw [List.append_nil]; exact hy)).1 hne
end Go.Proofs.YtpodmgihlomglaaGreatDoor
namespace Go.Proofs.YtpodmgihlomglaaGreatDoor
open Go.RowKit
set_option maxRecDepth 1000000
set_option linter.unusedSimpArgs false
set_option maxHeartbeats 8000000 in
theorem valueApart_walk (s : Nat) (bb : Int) (v : Value) (a : Tr) (u : Value) (b : Tr) (hs : s < 18446744073709551616) (w : World) (hv : TrV w a v) (hu : TrV w b u) (hT : Tab6 w) :
  Calls Tryz.prog 7 #[.agg #[.int .u64 (s : Int), .int .i64 bb], v, u] w fun e w' => e = .returned (.bool true) ∧ Below w.heap.size w w' := by
 obtain ⟨ak, an, att, aa, al, ac, ad, am, ae, rfl⟩ := tr_shape hv
 obtain ⟨bk, bn, btt, ba, bl, bc, bd, bm, be, rfl⟩ := tr_shape hu
 obtain ⟨ca, hca⟩ : ∃ ca, ca = trC ak an att (.slice aa al ac) (.slice ad am ae) := ⟨_, rfl⟩
 obtain ⟨cb, hcb⟩ : ∃ cb, cb = trC bk bn btt (.slice ba bl bc) (.slice bd bm be) := ⟨_, rfl⟩
 have hra := trV_rng a _ hv
 have hrb := trV_rng b _ hu
 obtain ⟨w1, hw1⟩ : ∃ w1, ((w.alloc (.cells #[.int .u64 (s : Int), .int .i64 bb] 24)).alloc (.cells (trC ak an att (.slice aa al ac) (.slice ad am ae)) 28)).alloc (.cells (trC bk bn btt (.slice ba bl bc) (.slice bd bm be)) 28) = w1 := ⟨_, rfl⟩
 obtain ⟨hb1, hx1, hx2, hx3, hs1⟩ := three_newV hw1
 have hv1 := fun W (hb : Below w1.heap.size w1 W) => (hv.later hb1).later hb
 have hu1 := fun W (hb : Below w1.heap.size w1 W) => (hu.later hb1).later hb
 have hT1 := fun W (hb : Below w1.heap.size w1 W) => (hT.below hb1).below hb
 have HCF := Lib.hid (fun W (hb : Below w1.heap.size w1 W) => (hb.block _ (Array.getElem?_eq_some_iff.1 hx1).1).trans hx1)
 have HTA := Lib.hid (fun W (hb : Below w1.heap.size w1 W) => (hb.block _ (Array.getElem?_eq_some_iff.1 hx2).1).trans hx2)
 have HTZ := Lib.hid (fun W (hb : Below w1.heap.size w1 W) => (hb.block _ (Array.getElem?_eq_some_iff.1 hx3).1).trans hx3)
 have HLV := Lib.hid (fun W (hb : Below w1.heap.size w1 W) => live11 W (hT1 W hb))
 obtain ⟨sa, hsa⟩ : ∃ sa, sa = (smT a 0 400).2 := ⟨_, rfl⟩
 obtain ⟨sb, hsb⟩ : ∃ sb, sb = (smT b 0 400).2 := ⟨_, rfl⟩
 obtain ⟨ea, hea⟩ : ∃ ea, ea = chkT a := ⟨_, rfl⟩
 obtain ⟨eb, heb⟩ : ∃ eb, eb = chkT b := ⟨_, rfl⟩
 have HSA : Hid (∀ W, Below w1.heap.size w1 W → Calls Tryz.prog 12 #[.agg (trC ak an att (.slice aa al ac) (.slice ad am ae)), .int .i64 400] W fun e w' => e = .returned (.bool sa) ∧ Below W.heap.size W w') := fun W hb => by rw [hsa]; exact rf_Small a _ 400 W (hv1 W hb) (by decide) (by decide)
 have HSB : Hid (∀ W, Below w1.heap.size w1 W → Calls Tryz.prog 12 #[.agg (trC bk bn btt (.slice ba bl bc) (.slice bd bm be)), .int .i64 400] W fun e w' => e = .returned (.bool sb) ∧ Below W.heap.size W w') := fun W hb => by rw [hsb]; exact rf_Small b _ 400 W (hu1 W hb) (by decide) (by decide)
 have hCA : sa = true → ∀ W, Below w1.heap.size w1 W → Calls Tryz.prog 15 #[.agg (trC ak an att (.slice aa al ac) (.slice ad am ae))] W fun e w' => e = .returned (.int .i64 ea) ∧ Below W.heap.size W w' := fun h W hb => by
  obtain ⟨h1, h2, h3⟩ := small_ok (hsa.symm.trans h)
  rw [hea]
  exact va_Check a _ W (hv1 W hb) h1 h2 (by omega) (hT1 W hb)
 have hCB : sb = true → ∀ W, Below w1.heap.size w1 W → Calls Tryz.prog 15 #[.agg (trC bk bn btt (.slice ba bl bc) (.slice bd bm be))] W fun e w' => e = .returned (.int .i64 eb) ∧ Below W.heap.size W w' := fun h W hb => by
  obtain ⟨h1, h2, h3⟩ := small_ok (hsb.symm.trans h)
  rw [heb]
  exact va_Check b _ W (hu1 W hb) h1 h2 (by omega) (hT1 W hb)
 have HB1 := Lib.hid hb1
 have HW : Hid (Below w1.heap.size w1 w1) := Below.refl _ _
 have HV1 := Lib.hid hv1
 have HU1 := Lib.hid hu1
 have HT1 := Lib.hid hT1
 have HRN := Lib.hid (And.intro hra hrb)
 have HSAE := Lib.hid hsa
 have HSBE := Lib.hid hsb
 have HEA := Lib.hid hea
 have HEB := Lib.hid heb
 clear hx1 hx2 hx3 hs1 hb1 hv1 hu1 hT1 hra hrb hv hu hT hsa hsb hea heb
 by_cases c1 : sa = true
 case neg =>
  obtain rfl := Bool.eq_false_iff.2 c1
  have HCA : Hid True := trivial
  have HCB : Hid True := trivial
  clear c1 hCA hCB
  go_enter Tryz.func7, Tryz.ntmps7
  go_upto_region 1 with fail
  clear hw1
  go_wp2_with (first
   | (go_at_call 11; (with_reducible refine (HLV.out _ HW.out).mono ?_); rintro r V ⟨rfl, hb⟩; replace HW := Lib.hid (HW.out.trans (hb.mono HW.out.size)); clear hb)
   | (refine ld_if rfl 28 _ rfl (w.heap.size + 1) rfl 28 _ _ _ (HTA.out _ HW.out) Tryz.underlying28 rfl tr_size9 ?_)
   | (refine ld_if rfl 28 _ rfl (w.heap.size + 2) rfl 28 _ _ _ (HTZ.out _ HW.out) Tryz.underlying28 rfl tr_size9 ?_)
   | (go_at_call 12; (with_reducible refine (HSA.out _ HW.out).mono ?_); rintro r V ⟨rfl, hb⟩; replace HW := Lib.hid (HW.out.trans (hb.mono HW.out.size)); clear hb)
   | (go_at_call 12; (with_reducible refine (HSB.out _ HW.out).mono ?_); rintro r V ⟨rfl, hb⟩; replace HW := Lib.hid (HW.out.trans (hb.mono HW.out.size)); clear hb)
   | (go_at_call 15; (with_reducible refine (HCA.out _ HW.out).mono ?_); rintro r V ⟨rfl, hb⟩; replace HW := Lib.hid (HW.out.trans (hb.mono HW.out.size)); clear hb)
   | (go_at_call 15; (with_reducible refine (HCB.out _ HW.out).mono ?_); rintro r V ⟨rfl, hb⟩; replace HW := Lib.hid (HW.out.trans (hb.mono HW.out.size)); clear hb))
  have hb := HB1.out.trans (HW.out.mono HB1.out.size)
  go_ret
  exact ⟨rfl, hb⟩
 by_cases c2 : sb = true
 case neg =>
  obtain rfl := Bool.eq_false_iff.2 c2
  have HCA := Lib.hid (hCA c1)
  have HCB : Hid True := trivial
  subst c1
  clear c2 hCA hCB
  go_enter Tryz.func7, Tryz.ntmps7
  go_upto_region 1 with fail
  clear hw1
  go_wp2_with (first
   | (go_at_call 11; (with_reducible refine (HLV.out _ HW.out).mono ?_); rintro r V ⟨rfl, hb⟩; replace HW := Lib.hid (HW.out.trans (hb.mono HW.out.size)); clear hb)
   | (refine ld_if rfl 28 _ rfl (w.heap.size + 1) rfl 28 _ _ _ (HTA.out _ HW.out) Tryz.underlying28 rfl tr_size9 ?_)
   | (refine ld_if rfl 28 _ rfl (w.heap.size + 2) rfl 28 _ _ _ (HTZ.out _ HW.out) Tryz.underlying28 rfl tr_size9 ?_)
   | (go_at_call 12; (with_reducible refine (HSA.out _ HW.out).mono ?_); rintro r V ⟨rfl, hb⟩; replace HW := Lib.hid (HW.out.trans (hb.mono HW.out.size)); clear hb)
   | (go_at_call 12; (with_reducible refine (HSB.out _ HW.out).mono ?_); rintro r V ⟨rfl, hb⟩; replace HW := Lib.hid (HW.out.trans (hb.mono HW.out.size)); clear hb)
   | (go_at_call 15; (with_reducible refine (HCA.out _ HW.out).mono ?_); rintro r V ⟨rfl, hb⟩; replace HW := Lib.hid (HW.out.trans (hb.mono HW.out.size)); clear hb)
   | (go_at_call 15; (with_reducible refine (HCB.out _ HW.out).mono ?_); rintro r V ⟨rfl, hb⟩; replace HW := Lib.hid (HW.out.trans (hb.mono HW.out.size)); clear hb))
  have hb := HB1.out.trans (HW.out.mono HB1.out.size)
  go_ret
  exact ⟨rfl, hb⟩
 have HCA := Lib.hid (hCA c1)
 have HCB := Lib.hid (hCB c2)
 clear hCA hCB
 have HKA0 := Lib.hid (small_ok (HSAE.out.symm.trans c1))
 have HKB0 := Lib.hid (small_ok (HSBE.out.symm.trans c2))
 subst c1
 subst c2
 by_cases c3 : ea = 0
 case neg =>
  go_enter Tryz.func7, Tryz.ntmps7
  go_upto_region 1 with fail
  clear hw1
  go_wp2_with (first
   | (go_at_call 11; (with_reducible refine (HLV.out _ HW.out).mono ?_); rintro r V ⟨rfl, hb⟩; replace HW := Lib.hid (HW.out.trans (hb.mono HW.out.size)); clear hb)
   | (refine ld_if rfl 28 _ rfl (w.heap.size + 1) rfl 28 _ _ _ (HTA.out _ HW.out) Tryz.underlying28 rfl tr_size9 ?_)
   | (refine ld_if rfl 28 _ rfl (w.heap.size + 2) rfl 28 _ _ _ (HTZ.out _ HW.out) Tryz.underlying28 rfl tr_size9 ?_)
   | (go_at_call 12; (with_reducible refine (HSA.out _ HW.out).mono ?_); rintro r V ⟨rfl, hb⟩; replace HW := Lib.hid (HW.out.trans (hb.mono HW.out.size)); clear hb)
   | (go_at_call 12; (with_reducible refine (HSB.out _ HW.out).mono ?_); rintro r V ⟨rfl, hb⟩; replace HW := Lib.hid (HW.out.trans (hb.mono HW.out.size)); clear hb)
   | (go_at_call 15; (with_reducible refine (HCA.out _ HW.out).mono ?_); rintro r V ⟨rfl, hb⟩; replace HW := Lib.hid (HW.out.trans (hb.mono HW.out.size)); clear hb)
   | (go_at_call 15; (with_reducible refine (HCB.out _ HW.out).mono ?_); rintro r V ⟨rfl, hb⟩; replace HW := Lib.hid (HW.out.trans (hb.mono HW.out.size)); clear hb))
  have hb := HB1.out.trans (HW.out.mono HB1.out.size)
  go_ret
  exact ⟨rfl, hb⟩
 subst c3
 by_cases c4 : eb = 0
 case neg =>
  go_enter Tryz.func7, Tryz.ntmps7
  go_upto_region 1 with fail
  clear hw1
  go_wp2_with (first
   | (go_at_call 11; (with_reducible refine (HLV.out _ HW.out).mono ?_); rintro r V ⟨rfl, hb⟩; replace HW := Lib.hid (HW.out.trans (hb.mono HW.out.size)); clear hb)
   | (refine ld_if rfl 28 _ rfl (w.heap.size + 1) rfl 28 _ _ _ (HTA.out _ HW.out) Tryz.underlying28 rfl tr_size9 ?_)
   | (refine ld_if rfl 28 _ rfl (w.heap.size + 2) rfl 28 _ _ _ (HTZ.out _ HW.out) Tryz.underlying28 rfl tr_size9 ?_)
   | (go_at_call 12; (with_reducible refine (HSA.out _ HW.out).mono ?_); rintro r V ⟨rfl, hb⟩; replace HW := Lib.hid (HW.out.trans (hb.mono HW.out.size)); clear hb)
   | (go_at_call 12; (with_reducible refine (HSB.out _ HW.out).mono ?_); rintro r V ⟨rfl, hb⟩; replace HW := Lib.hid (HW.out.trans (hb.mono HW.out.size)); clear hb)
   | (go_at_call 15; (with_reducible refine (HCA.out _ HW.out).mono ?_); rintro r V ⟨rfl, hb⟩; replace HW := Lib.hid (HW.out.trans (hb.mono HW.out.size)); clear hb)
   | (go_at_call 15; (with_reducible refine (HCB.out _ HW.out).mono ?_); rintro r V ⟨rfl, hb⟩; replace HW := Lib.hid (HW.out.trans (hb.mono HW.out.size)); clear hb))
  have hb := HB1.out.trans (HW.out.mono HB1.out.size)
  go_ret
  exact ⟨rfl, hb⟩
 subst c4
 have HOA : Hid (∀ W, Below w1.heap.size w1 W → Calls Tryz.prog 13 #[.agg #[.int .u64 (s : Int), .int .i64 bb], .agg (trC ak an att (.slice aa al ac) (.slice ad am ae))] W fun e w' => ∃ y, e = .returned (.tuple #[.agg (celC y), .int .i64 0]) ∧ VAt (fun _ => True) w' (canT a) y ∧ Below W.heap.size W w') := fun W hb => by
  have h := va_Of a _ W s bb (HV1.out W hb) HKA0.out.1 HKA0.out.2.1 (by have := HKA0.out.2.2; omega) hs (HT1.out W hb)
  rw [← HEA.out, if_pos rfl] at h
  exact h.mono fun e w' ⟨y, h1, h2, h3⟩ => ⟨y, h1, h2.weak fun _ _ => trivial, h3⟩
 have HOB : Hid (∀ W, Below w1.heap.size w1 W → Calls Tryz.prog 13 #[.agg #[.int .u64 (s : Int), .int .i64 bb], .agg (trC bk bn btt (.slice ba bl bc) (.slice bd bm be))] W fun e w' => ∃ y, e = .returned (.tuple #[.agg (celC y), .int .i64 0]) ∧ VAt (fun _ => True) w' (canT b) y ∧ Below W.heap.size W w') := fun W hb => by
  have h := va_Of b _ W s bb (HU1.out W hb) HKB0.out.1 HKB0.out.2.1 (by have := HKB0.out.2.2; omega) hs (HT1.out W hb)
  rw [← HEB.out, if_pos rfl] at h
  exact h.mono fun e w' ⟨y, h1, h2, h3⟩ => ⟨y, h1, h2.weak fun _ _ => trivial, h3⟩
 have HVA := Lib.hid (one_can HEA.out.symm HRN.out.1 (by have := HKA0.out.2.2; omega) HKA0.out.2.1).2.2.2.2.2
 have HVB := Lib.hid (one_can HEB.out.symm HRN.out.2 (by have := HKB0.out.2.2; omega) HKB0.out.2.1).2.2.2.2.2
 go_enter Tryz.func7, Tryz.ntmps7
 go_upto_region 1 with fail
 clear hw1
 go_upto_region 3 with (first
  | (go_at_call 11; (with_reducible refine (HLV.out _ HW.out).mono ?_); rintro r V ⟨rfl, hb⟩; replace HW := Lib.hid (HW.out.trans (hb.mono HW.out.size)); clear hb)
  | (refine ld_if rfl 28 _ rfl (w.heap.size + 1) rfl 28 _ _ _ (HTA.out _ HW.out) Tryz.underlying28 rfl tr_size9 ?_)
  | (refine ld_if rfl 28 _ rfl (w.heap.size + 2) rfl 28 _ _ _ (HTZ.out _ HW.out) Tryz.underlying28 rfl tr_size9 ?_)
  | (go_at_call 12; (with_reducible refine (HSA.out _ HW.out).mono ?_); rintro r V ⟨rfl, hb⟩; replace HW := Lib.hid (HW.out.trans (hb.mono HW.out.size)); clear hb)
  | (go_at_call 12; (with_reducible refine (HSB.out _ HW.out).mono ?_); rintro r V ⟨rfl, hb⟩; replace HW := Lib.hid (HW.out.trans (hb.mono HW.out.size)); clear hb)
  | (go_at_call 15; (with_reducible refine (HCA.out _ HW.out).mono ?_); rintro r V ⟨rfl, hb⟩; replace HW := Lib.hid (HW.out.trans (hb.mono HW.out.size)); clear hb)
  | (go_at_call 15; (with_reducible refine (HCB.out _ HW.out).mono ?_); rintro r V ⟨rfl, hb⟩; replace HW := Lib.hid (HW.out.trans (hb.mono HW.out.size)); clear hb))
 go_upto_region 4 with (first
  | (refine ld_if rfl 24 _ rfl w.heap.size rfl 24 _ _ _ (HCF.out _ HW.out) Tryz.underlying24 rfl conf_size9 ?_)
  | (refine ld_if rfl 28 _ rfl (w.heap.size + 1) rfl 28 _ _ _ (HTA.out _ HW.out) Tryz.underlying28 rfl tr_size9 ?_)
  | (go_at_call 13; (with_reducible refine (HOA.out _ HW.out).mono ?_); rintro r w2 ⟨y, rfl, hy, hb⟩; have HY := Lib.hid hy; clear hy; replace HW := Lib.hid (HW.out.trans (hb.mono HW.out.size)); clear hb)
  | (refine st_agg rfl 35 _ _ rfl w2.heap.size (celC y) rfl rfl 35 #[.int .i64 0, .int .i64 0, .string ⟨#[]⟩, .pointer none] (heap_alloc_last _ _) val_size rfl (celC_one y) ?_; intro w3 h3 k3))
 have hb3 : Below w2.heap.size w2 w3 := (Below.newly' _ _).trans (k3.below (Nat.le_refl _))
 have HX3 := Lib.hid h3
 have HY3 := Lib.hid (HY.out.later hb3)
 replace HW := Lib.hid (HW.out.trans (hb3.mono HW.out.size))
 obtain ⟨X, hX⟩ : ∃ X, X = w2.heap.size := ⟨_, rfl⟩
 rw [← hX] at HX3 ⊢
 clear hb3 h3 k3 hX HY
 go_upto_region 5 with (first
  | (refine ld_if rfl 24 _ rfl w.heap.size rfl 24 _ _ _ (HCF.out _ HW.out) Tryz.underlying24 rfl conf_size9 ?_)
  | (refine ld_if rfl 28 _ rfl (w.heap.size + 2) rfl 28 _ _ _ (HTZ.out _ HW.out) Tryz.underlying28 rfl tr_size9 ?_)
  | (go_at_call 13; (with_reducible refine (HOB.out _ HW.out).mono ?_); rintro r w4 ⟨z, rfl, hz, hb⟩; have HZ := Lib.hid hz; have HX4 := Lib.hid (((hb.block _ (Array.getElem?_eq_some_iff.1 HX3.out).1).trans HX3.out)); have HY4 := Lib.hid (HY3.out.later hb); clear hz; replace HW := Lib.hid (HW.out.trans (hb.mono HW.out.size)); clear hb)
  | (refine st_agg rfl 35 _ _ rfl w4.heap.size (celC z) rfl rfl 35 #[.int .i64 0, .int .i64 0, .string ⟨#[]⟩, .pointer none] (heap_alloc_last _ _) val_size rfl (celC_one z) ?_; intro w5 h5 k5))
 have hb5 : Below w4.heap.size w4 w5 := (Below.newly' _ _).trans (k5.below (Nat.le_refl _))
 have hx5 := ((hb5.block _ (Array.getElem?_eq_some_iff.1 HX4.out).1).trans HX4.out)
 have hy5 := HY4.out.later hb5
 have hz5 := HZ.out.later hb5
 have HB5 := Lib.hid (HW.out.trans (hb5.mono HW.out.size))
 obtain ⟨Z, hZ⟩ : ∃ Z, Z = w4.heap.size := ⟨_, rfl⟩
 rw [← hZ] at h5 ⊢
 have HKS : Hid (∀ V, Below w5.heap.size w5 V → V.heap[X]? = some (.cells (celC y) 35 (0, 0)) ∧ V.heap[Z]? = some (.cells (celC z) 35 (0, 0))) := fun V hb => ⟨((hb.block _ (Array.getElem?_eq_some_iff.1 hx5).1).trans hx5), ((hb.block _ (Array.getElem?_eq_some_iff.1 h5).1).trans h5)⟩
 obtain ⟨ka, hka⟩ : ∃ ka, ka = kB (canT a) := ⟨_, rfl⟩
 obtain ⟨kz, hkz⟩ : ∃ kz, kz = kB (canT b) := ⟨_, rfl⟩
 have HKA : Hid (∀ W, Below w5.heap.size w5 W → Calls Tryz.prog 28 #[.agg (celC y)] W fun r w' => r = .returned (.string ka) ∧ Below W.heap.size W w') := fun W hb => by rw [hka]; exact va_Key W (canT a) y HVA.out (hy5.later hb) (HT1.out W (HB5.out.trans (hb.mono HB5.out.size)))
 have HKB : Hid (∀ W, Below w5.heap.size w5 W → Calls Tryz.prog 28 #[.agg (celC z)] W fun r w' => r = .returned (.string kz) ∧ Below W.heap.size W w') := fun W hb => by rw [hkz]; exact va_Key W (canT b) z HVB.out (hz5.later hb) (HT1.out W (HB5.out.trans (hb.mono HB5.out.size)))
 have HRA : Hid (∀ W, Below w5.heap.size w5 W → Calls Tryz.prog 21 #[.agg (celC y)] W fun r w' => ∃ c, r = .returned (.agg c) ∧ TrV w' (canT a) (.agg c) ∧ Below W.heap.size W w') := fun W hb =>
  (va_Tree (canT a) W y HVA.out (hy5.later hb) (HT1.out W (HB5.out.trans (hb.mono HB5.out.size)))).mono fun r w' ⟨c, h1, _, h2, h3⟩ => ⟨c, h1, h2.trv, h3⟩
 have HRB : Hid (∀ W, Below w5.heap.size w5 W → Calls Tryz.prog 21 #[.agg (celC z)] W fun r w' => ∃ c, r = .returned (.agg c) ∧ TrV w' (canT b) (.agg c) ∧ Below W.heap.size W w') := fun W hb =>
  (va_Tree (canT b) W z HVB.out (hz5.later hb) (HT1.out W (HB5.out.trans (hb.mono HB5.out.size)))).mono fun r w' ⟨c, h1, _, h2, h3⟩ => ⟨c, h1, h2.trv, h3⟩
 obtain ⟨sm, hsm⟩ : ∃ sm, sm = sameT (canT a) (canT b) := ⟨_, rfl⟩
 have HSM : Hid (∀ W c d, TrV W (canT a) (.agg c) → TrV W (canT b) (.agg d) → Calls Tryz.prog 20 #[.agg c, .agg d] W fun r w' => r = .returned (.bool sm) ∧ Below W.heap.size W w') := fun W c d hc hd => by rw [hsm]; exact rf_Same (canT a) (canT b) _ _ W hc hd
 have HW : Hid (Below w5.heap.size w5 w5.drew) := drawn_below w5
 have HEQ := Lib.hid (And.intro hka (And.intro hkz hsm))
 clear hb5 hx5 hy5 hz5 h5 k5 hZ HZ HX4 HY4 HX3 HY3 HOA HOB HCA HCB HSA HSB HLV HCF HTA HTZ hka hkz hsm
 refine wp_region_T (S := (fun V => V.heap[X]? = some (.cells (celC y) 35 (0, 0)) ∧ V.heap[Z]? = some (.cells (celC z) 35 (0, 0)))) [] (by kernel_rfl) (by exact HKS.out _ HW.out) (fun hHeld => ?_)
 refine tyL 0 49 (hy := yieldsIf_load_row (by rfl) 35 _ rfl X rfl (celC y) 35 (0, 0) _ (fun w hw => hw.1) Tryz.underlying35 rfl (by exact val_size)) (h := ?_)
 refine tyL 2 51 (hy := yieldsIf_load_row (by rfl) 35 _ rfl Z rfl (celC z) 35 (0, 0) _ (fun w hw => hw.2) Tryz.underlying35 rfl (by exact val_size)) (h := ?_)
 (try simp only [pq])
 refine tkO 1 (some 50) (h := fun K hK => ?_)
 go_simp
 go_at_call 28
 (with_reducible refine (HKA.out _ (by exact HW.out)).mono ?_)
 rintro r wa ⟨rfl, hb⟩
 replace HW := Lib.hid (HW.out.trans (hb.mono HW.out.size))
 clear hb
 dsimp only
 refine hK.out _ _ (by exact HKS.out _ HW.out) (fun hHeld => ?_)
 clear hK K
 (try simp only [pq])
 refine tkO 3 (some 52) (h := fun K hK => ?_)
 go_simp
 go_at_call 28
 (with_reducible refine (HKB.out _ (by exact HW.out)).mono ?_)
 rintro r wb ⟨rfl, hb⟩
 replace HW := Lib.hid (HW.out.trans (hb.mono HW.out.size))
 clear hb
 dsimp only
 refine hK.out _ _ (by exact HKS.out _ HW.out) (fun hHeld => ?_)
 clear hK K
 (try simp only [pq])
 refine tkL 4 11 (h := ?_)
 refine tkL 5 12 (h := ?_)
 (try simp only [pq])
 refine wpAnyT_done (by kernel_rfl) ?_ _
 clear hHeld
 have HB6 := HW
 clear HW
 have HW : Hid (Below w5.heap.size w5 wb.drew) := HB6.out.trans ((drawn_below wb).mono HB6.out.size)
 go_upto_region 6 with fail
 refine wp_region_T (S := (fun V => V.heap[X]? = some (.cells (celC y) 35 (0, 0)) ∧ V.heap[Z]? = some (.cells (celC z) 35 (0, 0)))) [] (by kernel_rfl) (by exact HKS.out _ HW.out) (fun hHeld => ?_)
 refine tyL 0 53 (hy := yieldsIf_load_row (by rfl) 35 _ rfl X rfl (celC y) 35 (0, 0) _ (fun w hw => hw.1) Tryz.underlying35 rfl (by exact val_size)) (h := ?_)
 refine tyL 2 55 (hy := yieldsIf_load_row (by rfl) 35 _ rfl Z rfl (celC z) 35 (0, 0) _ (fun w hw => hw.2) Tryz.underlying35 rfl (by exact val_size)) (h := ?_)
 (try simp only [pq])
 refine tkO 1 (some 54) (h := fun K hK => ?_)
 go_simp
 go_at_call 21
 (with_reducible refine (HRA.out _ (by exact HW.out)).mono ?_)
 rintro r we ⟨c1, rfl, hc, hb⟩
 have HC1 := Lib.hid hc
 replace HW := Lib.hid (HW.out.trans (hb.mono HW.out.size))
 clear hb hc
 dsimp only
 refine hK.out _ _ (by exact HKS.out _ HW.out) (fun hHeld => ?_)
 clear hK K
 (try simp only [pq])
 refine tkO 3 (some 56) (h := fun K hK => ?_)
 go_simp
 go_at_call 21
 (with_reducible refine (HRB.out _ (by exact HW.out)).mono ?_)
 rintro r wd ⟨c2, rfl, hc, hb⟩
 have HC2 := Lib.hid hc
 replace HC1 := Lib.hid (HC1.out.later hb)
 replace HW := Lib.hid (HW.out.trans (hb.mono HW.out.size))
 clear hb hc
 dsimp only
 refine hK.out _ _ (by exact HKS.out _ HW.out) (fun hHeld => ?_)
 clear hK K
 (try simp only [pq])
 refine tkO 4 (some 57) (h := fun K hK => ?_)
 go_simp
 go_at_call 20
 (with_reducible refine (HSM.out _ _ _ HC1.out HC2.out).mono ?_)
 rintro r w7 ⟨rfl, hb⟩
 replace HW := Lib.hid (HW.out.trans (hb.mono HW.out.size))
 clear hb
 dsimp only
 refine hK.out _ _ (by exact HKS.out _ HW.out) (fun hHeld => ?_)
 clear hK K
 (try simp only [pq])
 refine wpAnyT_done (by kernel_rfl) ?_ _
 clear hHeld
 have HB7 := Lib.hid (HB1.out.trans ((HB5.out.trans (HW.out.mono HB5.out.size)).mono HB1.out.size))
 clear HKS HKA HKB HRA HRB HSM HB6 HB5 HW HC1 HC2
 cases sm with
 | true =>
  have he : canT a = canT b := (same_iff _ _).1 HEQ.out.2.2.symm
  obtain rfl : ka = kz := by rw [HEQ.out.1, HEQ.out.2.1, he]
  have qt : (ka.toList == ka.toList) = true := beq_self_eq_true _
  clear he HEQ
  go_wp2_with fail
  have hb := HB7.out
  go_ret
  exact ⟨rfl, hb⟩
 | false =>
  have hne : canT a ≠ canT b := fun h => by
   have h1 := (same_iff _ _).2 h
   rw [← HEQ.out.2.2] at h1
   cases h1
  have hcm := key_common HVA.out.1.1 HVB.out.1.1 hne
  obtain ⟨cm, hcd⟩ : ∃ cm, cm = commonS (keyT (canT a)) (keyT (canT b)) := ⟨_, rfl⟩
  have hz1 : ka.size = (keyT (canT a)).length := by rw [HEQ.out.1]; simp [kB, ByteArray.size]
  have hz2 : kz.size = (keyT (canT b)).length := by rw [HEQ.out.2.1]; simp [kB, ByteArray.size]
  have HCM : Hid (∀ W, Calls Tryz.prog 29 #[.string ka, .string kz] W fun r w' => r = .returned (.int .i64 (cm : Int)) ∧ Below W.heap.size W w') := fun W => by
   have h := ref_Common ka kz W (by rw [HEQ.out.1]; exact Nat.le_trans HVA.out.kB (by decide))
   rw [HEQ.out.1, HEQ.out.2.1, kB_data, kB_data, ← hcd, ← HEQ.out.1, ← HEQ.out.2.1] at h
   exact h.mono fun _ _ h => ⟨h.1, h.2.below⟩
  have i1 : (cm : Int) < (ka.size : Int) := by rw [hz1, hcd]; exact_mod_cast hcm.1
  have i2 : (cm : Int) < (kz.size : Int) := by rw [hz2, hcd]; exact_mod_cast hcm.2
  clear hne hcm hcd hz1 hz2 HEQ
  have HW : Hid (Below w7.heap.size w7 w7) := Below.refl _ _
  go_wp2_with (first
   | (go_at_call 29; (with_reducible refine (HCM.out _).mono ?_); rintro r V ⟨rfl, hb⟩; replace HW := Lib.hid (HW.out.trans (hb.mono HW.out.size)); clear hb))
  have hb := HB7.out.trans (HW.out.mono HB7.out.size)
  go_ret
  exact ⟨rfl, hb⟩
end Go.Proofs.YtpodmgihlomglaaGreatDoor
