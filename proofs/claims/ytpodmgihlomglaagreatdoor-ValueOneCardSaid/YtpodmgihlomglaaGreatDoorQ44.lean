import Derived.Test.YtpodmgihlomglaaGreatDoorQ34
import Derived.Test.YtpodmgihlomglaaGreatDoorQ43
namespace Go.Proofs.YtpodmgihlomglaaGreatDoor
open Go.RowKit
set_option maxRecDepth 1000000
set_option linter.unusedSimpArgs false
theorem short_txt (a : Tr) : ShortT a → TxtT 200 a := by
 induction a using tr_ind with
 | h k n t ks xs ih =>
  intro h
  rw [ShortT, shortL_iff] at h
  exact txtT_iff.2 ⟨h.1, h.2.1, fun x hx => ih x hx (h.2.2 x hx)⟩
theorem txt_more {B C : Nat} (hBC : B ≤ C) (a : Tr) : TxtT B a → TxtT C a := by
 induction a using tr_ind with
 | h k n t ks xs ih =>
  intro h
  obtain ⟨h1, h2, h3⟩ := txtT_iff.1 h
  exact txtT_iff.2 ⟨Nat.le_trans h1 hBC, fun y hy => Nat.le_trans (h2 y hy) hBC, fun x hx => ih x hx (h3 x hx)⟩
theorem sm_few (M : Nat) (a : Tr) : ∀ d l, (smT a d l).2 = true → l + 50 ≤ M → FewT M a := by
 induction a using tr_ind with
 | h k n t ks xs ih =>
  intro d l h hM
  rw [smT] at h
  split at h
  ·cases h
  split at h
  ·cases h
  rename_i hc _
  have hL : ∀ (ys : List Tr), (∀ x ∈ ys, ∀ d l, (smT x d l).2 = true → l + 50 ≤ M → FewT M x) → ∀ d l, (smL ys d l).2 = true → l + 50 ≤ M → ∀ x ∈ ys, FewT M x := by
   intro ys
   induction ys with
   | nil => intro _ _ _ _ _ x hx; cases hx
   | cons y ys ihy =>
    intro hy d l h hM
    rw [smL] at h
    split at h
    ·rename_i h1
     have h2 := sm_true y d l h1
     intro x hx
     rcases List.mem_cons.1 hx with rfl | hx
     ·exact hy _ (List.mem_cons_self ..) d l h1 hM
     ·exact ihy (fun z hz => hy z (List.mem_cons_of_mem _ hz)) d _ h (by omega) x hx
    ·cases h
  refine fewT_iff.2 ⟨?_, hL xs (fun x hx => ih x hx) (d + 1) (l - 1) h (by omega)⟩
  show ks.length ≤ M
  omega
theorem tr_shape {w : World} {y : Tr} {v : Value} (h : TrV w y v) : ∃ k n t a l c a' l' c', v = .agg (trC k n t (.slice a l c) (.slice a' l' c')) := by
 obtain ⟨k, n, t, ks, xs⟩ := y
 obtain ⟨kv, xv, rfl, _, _, _, ⟨a, c, _, _, rfl, _⟩, a', c', _, _, rfl, _⟩ := h.open'
 exact ⟨_, _, _, _, _, _, _, _, _, rfl⟩
theorem small_ok {a : Tr} (h : (smT a 0 400).2 = true) : FewT 2000 a ∧ TxtT 3000 a ∧ nodT a ≤ 400 := by
 have h1 := sm_true a 0 400 h
 exact ⟨sm_few 2000 a 0 400 h (by decide), txt_more (by decide) a (short_txt a h1.2.2.1), by have := h1.1; omega⟩
theorem conf_size9 : (Tryz.prog.info? 24).map (·.size) = some 2 := by kernel_rfl
theorem chk_can {a : Tr} (h : chkT a = 0) (hr : RngT a) : chkT (canT a) = 0 := by
 rw [chkT_ok] at h ⊢
 have := can_size a h.1
 rw [this.1, this.2]
 exact ⟨good_ok _ (can_good a h.1 hr), h.2⟩
theorem can_can {a : Tr} (h : chkT a = 0) (hr : RngT a) : canT (canT a) = canT a := can_id _ (can_good a (chkT_ok.1 h).1 hr)
theorem few_ok (M : Nat) (a : Tr) : OkT a → nodT a ≤ M → FewT M a := by
 induction a using tr_ind with
 | h k n t ks xs ih =>
  intro ho hn
  have h1 := okT_iff.1 ho
  have h2 := own_ok.1 h1.1
  have h3 := nodT_eq (.nd k n t ks xs)
  have h4 := len_nodL xs
  simp only [Tr.k, Tr.n, Tr.t, Tr.ks, Tr.xs] at h1 h2 h3
  refine fewT_iff.2 ⟨?_, fun x hx => ih x hx (h1.2.1 x hx) ?_⟩
  ·show ks.length ≤ M
   rcases h2 with ⟨_, _, _, h, _⟩ | ⟨_, _, ⟨_, h⟩ | ⟨_, h, _⟩ | ⟨_, h⟩⟩
   ·rw [h]; exact Nat.zero_le _
   ·rw [h]; exact Nat.zero_le _
   ·omega
   ·rw [h]; exact Nat.zero_le _
  ·have h5 : x ∈ xs := hx
   have := nodL_mem h5
   omega
theorem one_can {a : Tr} (h : chkT a = 0) (hr : RngT a) (hn : nodT a ≤ 2000) (ht : TxtT 3000 a) : FewT 2000 (canT a) ∧ TxtT 3000 (canT a) ∧ nodT (canT a) ≤ 2000 ∧ chkT (canT a) = 0 ∧ canT (canT a) = canT a ∧ ValB (canT a) := by
 have ho := (chkT_ok.1 h).1
 have h2 := can_size a ho
 have h3 := valB_can ho (chkT_ok.1 h).2.1 (chkT_ok.1 h).2.2 hr ht
 exact ⟨few_ok _ _ (good_ok _ h3.1.1) (by omega), h3.2, by omega, chk_can h hr, can_can h hr, h3⟩
set_option maxHeartbeats 8000000 in
theorem va_Check (a : Tr) (v : Value) (w : World) (hv : TrV w a v) (hfew : FewT 2000 a) (htxt : TxtT 3000 a) (hnod : nodT a ≤ 100000) (hT : Tab6 w) :
  Calls Tryz.prog 15 #[v] w fun e w' => e = .returned (.int .i64 (chkT a)) ∧ Below w.heap.size w w' := by
 obtain ⟨k, n, t, ks, xs⟩ := a
 have hv0 := hv
 obtain ⟨kv, xv, rfl, ht, _, _, ⟨kd, kcap, kb1, ko, rfl, k1, k2, k3⟩, ad, cap, bt, oo, rfl, h1, hmax, h2⟩ := hv.open'
 obtain ⟨A, hA⟩ : ∃ A, A = Tr.nd k n t ks xs := ⟨_, rfl⟩
 obtain ⟨lk, hlk⟩ : ∃ lk, lk = ks.length := ⟨_, rfl⟩
 obtain ⟨lx, hlx⟩ : ∃ lx, lx = xs.length := ⟨_, rfl⟩
 rw [← hA, ← hlk, ← hlx] at hv0
 rw [← hA] at hfew htxt hnod
 rw [← hA, ← hlk, ← hlx]
 obtain ⟨w1, hw1⟩ : ∃ w1, w.alloc (.cells (trC k n t (.slice kd lk kcap) (.slice ad lx cap)) 28) = w1 := ⟨_, rfl⟩
 obtain ⟨hb1, hx1, hs1⟩ := new_below hw1
 have hOF : ∀ V, Below w1.heap.size w1 V → Calls Tryz.prog 13 #[.agg #[.int .u64 0, .int .i64 64], .agg (trC k n t (.slice kd lk kcap) (.slice ad lx cap))] V fun e w' => ∃ y, e = .returned (.tuple #[.agg (celC y), .int .i64 (chkT A)]) ∧ Below V.heap.size V w' := fun V hV =>
  (va_Of A _ V 0 64 (hv0.later (hb1.trans (hV.mono hb1.size))) hfew htxt hnod (by decide) (hT.below (hb1.trans (hV.mono hb1.size)))).mono fun e w' ⟨y, h1, _, h3⟩ => ⟨y, h1, h3⟩
 have HOF := Lib.hid hOF
 have HX1 := Lib.hid hx1
 have HB1 := Lib.hid hb1
 clear hOF hx1 hb1 hs1 hv hv0 hfew htxt hnod hT h1 h2 k1 k2 hA hlk hlx
 go_enter Tryz.func15, Tryz.ntmps15
 go_upto_region 1 with fail
 clear hw1
 go_wp2_with (first
  | (refine ld_if rfl 28 _ rfl w.heap.size rfl 28 _ _ _ HX1.out Tryz.underlying28 rfl tr_size5 ?_)
  | (go_at_call 13; (with_reducible refine (HOF.out _ (Below.refl _ _)).mono ?_); rintro e w3 ⟨y, rfl, hb3⟩; have HB3 := Lib.hid (HB1.out.trans (hb3.mono HB1.out.size)); clear hb3)
  | (refine st_agg rfl 35 _ _ rfl w3.heap.size (celC y) rfl rfl 35 #[.int .i64 0, .int .i64 0, .string ⟨#[]⟩, .pointer none] (heap_alloc_last _ _) val_size rfl (celC_one y) ?_; intro w9 h9 k9))
 have hb9 : Below w3.heap.size w3 w9 := (Below.newly' _ _).trans (k9.below (Nat.le_refl _))
 have hb := HB3.out.trans (hb9.mono HB3.out.size)
 go_ret
 exact ⟨rfl, hb⟩
end Go.Proofs.YtpodmgihlomglaaGreatDoor
