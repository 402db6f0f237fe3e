/- The document's answer for lex: the signs, and the token at a place. (written by tools/gen13/ref13n.py) -/
import Derived.Test.YtgdlkaoadlipmaaDoorRef13
namespace Go.Proofs.YtgdlkaoadlipmaaDoor
open Go.RowKit
set_option maxRecDepth 1000000
set_option linter.unusedSimpArgs false

/-- What stands at a place behind the blanks. -/
def nx (l : List UInt8) (b : Nat) : Tok × Nat × Int :=
  if (tokR (l.drop b)).2.2 = 0 then (tokAt b (tokR (l.drop b)).1 (tokR (l.drop b)).2.1, 0, 0) else (⟨0, 0, 0, 0, []⟩, b + (tokR (l.drop b)).2.1, (tokR (l.drop b)).2.2)
theorem next_nx (l : List UInt8) (p : Nat) : nextS l p = nx l (p + blkLen (l.drop p)) := rfl
theorem nx_end (l : List UInt8) (b : Nat) (h : l.length ≤ b) : nx l b = (⟨0, b, b, 0, []⟩, 0, 0) := by
  unfold nx
  rw [List.drop_eq_nil_of_le h]
  simp [tokR, tokAt, zTk]
theorem drop_c (s : ByteArray) (b : Nat) (h : b < s.size) : s.data.toList.drop b = s[b] :: s.data.toList.drop (b + 1) := by
  have hl := len_bytes s
  rw [List.drop_eq_getElem_cons (show b < s.data.toList.length by omega)]
  rfl
theorem nx_text (s : ByteArray) (b : Nat) (h : b < s.size) (hc : s[b].toNat = 34) : nx s.data.toList b =
    if (unquoteS (s.data.toList.drop b)).2.2 = 0 then (⟨4, b, b + (unquoteS (s.data.toList.drop b)).2.1, 0, (unquoteS (s.data.toList.drop b)).1⟩, 0, 0) else (⟨0, 0, 0, 0, []⟩, b + (unquoteS (s.data.toList.drop b)).2.1, (unquoteS (s.data.toList.drop b)).2.2) := by
  unfold nx
  rw [drop_c s b h, tokR_cons, if_pos hc]
  by_cases he : (unquoteS (s[b] :: s.data.toList.drop (b + 1))).2.2 = 0
  · rw [if_pos he, if_pos rfl, if_pos he]; rfl
  · rw [if_neg he, if_neg he, if_neg he]
theorem nx_num (s : ByteArray) (b : Nat) (h : b < s.size) (h34 : s[b].toNat ≠ 34) (hc : s[b].toNat = 45 ∨ digS s[b] = true) : nx s.data.toList b = numT s.data.toList b := by
  have ht : (s.data.toList.drop b).take (((s.data.toList.drop (b + 1)).takeWhile digS).length + 1) = s[b] :: (s.data.toList.drop (b + 1)).takeWhile digS := by
    rw [drop_c s b h, List.take_succ_cons, ← lx_tweq]
  unfold nx numT
  simp only
  rw [ht, drop_c s b h, tokR_cons, if_neg h34, if_pos hc]
  by_cases he : (parseS (s[b] :: (s.data.toList.drop (b + 1)).takeWhile digS)).2 = 0
  · rw [if_pos he, if_pos rfl, if_pos he]; simp only [tokAt, Nat.add_assoc]
  · rw [if_neg he, if_neg he, if_neg he]; simp
theorem nx_word (s : ByteArray) (b k : Nat) (h : b < s.size) (hl : letS s[b] = true) (h0 : b ≤ k) (h1 : k ≤ s.size) (ha : ∀ j (h : j < s.size), b ≤ j → j < k → nbS s[j] = true) (he : k = s.size ∨ ∃ h : k < s.size, nbS s[k] = false) :
    b < k ∧ nx s.data.toList b = (⟨2, b, k, 0, (s.extract b k).data.toList⟩, 0, 0) := by
  have hn : nbS s[b] = true := by unfold nbS; rw [hl]; rfl
  have hbk : b < k := by
    rcases Nat.lt_or_ge b k with h | h2
    · exact h
    · obtain rfl : b = k := by omega
      rcases he with e | ⟨_, e⟩
      · omega
      · rw [hn] at e; cases e
  obtain ⟨h2, h3⟩ := tw_scan nbS s b k h0 h1 ha he
  have hd := of_decide_eq_true (show decide (97 ≤ s[b].toNat ∧ s[b].toNat ≤ 122 ∨ 65 ≤ s[b].toNat ∧ s[b].toNat ≤ 90 ∨ s[b].toNat = 95) = true from hl)
  have hdg : ¬ (s[b].toNat = 45 ∨ digS s[b] = true) := fun h => h.elim (by omega) (fun h => by unfold digS at h; have := of_decide_eq_true h; omega)
  have h34 : ¬ s[b].toNat = 34 := by omega
  refine ⟨hbk, ?_⟩
  rw [ext_l, ← h2]
  rw [drop_c s b h] at h3 ⊢
  unfold nx
  rw [drop_c s b h, tokR_cons, if_neg h34, if_neg hdg, if_pos hl, if_pos rfl]
  simp only [tokAt]
  rw [h3, show b + (k - b) = k by omega]
theorem nx_sign (s : ByteArray) (b : Nat) (h : b < s.size) (h34 : s[b].toNat ≠ 34) (hn : ¬ (s[b].toNat = 45 ∨ digS s[b] = true)) (hl : letS s[b] = false) : nx s.data.toList b =
    match signsS.find? fun x => x.isPrefixOf (s.data.toList.drop b) with
    | some x => (⟨1, b, b + x.length, 0, x⟩, 0, 0)
    | none => (⟨0, 0, 0, 0, []⟩, b, 2) := by
  have hl' : ¬ letS s[b] = true := by rw [hl]; decide
  unfold nx
  rw [drop_c s b h, tokR_cons, if_neg h34, if_neg hn, if_neg hl']
  cases signsS.find? fun x => x.isPrefixOf (s[b] :: s.data.toList.drop (b + 1)) with
  | none => simp
  | some x => simp [tokAt]
theorem find_yes {α : Type} (p : α → Bool) : ∀ (l : List α) (i : Nat) (hi : i < l.length), (∀ j (h : j < l.length), j < i → p l[j] = false) → p l[i] = true → l.find? p = some l[i]
  | [], i, hi, _, _ => by simp at hi
  | a :: l, 0, _, _, h => by rw [List.find?_cons]; simp only [List.getElem_cons_zero] at h ⊢; rw [h]
  | a :: l, i + 1, hi, hj, h => by
    have h0 : p a = false := hj 0 (by simp) (by omega)
    rw [List.find?_cons, h0]
    simp only [List.getElem_cons_succ] at h ⊢
    exact find_yes p l i (by simpa using hi) (fun j h1 h2 => hj (j + 1) (by simpa using h1) (by omega)) h
theorem find_no {α : Type} (p : α → Bool) (l : List α) (h : ∀ j (_ : j < l.length), p l[j] = false) : l.find? p = none := by
  rw [List.find?_eq_none]
  intro x hx
  obtain ⟨j, hj, rfl⟩ := List.getElem_of_mem hx
  rw [h j hj]; decide
/-- Where the blanks end. -/
theorem blk_scan (s : ByteArray) (p k : Nat) (h0 : p ≤ k) (h1 : k ≤ s.size) (ha : ∀ j (h : j < s.size), p ≤ j → j < k → blkS s[j] = true) (he : k = s.size ∨ ∃ h : k < s.size, blkS s[k] = false) : nextS s.data.toList p = nx s.data.toList k := by
  have h := (tw_scan blkS s p k h0 h1 ha he).2
  rw [next_nx]
  unfold blkLen
  rw [h, show p + (k - p) = k by omega]
/-- Is what stands there with one byte more a name? -/
theorem name_one (s : ByteArray) (b k : Nat) (h0 : b ≤ k) (h1 : k < s.size) (ha : ∀ j (h : j < s.size), b ≤ j → j < k → nbS s[j] = true) : nameS (s.extract b (k + 1)).data.toList = (letS s[b] && nbS s[k]) := by
  have hl := len_bytes s
  rw [ext_l, drop_c s b (by omega), show k + 1 - b = (k - b) + 1 by omega, List.take_succ_cons]
  show (letS s[b] && ((s.data.toList.drop (b + 1)).take (k - b)).all nbS) = _
  cases hb : letS s[b] with
  | false => rfl
  | true =>
    rw [Bool.true_and, Bool.true_and]
    have hbn : nbS s[b] = true := by unfold nbS; rw [hb]; rfl
    cases hk : nbS s[k] with
    | true =>
      rw [List.all_eq_true]
      intro c hc
      obtain ⟨j, hj, rfl⟩ := List.getElem_of_mem hc
      simp only [List.length_take, List.length_drop, hl] at hj
      rw [List.getElem_take, List.getElem_drop]
      rcases Nat.lt_or_ge (b + 1 + j) k with h | h
      · exact ha (b + 1 + j) (by omega) (by omega) h
      · have e : b + 1 + j = k := by omega
        simp only [e]; exact hk
    | false =>
      have hbk : b ≠ k := fun e => by subst e; rw [hbn] at hk; cases hk
      rw [Bool.eq_false_iff]
      intro h
      rw [List.all_eq_true] at h
      have hm : s[k] ∈ (s.data.toList.drop (b + 1)).take (k - b) := by
        have hlt : k - b - 1 < ((s.data.toList.drop (b + 1)).take (k - b)).length := by simp only [List.length_take, List.length_drop, hl]; omega
        have e : ((s.data.toList.drop (b + 1)).take (k - b))[k - b - 1] = s[k] := by
          rw [List.getElem_take, List.getElem_drop]
          have e : b + 1 + (k - b - 1) = k := by omega
          simp only [e]; rfl
        rw [← e]; exact List.getElem_mem _
      rw [h _ hm] at hk; cases hk
/-- The signs lie in a block. -/
def SgAt (w : World) (g : Nat) : Prop := ∀ j (h : j < 23), w.cell? ⟨g, j, none⟩ = some (.string ⟨(signsS[j]'(by simpa [signsS] using h)).toArray⟩)
theorem SgAt.later {w w' : World} {g : Nat} (h : SgAt w g) (hb : Below w.heap.size w w') : SgAt w' g := fun j hj => (hb.cell (World.block_lt_of_cell? w _ (h j hj))).trans (h j hj)
def sgC : Array Value := #[.string ⟨#[46, 46]⟩, .string ⟨#[61, 61]⟩, .string ⟨#[33, 61]⟩, .string ⟨#[60, 61]⟩, .string ⟨#[62, 61]⟩, .string ⟨#[38, 38]⟩, .string ⟨#[124, 124]⟩, .string ⟨#[91]⟩, .string ⟨#[93]⟩, .string ⟨#[123]⟩, .string ⟨#[125]⟩, .string ⟨#[60]⟩, .string ⟨#[62]⟩, .string ⟨#[40]⟩, .string ⟨#[41]⟩, .string ⟨#[44]⟩, .string ⟨#[58]⟩, .string ⟨#[46]⟩, .string ⟨#[42]⟩, .string ⟨#[63]⟩, .string ⟨#[33]⟩, .string ⟨#[36]⟩, .string ⟨#[64]⟩]
theorem rf_Signs (w : World) : Calls Tryd.prog 32 #[] w fun e w' => ∃ g, e = .returned (.slice (some ⟨g, 0, none⟩) 23 23) ∧ SgAt w' g ∧ Below w.heap.size w w' := by
  go_enter Tryd.func32, Tryd.ntmps32
  go_wp2_with fail
  go_ret
  refine ⟨w.heap.size, rfl, fun j hj => ?_, Below.newly' _ _⟩
  refine cell_in (c := sgC) (heap_alloc_last _ _) ?_
  match j, hj with
  | 0, _ => rfl
  | 1, _ => rfl
  | 2, _ => rfl
  | 3, _ => rfl
  | 4, _ => rfl
  | 5, _ => rfl
  | 6, _ => rfl
  | 7, _ => rfl
  | 8, _ => rfl
  | 9, _ => rfl
  | 10, _ => rfl
  | 11, _ => rfl
  | 12, _ => rfl
  | 13, _ => rfl
  | 14, _ => rfl
  | 15, _ => rfl
  | 16, _ => rfl
  | 17, _ => rfl
  | 18, _ => rfl
  | 19, _ => rfl
  | 20, _ => rfl
  | 21, _ => rfl
  | 22, _ => rfl
  | k + 23, hk => exact absurd hk (by omega)
set_option maxHeartbeats 1000000 in
theorem rf_Next (s : ByteArray) (p : Nat) (w : World) (hp : p ≤ s.size) (hs : s.size ≤ 10000) : Calls Tryd.prog 10 #[.string s, .int .i64 (p : Int)] w fun e w' => e = .returned (resV (nextS s.data.toList p)) ∧ Below w.heap.size w w' := by
  obtain ⟨w1, hw1⟩ : ∃ w1, w1 = w.alloc (.cells (tokC ⟨0, 0, 0, 0, []⟩) 24) := ⟨_, rfl⟩
  have hb1 : Below w.heap.size w w1 := by rw [hw1]; exact Below.newly' _ _
  have hx1 : w1.heap[w.heap.size]? = some (.cells (tokC ⟨0, 0, 0, 0, []⟩) 24 (0, 0)) := by rw [hw1]; exact heap_alloc_last _ _
  have HB1 := Lib.hid hb1
  have HX : Hid (∀ W, Below w1.heap.size w1 W → W.heap[w.heap.size]? = some (.cells (tokC ⟨0, 0, 0, 0, []⟩) 24 (0, 0))) := fun W hb => (hb.block _ (Array.getElem?_eq_some_iff.1 hx1).1).trans hx1
  clear hb1 hx1
  go_enter Tryd.func10, Tryd.ntmps10
  go_upto_region 1 with fail
  rw [show w.alloc (.cells #[.int .i64 0, .int .i64 0, .int .i64 0, .int .i64 0, .string ⟨#[]⟩] 24) = w1 from hw1.symm]
  clear hw1
  have hd0 : decide ((p : Int) < 0) = false := decide_eq_false (by omega)
  have hd1 : decide (s.size < p) = false := decide_eq_false (by omega)
  go_wp2_with fail
  go_loopw [1] (fun i wr => ∃ k : Nat, p ≤ k ∧ k ≤ s.size ∧ i = .int .i64 (k : Int) ∧ (∀ j (h : j < s.size), p ≤ j → j < k → blkS s[j] = true) ∧ wr = w1) (fun i _ => s.size - (intOf i).toNat)
  case atStart => exact ⟨p, by omega, by omega, rfl, fun j _ h1 h2 => by omega, rfl⟩
  case round =>
    obtain ⟨k, hk0, hk1, rfl, hd, rfl⟩ := hrel
    have HD := Lib.hid hd
    clear hd hd0 hd1
    have HW : Hid (Below wr.heap.size wr wr) := Below.refl _ _
    by_cases hlt : k < s.size
    case neg =>
      have HN : Hid (nextS s.data.toList p = (⟨0, k, k, 0, []⟩, 0, 0)) := (blk_scan s p k hk0 hk1 HD.out (.inl (by omega))).trans (nx_end _ _ (by rw [len_bytes]; omega))
      obtain rfl : k = s.size := by omega
      go_wp2_with (first
        | (refine st_agg rfl 24 _ _ rfl w.heap.size (tokC ⟨0, s.size, s.size, 0, []⟩) rfl rfl 24 (tokC ⟨0, 0, 0, 0, []⟩) (HX.out _ HW.out) tok_size rfl (by simp [Value.oneCell', tokC]) ?_; intro w8 h8 k8))
      refine bodyPost_ret (results_cell_row2 rfl _ _ w.heap.size 24 _ (0, 0) _ rfl h8 Tryd.underlying24 rfl tok_size) rfl ⟨?_, HB1.out.trans ((HW.out.mono HB1.out.size).trans (k8.below (Nat.le_refl _)))⟩
      rw [HN.out]; rfl
    have hlt' : (k : Int) < s.size := by omega
    obtain ⟨bk, hbk⟩ : ∃ b, b = blkS s[k] := ⟨_, rfl⟩
    have HBK : Hid (∀ W, Calls Tryd.prog 27 #[.int .u8 (s[k].toNat : Int)] W fun e w' => e = .returned (.bool bk) ∧ W = w') := fun W => by rw [hbk]; exact rf_Blank s[k] W
    have HBE := Lib.hid hbk
    clear hbk
    cases bk with
    | true =>
      have HG : Hid (∀ j (h : j < s.size), p ≤ j → j < k + 1 → blkS s[j] = true) := fun j h1 h2 h3 => by
        rcases Nat.lt_or_ge j k with h4 | h4
        · exact HD.out j h1 h2 h4
        · obtain rfl : j = k := by omega
          exact HBE.out.symm
      go_wp2_with (first
        | (go_at_call 27; refine (HBK.out _).mono ?_; rintro r V ⟨rfl, rfl⟩))
      go_roundw
      case rel => exact ⟨k + 1, by omega, by omega, by go_num, HG.out, trivial⟩
      case measure => simp [intOf]; omega
    | false =>
      have HN : Hid (nextS s.data.toList p = nx s.data.toList k) := blk_scan s p k hk0 hk1 HD.out (.inr ⟨hlt, HBE.out.symm⟩)
      have hc0 : (s[k].toNat : Int) < 256 := by have := s[k].toNat_lt; omega
      have HDG0 := Lib.hid (fun W => rf_digit s[k] W)
      clear HD HBE hk0
      have g1 : ((k : Int) == (s.size : Int)) = false := beq_eq_false_iff_ne.2 (by omega)
      go_upto_region 8 with (go_at_call 27; refine (HBK.out _).mono ?_; rintro r V ⟨rfl, rfl⟩)
      clear HBK
      by_cases c1 : (s[k].toNat : Int) = 34
      case pos =>
        have hxl : (s.extract k s.size).data.toList = s.data.toList.drop k := by rw [ext_l, List.take_of_length_le (by rw [List.length_drop, len_bytes]; exact Nat.le_refl _)]
        have hul := (lx_unquote (s.data.toList.drop k)).1
        rw [List.length_drop, len_bytes] at hul
        have hnx := nx_text s k hlt (by omega)
        have hu := fun W => ref_Unquote (s.extract k s.size) W (by simp only [ByteArray.size_extract]; omega)
        rw [hxl] at hu
        obtain ⟨u1, u2, u3, hue⟩ : ∃ u1 u2 u3, unquoteS (s.data.toList.drop k) = (u1, u2, u3) := ⟨_, _, _, rfl⟩
        rw [hue] at hu hnx hul
        dsimp only at hul hnx
        have HU : Hid (∀ W, Calls Tryd.prog 28 #[.string (s.extract k s.size)] W fun e w' => e = .returned (.tuple #[.string ⟨u1.toArray⟩, .int .i64 (u2 : Int), .int .i64 u3]) ∧ Below W.heap.size W w') := hu
        have hul' : (k : Int) + (u2 : Int) ≤ s.size := by omega
        have HNX := Lib.hid hnx
        clear hu hue hnx hxl hul
        by_cases c2 : u3 = 0
        · have HE : Hid (nextS s.data.toList p = (⟨4, k, k + u2, 0, u1⟩, 0, 0)) := HN.out.trans (HNX.out.trans (if_pos c2))
          subst c2
          clear HN HNX
          go_wp2_with (first
            | (go_at_call 28; refine (HU.out _).mono ?_; rintro r V ⟨rfl, hb⟩; replace HW := Lib.hid (HW.out.trans (hb.mono HW.out.size)); clear hb)
            | (refine st_agg rfl 24 _ _ rfl w.heap.size (tokC ⟨4, k, k + u2, 0, u1⟩) rfl rfl 24 (tokC ⟨0, 0, 0, 0, []⟩) (HX.out _ HW.out) tok_size rfl (by simp [Value.oneCell', tokC]) ?_; intro w8 h8 k8))
          refine bodyPost_ret (results_cell_row2 rfl _ _ w.heap.size 24 _ (0, 0) _ rfl h8 Tryd.underlying24 rfl tok_size) rfl ⟨?_, HB1.out.trans ((HW.out.mono HB1.out.size).trans (k8.below (Nat.le_refl _)))⟩
          rw [HE.out]; rfl
        · have HE : Hid (nextS s.data.toList p = (⟨0, 0, 0, 0, []⟩, k + u2, u3)) := HN.out.trans (HNX.out.trans (if_neg c2))
          clear HN HNX
          go_wp2_with (first
            | (go_at_call 28; refine (HU.out _).mono ?_; rintro r V ⟨rfl, hb⟩; replace HW := Lib.hid (HW.out.trans (hb.mono HW.out.size)); clear hb)
            | (refine st_agg rfl 24 _ _ rfl w.heap.size (tokC ⟨0, 0, 0, 0, []⟩) rfl rfl 24 (tokC ⟨0, 0, 0, 0, []⟩) (HX.out _ HW.out) tok_size rfl (by simp [Value.oneCell', tokC]) ?_; intro w8 h8 k8))
          refine bodyPost_ret (results_cell_row2 rfl _ _ w.heap.size 24 _ (0, 0) _ rfl h8 Tryd.underlying24 rfl tok_size) rfl ⟨?_, HB1.out.trans ((HW.out.mono HB1.out.size).trans (k8.below (Nat.le_refl _)))⟩
          rw [HE.out]; rfl
      have g2 : ((s[k].toNat : Int) == 34) = false := beq_eq_false_iff_ne.2 c1
      obtain ⟨dg, hdg⟩ : ∃ d, d = digS s[k] := ⟨_, rfl⟩
      have HDG : Hid (∀ W, Calls Tryd.prog 29 #[.int .u8 (s[k].toNat : Int)] W fun e w' => e = .returned (.bool dg) ∧ W = w') := fun W => by rw [hdg]; exact HDG0.out W
      have HDE := Lib.hid hdg
      clear hdg HDG0
      by_cases c2 : (s[k].toNat : Int) = 45
      case pos =>
        have hnu := fun W => rf_number s k W hlt hs
        obtain ⟨q, hq⟩ : ∃ q, q = numT s.data.toList k := ⟨_, rfl⟩
        have HE : Hid (nextS s.data.toList p = q) := HN.out.trans ((nx_num s k hlt (by omega) (.inl (by omega))).trans hq.symm)
        rw [← hq] at hnu
        clear hq HN
        obtain ⟨⟨tk, ta, te, tn, tt⟩, qn, qe⟩ := q
        have HNU : Hid (∀ W, Calls Tryd.prog 30 #[.string s, .int .i64 (k : Int)] W fun e w' => e = .returned (.tuple #[.agg (tokC ⟨tk, ta, te, tn, tt⟩), .int .i64 (qn : Int), .int .i64 qe]) ∧ Below W.heap.size W w') := hnu
        clear hnu
        go_wp2_with (first
          | (go_at_call 29; refine (HDG.out _).mono ?_; rintro r V ⟨rfl, rfl⟩)
          | (go_at_call 30; refine (HNU.out _).mono ?_; rintro r V ⟨rfl, hb⟩; replace HW := Lib.hid (HW.out.trans (hb.mono HW.out.size)); clear hb)
          | (refine st_agg rfl 24 _ _ rfl w.heap.size (tokC ⟨tk, ta, te, tn, tt⟩) rfl rfl 24 (tokC ⟨0, 0, 0, 0, []⟩) (HX.out _ HW.out) tok_size rfl (by simp [Value.oneCell', tokC]) ?_; intro w8 h8 k8))
        refine bodyPost_ret (results_cell_row2 rfl _ _ w.heap.size 24 _ (0, 0) _ rfl h8 Tryd.underlying24 rfl tok_size) rfl ⟨?_, HB1.out.trans ((HW.out.mono HB1.out.size).trans (k8.below (Nat.le_refl _)))⟩
        rw [HE.out]; rfl
      have g3 : ((s[k].toNat : Int) == 45) = false := beq_eq_false_iff_ne.2 c2
      cases dg with
      | true =>
        have hnu := fun W => rf_number s k W hlt hs
        obtain ⟨q, hq⟩ : ∃ q, q = numT s.data.toList k := ⟨_, rfl⟩
        have HE : Hid (nextS s.data.toList p = q) := HN.out.trans ((nx_num s k hlt (by omega) (.inr HDE.out.symm)).trans hq.symm)
        rw [← hq] at hnu
        clear hq HN
        obtain ⟨⟨tk, ta, te, tn, tt⟩, qn, qe⟩ := q
        have HNU : Hid (∀ W, Calls Tryd.prog 30 #[.string s, .int .i64 (k : Int)] W fun e w' => e = .returned (.tuple #[.agg (tokC ⟨tk, ta, te, tn, tt⟩), .int .i64 (qn : Int), .int .i64 qe]) ∧ Below W.heap.size W w') := hnu
        clear hnu
        go_wp2_with (first
          | (go_at_call 29; refine (HDG.out _).mono ?_; rintro r V ⟨rfl, rfl⟩)
          | (go_at_call 30; refine (HNU.out _).mono ?_; rintro r V ⟨rfl, hb⟩; replace HW := Lib.hid (HW.out.trans (hb.mono HW.out.size)); clear hb)
          | (refine st_agg rfl 24 _ _ rfl w.heap.size (tokC ⟨tk, ta, te, tn, tt⟩) rfl rfl 24 (tokC ⟨0, 0, 0, 0, []⟩) (HX.out _ HW.out) tok_size rfl (by simp [Value.oneCell', tokC]) ?_; intro w8 h8 k8))
        refine bodyPost_ret (results_cell_row2 rfl _ _ w.heap.size 24 _ (0, 0) _ rfl h8 Tryd.underlying24 rfl tok_size) rfl ⟨?_, HB1.out.trans ((HW.out.mono HB1.out.size).trans (k8.below (Nat.le_refl _)))⟩
        rw [HE.out]; rfl
      | false =>
        have HND : Hid (¬ (s[k].toNat = 45 ∨ digS s[k] = true)) := fun h => h.elim (by omega) (fun h => by rw [← HDE.out] at h; cases h)
        clear HDE
        go_upto_region 16 with (first
          | (go_at_call 29; refine (HDG.out _).mono ?_; rintro r V ⟨rfl, rfl⟩))
        obtain ⟨lt, hlt2⟩ : ∃ b, b = letS s[k] := ⟨_, rfl⟩
        have HLT := Lib.hid hlt2
        clear hlt2 HDG g1 g2 g3
        go_loopw [11] (fun i W => ∃ q : Nat, k ≤ q ∧ q ≤ s.size ∧ i = .int .i64 (q : Int) ∧ (∀ j (h : j < s.size), k ≤ j → j < q → nbS s[j] = true) ∧ (lt = false → q = k) ∧ Below wr.heap.size wr W) (fun i _ => s.size - (intOf i).toNat)
        case atStart => exact ⟨k, Nat.le_refl _, by omega, rfl, fun j _ h1 h2 => by omega, fun _ => rfl, HW.out⟩
        case round =>
          obtain ⟨q, hq0, hq1, rfl, hq2, hq3, hqw⟩ := hrel
          have HQ := Lib.hid hq2
          have HQ3 := Lib.hid hq3
          replace HW := Lib.hid hqw
          clear hq2 hq3 hqw
          by_cases hql : q < s.size
          case neg =>
            have hlt4 : lt = true := by
              cases hb : lt with
              | true => rfl
              | false => have := HQ3.out hb; omega
            obtain ⟨hw0, hw1⟩ := nx_word s k q hlt (HLT.out.symm.trans hlt4) hq0 hq1 HQ.out (.inl (by omega))
            have HE : Hid (nextS s.data.toList p = (⟨2, k, q, 0, (s.extract k q).data.toList⟩, 0, 0)) := HN.out.trans hw1
            have hql' : ¬ (q : Int) < s.size := by omega
            clear hw1 hlt4 HLT
            go_wp2_with (first
              | (refine st_agg rfl 24 _ _ rfl w.heap.size (tokC ⟨2, k, q, 0, (s.extract k q).data.toList⟩) rfl rfl 24 (tokC ⟨0, 0, 0, 0, []⟩) (HX.out _ HW.out) tok_size rfl (by simp [Value.oneCell', tokC]) ?_; intro w8 h8 k8))
            refine bodyPost_ret (results_cell_row2 rfl _ _ w.heap.size 24 _ (0, 0) _ rfl h8 Tryd.underlying24 rfl tok_size) rfl ⟨?_, HB1.out.trans ((HW.out.mono HB1.out.size).trans (k8.below (Nat.le_refl _)))⟩
            rw [HE.out]; rfl
          have hql' : (q : Int) < s.size := by omega
          have hnm := fun W => ref_Name (s.extract k (q + 1)) W (by simp only [ByteArray.size_extract]; omega)
          rw [name_one s k q hq0 hql HQ.out, ← HLT.out] at hnm
          obtain ⟨nb, hnb⟩ : ∃ b, b = (lt && nbS s[q]) := ⟨_, rfl⟩
          rw [← hnb] at hnm
          have HNM := Lib.hid hnm
          have HNB := Lib.hid hnb
          clear hnm hnb
          cases nb with
          | true =>
            have hb2 := Bool.and_eq_true_iff.1 HNB.out.symm
            have HG : Hid (∀ j (h : j < s.size), k ≤ j → j < q + 1 → nbS s[j] = true) := fun j h1 h2 h3 => by
              rcases Nat.lt_or_ge j q with h4 | h4
              · exact HQ.out j h1 h2 h4
              · obtain rfl : j = q := by omega
                exact hb2.2
            have HLF : Hid (lt = true) := hb2.1
            clear hb2
            go_wp2_with (first
              | (go_at_call 31; refine (HNM.out _).mono ?_; rintro r V ⟨rfl, hb⟩; replace HW := Lib.hid (HW.out.trans (hb.mono HW.out.size)); clear hb))
            go_roundw
            case rel => exact ⟨q + 1, by omega, by omega, by go_num, HG.out, (fun h : lt = false => absurd (HLF.out.symm.trans h) (by decide)), HW.out⟩
            case measure => simp [intOf]; omega
          | false =>
            cases lt with
            | true =>
              have hqb : nbS s[q] = false := HNB.out.symm
              obtain ⟨hw0, hw1⟩ := nx_word s k q hlt HLT.out.symm hq0 hq1 HQ.out (.inr ⟨hql, hqb⟩)
              have HE : Hid (nextS s.data.toList p = (⟨2, k, q, 0, (s.extract k q).data.toList⟩, 0, 0)) := HN.out.trans hw1
              clear hw1 hqb HLT HNB
              go_wp2_with (first
                | (go_at_call 31; refine (HNM.out _).mono ?_; rintro r V ⟨rfl, hb⟩; replace HW := Lib.hid (HW.out.trans (hb.mono HW.out.size)); clear hb)
                | (refine st_agg rfl 24 _ _ rfl w.heap.size (tokC ⟨2, k, q, 0, (s.extract k q).data.toList⟩) rfl rfl 24 (tokC ⟨0, 0, 0, 0, []⟩) (HX.out _ HW.out) tok_size rfl (by simp [Value.oneCell', tokC]) ?_; intro w8 h8 k8))
              refine bodyPost_ret (results_cell_row2 rfl _ _ w.heap.size 24 _ (0, 0) _ rfl h8 Tryd.underlying24 rfl tok_size) rfl ⟨?_, HB1.out.trans ((HW.out.mono HB1.out.size).trans (k8.below (Nat.le_refl _)))⟩
              rw [HE.out]; rfl
            | false =>
              obtain rfl : q = k := HQ3.out rfl
              have HNS : Hid (nextS s.data.toList p = match signsS.find? fun x => x.isPrefixOf (s.data.toList.drop q) with | some x => (⟨1, q, q + x.length, 0, x⟩, 0, 0) | none => (⟨0, 0, 0, 0, []⟩, q, 2)) := HN.out.trans (nx_sign s q hlt (by omega) HND.out HLT.out.symm)
              have HSG := Lib.hid (fun W => rf_Signs W)
              clear HN HND HLT HNB HQ HQ3 hq0 hq1
              go_upto_region 21 with (first
                | (go_at_call 31; refine (HNM.out _).mono ?_; rintro r V ⟨rfl, hb⟩; replace HW := Lib.hid (HW.out.trans (hb.mono HW.out.size)); clear hb)
                | (go_at_call 32; refine (HSG.out _).mono ?_; rintro r V ⟨g, rfl, hg, hb⟩; have HGS := Lib.hid hg; replace HW := Lib.hid (HW.out.trans (hb.mono HW.out.size)); clear hb hg))
              go_loopw [13, 107] (fun x i W => ∃ j : Nat, j ≤ 23 ∧ i = .int .i64 (j : Int) ∧ (∀ t (h : t < signsS.length), t < j → signsS[t].isPrefixOf (s.data.toList.drop q) = false) ∧ W = V) (fun _ i _ => 23 - (intOf i).toNat)
              case atStart => exact ⟨0, by omega, rfl, fun t _ h => absurd h (Nat.not_lt_zero _), rfl⟩
              case round =>
                obtain ⟨j, hj, rfl, hjp, rfl⟩ := hrel
                have HJP := Lib.hid hjp
                clear hjp
                by_cases hjl : j < 23
                case neg =>
                  have HE : Hid (nextS s.data.toList p = (⟨0, 0, 0, 0, []⟩, q, 2)) := by
                    have h := HNS.out
                    rw [find_no _ _ (fun t ht => HJP.out t ht (by have : signsS.length = 23 := rfl; omega))] at h
                    exact h
                  have hjl' : ¬ (j : Int) < 23 := by omega
                  go_wp2_with (first
                    | (refine st_agg rfl 24 _ _ rfl w.heap.size (tokC ⟨0, 0, 0, 0, []⟩) rfl rfl 24 (tokC ⟨0, 0, 0, 0, []⟩) (HX.out _ HW.out) tok_size rfl (by simp [Value.oneCell', tokC]) ?_; intro w8 h8 k8))
                  refine bodyPost_ret (results_cell_row2 rfl _ _ w.heap.size 24 _ (0, 0) _ rfl h8 Tryd.underlying24 rfl tok_size) rfl ⟨?_, HB1.out.trans ((HW.out.mono HB1.out.size).trans (k8.below (Nat.le_refl _)))⟩
                  rw [HE.out]; rfl
                have hjl' : (j : Int) < 23 := by omega
                have hjs : j < signsS.length := hjl
                obtain ⟨X, hX⟩ : ∃ X : ByteArray, X = ⟨(signsS[j]).toArray⟩ := ⟨_, rfl⟩
                have hcell := HGS.out j hjl
                rw [← hX] at hcell
                have hxl : X.data.toList = signsS[j] := by rw [hX]
                have hx2 : X.size ≤ 2 := by
                  have h2 : ∀ y ∈ signsS, y.length ≤ 2 := by decide
                  rw [← len_bytes, hxl]; exact h2 _ (List.getElem_mem _)
                have hx2' : (X.size : Int) ≤ 2 := by omega
                have hst := fun W => rf_starts s X q W (by omega) (by omega) (by omega)
                obtain ⟨b, hb⟩ : ∃ b, b = X.data.toList.isPrefixOf (s.data.toList.drop q) := ⟨_, rfl⟩
                rw [← hb] at hst
                have HST := Lib.hid hst
                have HBE := Lib.hid hb
                have HXL := Lib.hid hxl
                clear hst hb hxl hX
                cases b with
                | true =>
                  have HE : Hid (nextS s.data.toList p = (⟨1, q, q + X.size, 0, X.data.toList⟩, 0, 0)) := by
                    have h := HNS.out
                    rw [find_yes _ _ j hjs (fun t ht htj => HJP.out t ht htj) (by rw [← HXL.out]; exact HBE.out.symm), ← HXL.out] at h
                    have h2 := h.trans (show _ = ((⟨1, q, q + X.data.toList.length, 0, X.data.toList⟩ : Tok), 0, 0) from rfl)
                    rw [len_bytes] at h2
                    exact h2
                  clear HNS HJP HBE HXL
                  go_wp2_with (first
                    | (go_at_call 33; refine (HST.out _).mono ?_; rintro r V ⟨rfl, rfl⟩)
                    | (refine st_agg rfl 24 _ _ rfl w.heap.size (tokC ⟨1, q, q + X.size, 0, X.data.toList⟩) rfl rfl 24 (tokC ⟨0, 0, 0, 0, []⟩) (HX.out _ HW.out) tok_size rfl (by simp [Value.oneCell', tokC]) ?_; intro w8 h8 k8))
                  refine bodyPost_ret (results_cell_row2 rfl _ _ w.heap.size 24 _ (0, 0) _ rfl h8 Tryd.underlying24 rfl tok_size) rfl ⟨?_, HB1.out.trans ((HW.out.mono HB1.out.size).trans (k8.below (Nat.le_refl _)))⟩
                  rw [HE.out]; rfl
                | false =>
                  have HG : Hid (∀ t (h : t < signsS.length), t < j + 1 → signsS[t].isPrefixOf (s.data.toList.drop q) = false) := fun t ht h1 => by
                    rcases Nat.lt_or_ge t j with h2 | h2
                    · exact HJP.out t ht h2
                    · obtain rfl : t = j := by omega
                      rw [← HXL.out]; exact HBE.out.symm
                  go_wp2_with (go_at_call 33; refine (HST.out _).mono ?_; rintro r V ⟨rfl, rfl⟩)
                  go_roundw
                  case rel => exact ⟨j + 1, by omega, by go_num, HG.out, trivial⟩
                  case measure => simp [intOf]; omega
end Go.Proofs.YtgdlkaoadlipmaaDoor
