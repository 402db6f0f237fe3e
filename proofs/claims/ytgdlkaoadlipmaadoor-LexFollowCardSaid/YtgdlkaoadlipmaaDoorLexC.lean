/- Package lex: the token at a place. (written by tools/gen13/lexc.py) -/
import Derived.Test.YtgdlkaoadlipmaaDoorLexB
import Derived.Test.YtgdlkaoadlipmaaDoorLaw13T
namespace Go.Proofs.YtgdlkaoadlipmaaDoor
open Go.RowKit
set_option maxRecDepth 1000000
set_option linter.unusedSimpArgs false

theorem lx_skip (s : ByteArray) (a : Nat) (w : World) (ha : a ≤ s.size) (hs : s.size ≤ 2000000) :
    Calls Tryd.prog 19 #[.string s, .int .i64 (a : Int), .func (.func 16) #[] #[]] w fun e w' => (∃ k : Nat, a ≤ k ∧ k ≤ s.size ∧ e = .returned (.int .i64 (k : Int)) ∧ (∀ j (h : j < s.size), a ≤ j → j < k → blkS s[j] = true) ∧ (k = s.size ∨ ∃ h : k < s.size, blkS s[k] = false)) ∧ w = w' :=
  lx_behind 16 blkS (enters_of Tryd.func16 (by kernel_rfl) rfl) lx_BlankQ s a w ha hs
theorem lx_digs (s : ByteArray) (a : Nat) (w : World) (ha : a ≤ s.size) (hs : s.size ≤ 2000000) :
    Calls Tryd.prog 19 #[.string s, .int .i64 (a : Int), .func (.func 21) #[] #[]] w fun e w' => (∃ k : Nat, a ≤ k ∧ k ≤ s.size ∧ e = .returned (.int .i64 (k : Int)) ∧ (∀ j (h : j < s.size), a ≤ j → j < k → digS s[j] = true) ∧ (k = s.size ∨ ∃ h : k < s.size, digS s[k] = false)) ∧ w = w' :=
  lx_behind 21 digS (enters_of Tryd.func21 (by kernel_rfl) rfl) lx_isDigit s a w ha hs
theorem lx_name (s : ByteArray) (a : Nat) (w : World) (ha : a ≤ s.size) (hs : s.size ≤ 2000000) :
    Calls Tryd.prog 19 #[.string s, .int .i64 (a : Int), .func (.func 25) #[] #[]] w fun e w' => (∃ k : Nat, a ≤ k ∧ k ≤ s.size ∧ e = .returned (.int .i64 (k : Int)) ∧ (∀ j (h : j < s.size), a ≤ j → j < k → nbS s[j] = true) ∧ (k = s.size ∨ ∃ h : k < s.size, nbS s[k] = false)) ∧ w = w' :=
  lx_behind 25 nbS (enters_of Tryd.func25 (by kernel_rfl) rfl) lx_inName s a w ha hs
theorem lx_digs1 (s : ByteArray) (a : Nat) (w : World) (ha : a < s.size) (hd : digS s[a] = true) (hs : s.size ≤ 2000000) :
    Calls Tryd.prog 19 #[.string s, .int .i64 (a : Int), .func (.func 21) #[] #[]] w fun e w' => (∃ k : Nat, a + 1 ≤ k ∧ k ≤ s.size ∧ e = .returned (.int .i64 (k : Int)) ∧ (∀ j (h : j < s.size), a + 1 ≤ j → j < k → digS s[j] = true) ∧ (k = s.size ∨ ∃ h : k < s.size, digS s[k] = false)) ∧ w = w' :=
  (lx_digs s a w (Nat.le_of_lt ha) hs).mono fun _ _ ⟨⟨k, h1, h2, h3, h4, h5⟩, h6⟩ => by
    have hk : a + 1 ≤ k := by
      rcases Nat.lt_or_ge a k with h | h
      · exact h
      · obtain rfl : k = a := by omega
        rcases h5 with e | ⟨_, e⟩
        · omega
        · rw [hd] at e; cases e
    exact ⟨⟨k, hk, h2, h3, fun j h hj => h4 j h (by omega), h5⟩, h6⟩
set_option maxHeartbeats 2000000 in
theorem lx_Next_out (s : ByteArray) (p : Int) (w : World) (hp : p < 0 ∨ (s.size : Int) < p) : Calls Tryd.prog 9 #[.string s, .int .i64 p] w fun e w' => ∃ E, e = .returned (.tuple #[tokV ⟨0, 0, 0, 0, []⟩, E]) ∧ ErrV w' E 1 0 ∧ Below w.heap.size w w' := by
  have HF := Lib.hid (fun W => lx_fault 1 0 W (by omega) (by omega))
  obtain ⟨w1, hw1⟩ : ∃ w1, w1 = w.alloc (.cells (tokC ⟨0, 0, 0, 0, []⟩) 24) := ⟨_, rfl⟩
  have hb1 : Below w.heap.size w w1 := by rw [hw1]; exact Below.newly' _ _
  have hx1 : w1.heap[w.heap.size]? = some (.cells (tokC ⟨0, 0, 0, 0, []⟩) 24 (0, 0)) := by rw [hw1]; exact heap_alloc_last _ _
  have HB1 := Lib.hid hb1
  have HLT : Hid (w.heap.size < w1.heap.size) := (Array.getElem?_eq_some_iff.1 hx1).1
  have HX : Hid (∀ W, Below w1.heap.size w1 W → W.heap[w.heap.size]? = some (.cells (tokC ⟨0, 0, 0, 0, []⟩) 24 (0, 0))) := fun W hb => (hb.block _ (Array.getElem?_eq_some_iff.1 hx1).1).trans hx1
  have HW : Hid (Below w1.heap.size w1 w1) := Below.refl _ _
  clear hb1 hx1
  by_cases hc : p < 0
  · have hd0 : decide (p < 0) = true := decide_eq_true hc
    clear hp hc
    go_enter Tryd.func9, Tryd.ntmps9
    go_upto_region 1 with fail
    rw [show w.alloc (.cells #[.int .i64 0, .int .i64 0, .int .i64 0, .int .i64 0, .string ⟨#[]⟩] 24) = w1 from hw1.symm]
    clear hw1
    go_wp2_with (first
      | (go_at_call 18; have H0 := HW.out.size; refine (HF.out _).mono ?_; rintro r V ⟨E, rfl, he, hb⟩; replace HW := Lib.hid (HW.out.trans (hb.mono HW.out.size)); have HER := Lib.hid he; have HS := Lib.hid H0; clear hb he H0)
      | (refine st_agg rfl 24 _ _ rfl w.heap.size (tokC ⟨0, 0, 0, 0, []⟩) rfl rfl 24 (tokC ⟨0, 0, 0, 0, []⟩) (HX.out _ HW.out) tok_size rfl (by simp [Value.oneCell', tokC]) ?_; intro w8 h8 k8))
    refine bodyPost_ret (results_cell_row1 rfl _ _ w.heap.size 24 _ (0, 0) _ rfl h8 Tryd.underlying24 rfl tok_size) rfl ?_
    exact ⟨E, rfl, (HER.out.but k8 (Nat.lt_of_lt_of_le HLT.out HS.out)).v, HB1.out.trans ((HW.out.mono HB1.out.size).trans (k8.below (Nat.le_refl _)))⟩
  · have hd0 : decide (p < 0) = false := decide_eq_false hc
    have hd1 : (s.size : Int) < p := by omega
    clear hp hc
    go_enter Tryd.func9, Tryd.ntmps9
    go_upto_region 1 with fail
    rw [show w.alloc (.cells #[.int .i64 0, .int .i64 0, .int .i64 0, .int .i64 0, .string ⟨#[]⟩] 24) = w1 from hw1.symm]
    clear hw1
    go_wp2_with (first
      | (go_at_call 18; have H0 := HW.out.size; refine (HF.out _).mono ?_; rintro r V ⟨E, rfl, he, hb⟩; replace HW := Lib.hid (HW.out.trans (hb.mono HW.out.size)); have HER := Lib.hid he; have HS := Lib.hid H0; clear hb he H0)
      | (refine st_agg rfl 24 _ _ rfl w.heap.size (tokC ⟨0, 0, 0, 0, []⟩) rfl rfl 24 (tokC ⟨0, 0, 0, 0, []⟩) (HX.out _ HW.out) tok_size rfl (by simp [Value.oneCell', tokC]) ?_; intro w8 h8 k8))
    refine bodyPost_ret (results_cell_row1 rfl _ _ w.heap.size 24 _ (0, 0) _ rfl h8 Tryd.underlying24 rfl tok_size) rfl ?_
    exact ⟨E, rfl, (HER.out.but k8 (Nat.lt_of_lt_of_le HLT.out HS.out)).v, HB1.out.trans ((HW.out.mono HB1.out.size).trans (k8.below (Nat.le_refl _)))⟩
set_option maxHeartbeats 2000000 in
theorem lx_Next_blank (s : ByteArray) (w : World) (hs : s.size ≤ 2000000) (hb : ∀ i (h : i < s.size), blkS s[i] = true) : Calls Tryd.prog 9 #[.string s, .int .i64 0] w fun e w' => e = .returned (.tuple #[tokV ⟨0, s.size, s.size, 0, []⟩, .nilIface]) ∧ Below w.heap.size w w' := by
  have HSK : Hid (∀ W, Calls Tryd.prog 19 #[.string s, .int .i64 0, .func (.func 16) #[] #[]] W fun e w' => e = .returned (.int .i64 (s.size : Int)) ∧ W = w') := fun W =>
    (lx_skip s 0 W (Nat.zero_le _) hs).mono fun _ _ ⟨⟨k, _, h2, h3, _, h5⟩, h6⟩ => by
      rcases h5 with rfl | ⟨h, e⟩
      · exact ⟨h3, h6⟩
      · rw [hb k h] at e; cases e
  obtain ⟨w1, hw1⟩ : ∃ w1, w1 = w.alloc (.cells (tokC ⟨0, 0, 0, 0, []⟩) 24) := ⟨_, rfl⟩
  have hb1 : Below w.heap.size w w1 := by rw [hw1]; exact Below.newly' _ _
  have hx1 : w1.heap[w.heap.size]? = some (.cells (tokC ⟨0, 0, 0, 0, []⟩) 24 (0, 0)) := by rw [hw1]; exact heap_alloc_last _ _
  have HB1 := Lib.hid hb1
  have HLT : Hid (w.heap.size < w1.heap.size) := (Array.getElem?_eq_some_iff.1 hx1).1
  have HX : Hid (∀ W, Below w1.heap.size w1 W → W.heap[w.heap.size]? = some (.cells (tokC ⟨0, 0, 0, 0, []⟩) 24 (0, 0))) := fun W hb => (hb.block _ (Array.getElem?_eq_some_iff.1 hx1).1).trans hx1
  have HW : Hid (Below w1.heap.size w1 w1) := Below.refl _ _
  clear hb1 hx1
  clear hb
  go_enter Tryd.func9, Tryd.ntmps9
  go_upto_region 1 with fail
  rw [show w.alloc (.cells #[.int .i64 0, .int .i64 0, .int .i64 0, .int .i64 0, .string ⟨#[]⟩] 24) = w1 from hw1.symm]
  clear hw1
  go_wp2_with (first
    | (go_at_call 19; refine (HSK.out _).mono ?_; rintro r V ⟨rfl, rfl⟩)
    | (refine st_agg rfl 24 _ _ rfl w.heap.size (tokC ⟨0, s.size, s.size, 0, []⟩) rfl rfl 24 (tokC ⟨0, 0, 0, 0, []⟩) (HX.out _ HW.out) tok_size rfl (by simp [Value.oneCell', tokC]) ?_; intro w8 h8 k8))
  refine bodyPost_ret (results_cell_row1 rfl _ _ w.heap.size 24 _ (0, 0) _ rfl h8 Tryd.underlying24 rfl tok_size) rfl ?_
  exact ⟨rfl, HB1.out.trans ((HW.out.mono HB1.out.size).trans (k8.below (Nat.le_refl _)))⟩
set_option maxHeartbeats 4000000 in
theorem lx_Next (s : ByteArray) (p : Nat) (w : World) (hT : T13 w) (hp : p ≤ s.size) (hs : s.size ≤ 20000) : Calls Tryd.prog 9 #[.string s, .int .i64 (p : Int)] w fun e w' => ∃ E, e = .returned (.tuple #[tokV (nextS s.data.toList p).1, E]) ∧ ErrV w' E (nextS s.data.toList p).2.2 ((nextS s.data.toList p).2.1 : Nat) ∧ Below w.heap.size w w' := by
  obtain ⟨Q, hQ⟩ : ∃ Q, Q = nextS s.data.toList p := ⟨_, rfl⟩
  rw [← hQ]
  have HQ := Lib.hid hQ
  have HTW := Lib.hid hT
  have HSK : Hid (∀ W, Calls Tryd.prog 19 #[.string s, .int .i64 (p : Int), .func (.func 16) #[] #[]] W fun e w' => (∃ k : Nat, p ≤ k ∧ k ≤ s.size ∧ e = .returned (.int .i64 (k : Int)) ∧ Q = nx s.data.toList k) ∧ W = w') := fun W =>
    (lx_skip s p W hp (by omega)).mono fun _ _ ⟨⟨k, h1, h2, h3, h4, h5⟩, h6⟩ => ⟨⟨k, h1, h2, h3, HQ.out.trans (blk_scan s p k h1 h2 h4 h5)⟩, h6⟩
  obtain ⟨w1, hw1⟩ : ∃ w1, w1 = w.alloc (.cells (tokC ⟨0, 0, 0, 0, []⟩) 24) := ⟨_, rfl⟩
  have hb1 : Below w.heap.size w w1 := by rw [hw1]; exact Below.newly' _ _
  have hx1 : w1.heap[w.heap.size]? = some (.cells (tokC ⟨0, 0, 0, 0, []⟩) 24 (0, 0)) := by rw [hw1]; exact heap_alloc_last _ _
  have HB1 := Lib.hid hb1
  have HLT : Hid (w.heap.size < w1.heap.size) := (Array.getElem?_eq_some_iff.1 hx1).1
  have HX : Hid (∀ W, Below w1.heap.size w1 W → W.heap[w.heap.size]? = some (.cells (tokC ⟨0, 0, 0, 0, []⟩) 24 (0, 0))) := fun W hb => (hb.block _ (Array.getElem?_eq_some_iff.1 hx1).1).trans hx1
  have HW : Hid (Below w1.heap.size w1 w1) := Below.refl _ _
  clear hb1 hx1
  clear hQ hT HQ
  have hd0 : decide ((p : Int) < 0) = false := decide_eq_false (by omega)
  have hd1 : decide (s.size < p) = false := decide_eq_false (by omega)
  go_enter Tryd.func9, Tryd.ntmps9
  go_upto_region 1 with fail
  rw [show w.alloc (.cells #[.int .i64 0, .int .i64 0, .int .i64 0, .int .i64 0, .string ⟨#[]⟩] 24) = w1 from hw1.symm]
  clear hw1
  go_upto_region 4 with (go_at_call 19; refine (HSK.out _).mono ?_; rintro r V ⟨⟨k, hk0, hk1, rfl, hq⟩, rfl⟩)
  have HQ := Lib.hid hq
  clear hq hd0 hd1 HSK
  by_cases hlt : k < s.size
  case neg =>
    obtain rfl : k = s.size := by omega
    have HE : Hid (Q = (⟨0, s.size, s.size, 0, []⟩, 0, 0)) := HQ.out.trans (nx_end _ _ (by rw [len_bytes]; exact Nat.le_refl _))
    clear HQ
    go_wp2_with ((refine st_agg rfl 24 _ _ rfl w.heap.size (tokC ⟨0, s.size, s.size, 0, []⟩) rfl rfl 24 (tokC ⟨0, 0, 0, 0, []⟩) (HX.out _ HW.out) tok_size rfl (by simp [Value.oneCell', tokC]) ?_; intro w8 h8 k8))
    refine bodyPost_ret (results_cell_row1 rfl _ _ w.heap.size 24 _ (0, 0) _ rfl h8 Tryd.underlying24 rfl tok_size) rfl ?_
    exact ⟨.nilIface, by rw [HE.out]; rfl, by rw [HE.out]; exact errV_ok _ _, HB1.out.trans ((HW.out.mono HB1.out.size).trans (k8.below (Nat.le_refl _)))⟩
  have hlt' : (k : Int) < s.size := by omega
  have hs' : (s.size : Int) ≤ 20000 := by omega
  have g1 : ((k : Int) == (s.size : Int)) = false := beq_eq_false_iff_ne.2 (by omega)
  go_upto_region 8 with fail
  clear g1
  by_cases c1 : (s[k].toNat : Int) = 34
  case pos =>
    have hte := fun W (hb : Below w1.heap.size w1 W) => lx_text s k W ((HTW.out.below (HB1.out.trans (hb.mono HB1.out.size))).1) hk1 hs
    obtain ⟨q, hq⟩ : ∃ q, q = txtT s.data.toList k := ⟨_, rfl⟩
    have HE : Hid (Q = q) := HQ.out.trans ((nx_text s k hlt (by omega)).trans hq.symm)
    rw [← hq] at hte
    clear hq HQ
    obtain ⟨⟨tk, ta, te, tn, tt⟩, qn, qe⟩ := q
    have HTE : Hid (∀ W, Below w1.heap.size w1 W → Calls Tryd.prog 20 #[.string s, .int .i64 (k : Int)] W fun e w' => ∃ E, e = .returned (.tuple #[.agg (tokC ⟨tk, ta, te, tn, tt⟩), E]) ∧ ErrN W.heap.size w' E qe (qn : Nat) ∧ Below W.heap.size W w') := hte
    clear hte
    go_wp2_with (first
      | (go_at_call 20; have H0 := HW.out.size; refine (HTE.out _ HW.out).mono ?_; rintro r V ⟨E, rfl, he, hb⟩; replace HW := Lib.hid (HW.out.trans (hb.mono HW.out.size)); have HER := Lib.hid he; have HS := Lib.hid H0; clear hb he H0)
      | (refine st_agg rfl 24 _ _ rfl w.heap.size (tokC ⟨tk, ta, te, tn, tt⟩) rfl rfl 24 (tokC ⟨0, 0, 0, 0, []⟩) (HX.out _ HW.out) tok_size rfl (by simp [Value.oneCell', tokC]) ?_; intro w8 h8 k8))
    refine bodyPost_ret (results_cell_row1 rfl _ _ w.heap.size 24 _ (0, 0) _ rfl h8 Tryd.underlying24 rfl tok_size) rfl ?_
    exact ⟨E, by rw [HE.out]; rfl, by rw [HE.out]; exact (HER.out.but k8 (Nat.lt_of_lt_of_le HLT.out HS.out)).v, HB1.out.trans ((HW.out.mono HB1.out.size).trans (k8.below (Nat.le_refl _)))⟩
  have g2 : ((s[k].toNat : Int) == 34) = false := beq_eq_false_iff_ne.2 c1
  by_cases c2 : (s[k].toNat : Int) = 45
  case pos =>
    have HDG := Lib.hid (fun W => lx_digs s (k + 1) W (by omega) (by omega))
    have HNU := Lib.hid (fun m W (h1 : k + 1 ≤ m) (h2 : m ≤ s.size) => lx_number s k m W (by omega) h2 hs)
    have HNX := Lib.hid (fun m (h1 : k + 1 ≤ m) (h2 : m ≤ s.size) h3 h4 => HQ.out.trans ((nx_num s k hlt (by omega) (.inl (by omega))).trans (num_at s k m hlt h1 h2 h3 h4)))
    clear HQ
    have g3 : IntKind.i64.wrap ((k : Int) + 1) = ((k + 1 : Nat) : Int) := by rw [IntKind.wrap_i64] <;> omega
    go_wp2_with (first
      | (go_at_call 19; refine (HDG.out _).mono ?_; rintro r V ⟨⟨m, hm1, hm2, rfl, hm3, hm4⟩, rfl⟩; have HE := Lib.hid (HNX.out m hm1 hm2 hm3 hm4); have HN := Lib.hid (fun W => HNU.out m W hm1 hm2); clear hm3 hm4 HNX HNU; generalize numK s k m = q at HE HN; obtain ⟨⟨tk, ta, te, tn, tt⟩, qn, qe⟩ := q)
      | (go_at_call 22; have H0 := HW.out.size; refine (HN.out _).mono ?_; rintro r V ⟨E, rfl, he, hb⟩; replace HW := Lib.hid (HW.out.trans (hb.mono HW.out.size)); have HER := Lib.hid he; have HS := Lib.hid H0; clear hb he H0)
      | (refine st_agg rfl 24 _ _ rfl w.heap.size (tokC ⟨tk, ta, te, tn, tt⟩) rfl rfl 24 (tokC ⟨0, 0, 0, 0, []⟩) (HX.out _ HW.out) tok_size rfl (by simp [Value.oneCell', tokC]) ?_; intro w8 h8 k8))
    refine bodyPost_ret (results_cell_row1 rfl _ _ w.heap.size 24 _ (0, 0) _ rfl h8 Tryd.underlying24 rfl tok_size) rfl ?_
    exact ⟨E, by rw [HE.out]; rfl, by rw [HE.out]; exact (HER.out.but k8 (Nat.lt_of_lt_of_le HLT.out HS.out)).v, HB1.out.trans ((HW.out.mono HB1.out.size).trans (k8.below (Nat.le_refl _)))⟩
  have g3 : ((s[k].toNat : Int) == 45) = false := beq_eq_false_iff_ne.2 c2
  obtain ⟨dg, hdg⟩ : ∃ d, d = digS s[k] := ⟨_, rfl⟩
  have HID := fun W => lx_isDigit s[k] W
  rw [← hdg] at HID
  replace HID := Lib.hid HID
  cases dg with
  | true =>
    have HDG := Lib.hid (fun W => lx_digs1 s k W hlt hdg.symm (by omega))
    have HNU := Lib.hid (fun m W (h1 : k + 1 ≤ m) (h2 : m ≤ s.size) => lx_number s k m W (by omega) h2 hs)
    have HNX := Lib.hid (fun m (h1 : k + 1 ≤ m) (h2 : m ≤ s.size) h3 h4 => HQ.out.trans ((nx_num s k hlt (by omega) (.inr hdg.symm)).trans (num_at s k m hlt h1 h2 h3 h4)))
    clear HQ hdg
    go_wp2_with (first
      | (go_at_call 21; refine (HID.out _).mono ?_; rintro r V ⟨rfl, rfl⟩)
      | (go_at_call 19; refine (HDG.out _).mono ?_; rintro r V ⟨⟨m, hm1, hm2, rfl, hm3, hm4⟩, rfl⟩; have HE := Lib.hid (HNX.out m hm1 hm2 hm3 hm4); have HN := Lib.hid (fun W => HNU.out m W hm1 hm2); clear hm3 hm4 HNX HNU; generalize numK s k m = q at HE HN; obtain ⟨⟨tk, ta, te, tn, tt⟩, qn, qe⟩ := q)
      | (go_at_call 22; have H0 := HW.out.size; refine (HN.out _).mono ?_; rintro r V ⟨E, rfl, he, hb⟩; replace HW := Lib.hid (HW.out.trans (hb.mono HW.out.size)); have HER := Lib.hid he; have HS := Lib.hid H0; clear hb he H0)
      | (refine st_agg rfl 24 _ _ rfl w.heap.size (tokC ⟨tk, ta, te, tn, tt⟩) rfl rfl 24 (tokC ⟨0, 0, 0, 0, []⟩) (HX.out _ HW.out) tok_size rfl (by simp [Value.oneCell', tokC]) ?_; intro w8 h8 k8))
    refine bodyPost_ret (results_cell_row1 rfl _ _ w.heap.size 24 _ (0, 0) _ rfl h8 Tryd.underlying24 rfl tok_size) rfl ?_
    exact ⟨E, by rw [HE.out]; rfl, by rw [HE.out]; exact (HER.out.but k8 (Nat.lt_of_lt_of_le HLT.out HS.out)).v, HB1.out.trans ((HW.out.mono HB1.out.size).trans (k8.below (Nat.le_refl _)))⟩
  | false =>
    have HND : Hid (¬ (s[k].toNat = 45 ∨ digS s[k] = true)) := fun h => h.elim (by omega) (fun h => by rw [← hdg] at h; cases h)
    clear hdg
    obtain ⟨lt, hl⟩ : ∃ b, b = letS s[k] := ⟨_, rfl⟩
    have HIL := fun W => lx_beginsName s[k] W
    rw [← hl] at HIL
    replace HIL := Lib.hid HIL
    cases lt with
    | true =>
      have HNM := Lib.hid (fun W => lx_name s k W hk1 (by omega))
      have HWD := Lib.hid (fun m W (h1 : k ≤ m) (h2 : m ≤ s.size) => lx_word s k m W h1 h2 hs)
      have HNX := Lib.hid (fun m (h1 : k ≤ m) (h2 : m ≤ s.size) h3 h4 => HQ.out.trans (nx_word s k m hlt hl.symm h1 h2 h3 h4).2)
      clear HQ hl HND
      go_wp2_with (first
        | (go_at_call 21; refine (HID.out _).mono ?_; rintro r V ⟨rfl, rfl⟩)
        | (go_at_call 23; refine (HIL.out _).mono ?_; rintro r V ⟨rfl, rfl⟩)
        | (go_at_call 19; refine (HNM.out _).mono ?_; rintro r V ⟨⟨m, hm1, hm2, rfl, hm3, hm4⟩, rfl⟩; have HE := Lib.hid (HNX.out m hm1 hm2 hm3 hm4); have HN := Lib.hid (fun W => HWD.out m W hm1 hm2); clear hm3 hm4 HNX HWD; generalize (s.extract k m).data.toList = tt at HE HN)
        | (go_at_call 24; refine (HN.out _).mono ?_; rintro r V ⟨rfl, hb⟩; replace HW := Lib.hid (HW.out.trans (hb.mono HW.out.size)); clear hb)
        | (refine st_agg rfl 24 _ _ rfl w.heap.size (tokC ⟨2, k, m, 0, tt⟩) rfl rfl 24 (tokC ⟨0, 0, 0, 0, []⟩) (HX.out _ HW.out) tok_size rfl (by simp [Value.oneCell', tokC]) ?_; intro w8 h8 k8))
      refine bodyPost_ret (results_cell_row1 rfl _ _ w.heap.size 24 _ (0, 0) _ rfl h8 Tryd.underlying24 rfl tok_size) rfl ?_
      exact ⟨.nilIface, by rw [HE.out]; rfl, by rw [HE.out]; exact errV_ok _ _, HB1.out.trans ((HW.out.mono HB1.out.size).trans (k8.below (Nat.le_refl _)))⟩
    | false =>
      have hsg := fun W (hb : Below w1.heap.size w1 W) => lx_sign s k W ((HTW.out.below (HB1.out.trans (hb.mono HB1.out.size))).sg) hk1 hs
      obtain ⟨q, hq⟩ : ∃ q, q = sgnT s.data.toList k := ⟨_, rfl⟩
      have HE : Hid (Q = q) := HQ.out.trans ((nx_sign s k hlt (by omega) HND.out hl.symm).trans hq.symm)
      rw [← hq] at hsg
      clear hq HQ hl
      obtain ⟨⟨tk, ta, te, tn, tt⟩, qn, qe⟩ := q
      have HSG : Hid (∀ W, Below w1.heap.size w1 W → Calls Tryd.prog 26 #[.string s, .int .i64 (k : Int)] W fun e w' => ∃ E, e = .returned (.tuple #[.agg (tokC ⟨tk, ta, te, tn, tt⟩), E]) ∧ ErrN W.heap.size w' E qe (qn : Nat) ∧ Below W.heap.size W w') := hsg
      clear hsg
      go_wp2_with (first
        | (go_at_call 21; refine (HID.out _).mono ?_; rintro r V ⟨rfl, rfl⟩)
        | (go_at_call 23; refine (HIL.out _).mono ?_; rintro r V ⟨rfl, rfl⟩)
        | (go_at_call 26; have H0 := HW.out.size; refine (HSG.out _ HW.out).mono ?_; rintro r V ⟨E, rfl, he, hb⟩; replace HW := Lib.hid (HW.out.trans (hb.mono HW.out.size)); have HER := Lib.hid he; have HS := Lib.hid H0; clear hb he H0)
        | (refine st_agg rfl 24 _ _ rfl w.heap.size (tokC ⟨tk, ta, te, tn, tt⟩) rfl rfl 24 (tokC ⟨0, 0, 0, 0, []⟩) (HX.out _ HW.out) tok_size rfl (by simp [Value.oneCell', tokC]) ?_; intro w8 h8 k8))
      refine bodyPost_ret (results_cell_row1 rfl _ _ w.heap.size 24 _ (0, 0) _ rfl h8 Tryd.underlying24 rfl tok_size) rfl ?_
      exact ⟨E, by rw [HE.out]; rfl, by rw [HE.out]; exact (HER.out.but k8 (Nat.lt_of_lt_of_le HLT.out HS.out)).v, HB1.out.trans ((HW.out.mono HB1.out.size).trans (k8.below (Nat.le_refl _)))⟩
end Go.Proofs.YtgdlkaoadlipmaaDoor
