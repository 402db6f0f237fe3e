/- Package lex: the tokens of a text in quotes, a number, a name, a sign. (written by tools/gen13/lexb.py) -/
import Derived.Test.YtgdlkaoadlipmaaDoorLexA
import Derived.Test.YtgdlkaoadlipmaaDoorQt5
import Derived.Deep.Cut
namespace Go.Proofs.YtgdlkaoadlipmaaDoor
open Go.RowKit
set_option maxRecDepth 1000000
set_option linter.unusedSimpArgs false

/-- E is an error that was made above S, of a code at a place. -/
def NewErr (S : Nat) (W : World) (E : Value) (c n : Int) : Prop := ∃ b, S ≤ b ∧ E = .iface 66 (.pointer (some ⟨b, 0, none⟩)) ∧ W.cell? ⟨b, 0, none⟩ = some (.int .i64 n) ∧ W.cell? ⟨b, 1, none⟩ = some (.iface 29 (.int .i64 c)) ∧ c ≠ 0 ∧ (-9223372036854775808 ≤ c ∧ c ≤ 9223372036854775807) ∧ (-9223372036854775808 ≤ n ∧ n ≤ 9223372036854775807)
/-- E is no error, with the code 0; or a new one. -/
def ErrN (S : Nat) (W : World) (E : Value) (c n : Int) : Prop := (c = 0 ∧ E = .nilIface) ∨ NewErr S W E c n
theorem errN_ok (S : Nat) (W : World) (n : Int) : ErrN S W .nilIface 0 n := .inl ⟨rfl, rfl⟩
theorem ErrN.v {S : Nat} {W : World} {E : Value} {c n : Int} (h : ErrN S W E c n) : ErrV W E c n := by
  rcases h with h | ⟨b, _, rfl, h1, h2, h3, h4, h5⟩
  · exact .inl h
  · exact .inr ⟨h3, [], .put b n _ _ _ _ (World.block_lt_of_cell? W _ h1) h5 h1 h2 (.code c h4), by simp⟩
theorem ErrN.kept {S : Nat} {W W' : World} {E : Value} {c n : Int} (h : ErrN S W E c n) (hk : ∀ b i v, S ≤ b → W.cell? ⟨b, i, none⟩ = some v → W'.cell? ⟨b, i, none⟩ = some v) : ErrN S W' E c n := by
  rcases h with h | ⟨b, h0, rfl, h1, h2, h3⟩
  · exact .inl h
  · exact .inr ⟨b, h0, rfl, hk _ _ _ h0 h1, hk _ _ _ h0 h2, h3⟩
theorem ErrN.later {S : Nat} {W W' : World} {E : Value} {c n : Int} (h : ErrN S W E c n) (hb : Below W.heap.size W W') : ErrN S W' E c n := h.kept fun _ _ _ _ hv => (hb.cell (World.block_lt_of_cell? W _ hv)).trans hv
theorem ErrN.but {S X : Nat} {W W' : World} {E : Value} {c n : Int} (h : ErrN S W E c n) (k : Only X W W') (hX : X < S) : ErrN S W' E c n := h.kept fun b i v hb hv => k.by_.cell hv (fun e => by simp only [Option.some.injEq] at e; omega)
theorem ErrN.low {S S' : Nat} {W : World} {E : Value} {c n : Int} (h : ErrN S W E c n) (hS : S' ≤ S) : ErrN S' W E c n := by
  rcases h with h | ⟨b, h0, h1⟩
  · exact .inl h
  · exact .inr ⟨b, Nat.le_trans hS h0, h1⟩
theorem lx_fault (c : Int) (n : Nat) (w : World) (h0 : c = 1 ∨ c = 2 ∨ c = 4 ∨ c = 10 ∨ c = 14) (hn : n ≤ 2000000) : Calls Tryd.prog 18 #[.int .i64 c, .int .i64 (n : Int)] w fun e w' => ∃ E, e = .returned E ∧ ErrN w.heap.size w' E c (n : Int) ∧ Below w.heap.size w w' := by
  have h : (c == 0) = false := beq_eq_false_iff_ne.2 (by omega)
  have HC : Hid (c ≠ 0 ∧ (-9223372036854775808 ≤ c ∧ c ≤ 9223372036854775807) ∧ (-9223372036854775808 ≤ (n : Int) ∧ (n : Int) ≤ 9223372036854775807)) := by show _ ∧ _; omega
  clear h0 hn
  go_enter Tryd.func18, Tryd.ntmps18
  go_wp2
  go_ret
  exact ⟨_, rfl, .inr ⟨w.heap.size, Nat.le_refl _, rfl, by simp, by simp, HC.out⟩, Below.newly' _ _⟩
theorem lx_hp0 (s x : ByteArray) (w : World) (_ : s.size ≤ 2000000) (_ : x.size ≤ 2000000) : Calls Tryd.prog 55 #[.string s, .string x] w fun e w' => e = .returned (.bool (x.data.toList.isPrefixOf s.data.toList)) ∧ w = w' := by
  go_enter Tryd.func55, Tryd.ntmps55
  go_wp2
  · go_ret
    refine ⟨ret_b13 ?_, rfl⟩
    rw [ByteArray.toList_eq, ByteArray.toList_eq, pre_take, ext_l, len_bytes, List.drop_zero, Nat.sub_zero]
  · go_ret
    refine ⟨ret_b13 ?_, rfl⟩
    rename_i h
    rw [pre_take, eq_comm, beq_eq_false_iff_ne]
    intro e
    have := congrArg List.length e
    simp at this
    omega
theorem lx_hp (s x : ByteArray) (w : World) (hs : s.size ≤ 2000000) (hx : x.size ≤ 2000000) : Calls Tryd.prog 43 #[.string s, .string x] w fun e w' => e = .returned (.bool (x.data.toList.isPrefixOf s.data.toList)) ∧ w = w' := by
  obtain ⟨b, hb⟩ : ∃ b, b = x.data.toList.isPrefixOf s.data.toList := ⟨_, rfl⟩
  have H := fun W => lx_hp0 s x W hs hx
  rw [← hb] at H ⊢
  replace H := Lib.hid H
  clear hs hx hb
  go_enter Tryd.func43, Tryd.ntmps43
  go_wp2_with (go_at_call 55; refine (H.out _).mono ?_; rintro r V ⟨rfl, rfl⟩)
  go_ret
  exact ⟨rfl, rfl⟩
theorem lx_clone (s : ByteArray) (w : World) (hs : s.size ≤ 2000000) : Calls Tryd.prog 42 #[.string s] w fun e w' => e = .returned (.string s) ∧ Below w.heap.size w w' := by
  have H := Lib.hid (fun W => Tryd.stringslite_Clone s W (by omega))
  clear hs
  go_enter Tryd.func42, Tryd.ntmps42
  go_wp2_with (go_at_call 54; refine (H.out _).mono ?_; rintro r V ⟨rfl, hb⟩; have HB := Lib.hid hb; clear hb)
  go_ret
  exact ⟨rfl, HB.out⟩
theorem drop_x (s : ByteArray) (p : Nat) : (s.extract p s.size).data.toList = s.data.toList.drop p := by rw [ext_l, List.take_of_length_le (by rw [List.length_drop, len_bytes]; exact Nat.le_refl _)]
set_option maxHeartbeats 2000000 in
theorem lx_text (s : ByteArray) (p : Nat) (w : World) (hE : Esc w) (hp : p ≤ s.size) (hs : s.size ≤ 20000) : Calls Tryd.prog 20 #[.string s, .int .i64 (p : Int)] w fun e w' => ∃ E, e = .returned (.tuple #[tokV (txtT s.data.toList p).1, E]) ∧ ErrN w.heap.size w' E (txtT s.data.toList p).2.2 ((txtT s.data.toList p).2.1 : Nat) ∧ Below w.heap.size w w' := by
  have hcd := unquote_code (s.data.toList.drop p)
  have hul := (lx_unquote (s.data.toList.drop p)).1
  rw [List.length_drop, len_bytes] at hul
  have hu := fun W (hb : Below w.heap.size w W) => q_Unquote (s.extract p s.size) W (by simp only [ByteArray.size_extract]; omega) (hE.below hb)
  rw [drop_x] at hu
  obtain ⟨Q, hQ⟩ : ∃ Q, Q = txtT s.data.toList p := ⟨_, rfl⟩
  rw [← hQ]
  unfold txtT at hQ
  obtain ⟨u1, u2, u3, hue⟩ : ∃ u1 u2 u3, unquoteS (s.data.toList.drop p) = (u1, u2, u3) := ⟨_, _, _, rfl⟩
  rw [hue] at hu hcd hul hQ
  dsimp only at hcd hul hQ
  have HU : Hid (∀ W, Below w.heap.size w W → Calls Tryd.prog 40 #[.string (s.extract p s.size)] W fun e w' => e = .returned (.tuple #[.string ⟨u1.toArray⟩, .int .i64 (u2 : Int), .int .i64 u3]) ∧ Below W.heap.size W w') := hu
  have hpu : (p : Int) + (u2 : Int) ≤ s.size := by omega
  have hs' : (s.size : Int) ≤ 20000 := by omega
  clear hu hue hE
  obtain ⟨w1, hw1⟩ : ∃ w1, w1 = w.alloc (.cells (tokC ⟨0, 0, 0, 0, []⟩) 24) := ⟨_, rfl⟩
  have hb1 : Below w.heap.size w w1 := by rw [hw1]; exact Below.newly' _ _
  have hx1 : w1.heap[w.heap.size]? = some (.cells (tokC ⟨0, 0, 0, 0, []⟩) 24 (0, 0)) := by rw [hw1]; exact heap_alloc_last _ _
  have HB1 := Lib.hid hb1
  have HLT : Hid (w.heap.size < w1.heap.size) := (Array.getElem?_eq_some_iff.1 hx1).1
  have HX : Hid (∀ W, Below w1.heap.size w1 W → W.heap[w.heap.size]? = some (.cells (tokC ⟨0, 0, 0, 0, []⟩) 24 (0, 0))) := fun W hb => (hb.block _ (Array.getElem?_eq_some_iff.1 hx1).1).trans hx1
  have HW : Hid (Below w1.heap.size w1 w1) := Below.refl _ _
  clear hb1 hx1
  by_cases hc : u3 = 0
  · subst hc
    rw [if_pos rfl] at hQ
    subst hQ
    go_enter Tryd.func20, Tryd.ntmps20
    go_upto_region 1 with fail
    rw [show w.alloc (.cells #[.int .i64 0, .int .i64 0, .int .i64 0, .int .i64 0, .string ⟨#[]⟩] 24) = w1 from hw1.symm]
    clear hw1
    go_wp2_with (first
      | (go_at_call 40; refine (HU.out _ (HB1.out.trans (HW.out.mono HB1.out.size))).mono ?_; rintro r V ⟨rfl, hb⟩; replace HW := Lib.hid (HW.out.trans (hb.mono HW.out.size)); clear hb)
      | (refine st_agg rfl 24 _ _ rfl w.heap.size (tokC ⟨4, p, p + u2, 0, u1⟩) rfl rfl 24 (tokC ⟨0, 0, 0, 0, []⟩) (HX.out _ HW.out) tok_size rfl (by simp [Value.oneCell', tokC]) ?_; intro w8 h8 k8))
    refine bodyPost_ret (results_cell_row1 rfl _ _ w.heap.size 24 _ (0, 0) _ rfl h8 Tryd.underlying24 rfl tok_size) rfl ?_
    exact ⟨.nilIface, rfl, errN_ok _ _ _, HB1.out.trans ((HW.out.mono HB1.out.size).trans (k8.below (Nat.le_refl _)))⟩
  · have HF := Lib.hid (fun W => lx_fault u3 (p + u2) W (by omega) (by omega))
    have hcb : (u3 == 0) = false := beq_eq_false_iff_ne.2 hc
    rw [if_neg hc] at hQ
    subst hQ
    clear hcd hul
    go_enter Tryd.func20, Tryd.ntmps20
    go_upto_region 1 with fail
    rw [show w.alloc (.cells #[.int .i64 0, .int .i64 0, .int .i64 0, .int .i64 0, .string ⟨#[]⟩] 24) = w1 from hw1.symm]
    clear hw1
    go_wp2_with (first
      | (go_at_call 40; refine (HU.out _ (HB1.out.trans (HW.out.mono HB1.out.size))).mono ?_; rintro r V ⟨rfl, hb⟩; replace HW := Lib.hid (HW.out.trans (hb.mono HW.out.size)); clear hb)
      | (go_at_call 18; have H0 := HW.out.size; refine (HF.out _).mono ?_; rintro r V ⟨E, rfl, he, hb⟩; replace HW := Lib.hid (HW.out.trans (hb.mono HW.out.size)); have HER := Lib.hid he; have HS := Lib.hid H0; clear hb he H0)
      | (refine st_agg rfl 24 _ _ rfl w.heap.size (tokC ⟨0, 0, 0, 0, []⟩) rfl rfl 24 (tokC ⟨0, 0, 0, 0, []⟩) (HX.out _ HW.out) tok_size rfl (by simp [Value.oneCell', tokC]) ?_; intro w8 h8 k8))
    refine bodyPost_ret (results_cell_row1 rfl _ _ w.heap.size 24 _ (0, 0) _ rfl h8 Tryd.underlying24 rfl tok_size) rfl ?_
    exact ⟨E, rfl, (HER.out.but k8 (Nat.lt_of_lt_of_le HLT.out HS.out)).low (Nat.le_trans (Nat.le_of_lt HLT.out) HS.out), HB1.out.trans ((HW.out.mono HB1.out.size).trans (k8.below (Nat.le_refl _)))⟩
set_option maxHeartbeats 2000000 in
theorem lx_number (s : ByteArray) (p k : Nat) (w : World) (hp : p ≤ k) (hk : k ≤ s.size) (hs : s.size ≤ 20000) : Calls Tryd.prog 22 #[.string s, .int .i64 (p : Int), .int .i64 (k : Int)] w fun e w' => ∃ E, e = .returned (.tuple #[tokV (numK s p k).1, E]) ∧ ErrN w.heap.size w' E (numK s p k).2.2 ((numK s p k).2.1 : Nat) ∧ Below w.heap.size w w' := by
  have hcd := parse_code (s.extract p k).data.toList
  have hu := fun W => num_Parse (s.extract p k) W (by unfold maxLen; simp only [ByteArray.size_extract]; omega)
  obtain ⟨Q, hQ⟩ : ∃ Q, Q = numK s p k := ⟨_, rfl⟩
  rw [← hQ]
  unfold numK at hQ
  obtain ⟨u1, u3, hue⟩ : ∃ u1 u3, parseS (s.extract p k).data.toList = (u1, u3) := ⟨_, _, rfl⟩
  rw [hue] at hu hcd hQ
  dsimp only at hcd hQ
  have HU : Hid (∀ W, Calls Tryd.prog 41 #[.string (s.extract p k)] W fun e w' => e = .returned (.tuple #[.int .i64 u1, .int .i64 u3]) ∧ W = w') := hu
  have hp' : (p : Int) ≤ k := by omega
  have hk' : (k : Int) ≤ s.size := by omega
  clear hu hue
  obtain ⟨w1, hw1⟩ : ∃ w1, w1 = w.alloc (.cells (tokC ⟨0, 0, 0, 0, []⟩) 24) := ⟨_, rfl⟩
  have hb1 : Below w.heap.size w w1 := by rw [hw1]; exact Below.newly' _ _
  have hx1 : w1.heap[w.heap.size]? = some (.cells (tokC ⟨0, 0, 0, 0, []⟩) 24 (0, 0)) := by rw [hw1]; exact heap_alloc_last _ _
  have HB1 := Lib.hid hb1
  have HLT : Hid (w.heap.size < w1.heap.size) := (Array.getElem?_eq_some_iff.1 hx1).1
  have HX : Hid (∀ W, Below w1.heap.size w1 W → W.heap[w.heap.size]? = some (.cells (tokC ⟨0, 0, 0, 0, []⟩) 24 (0, 0))) := fun W hb => (hb.block _ (Array.getElem?_eq_some_iff.1 hx1).1).trans hx1
  have HW : Hid (Below w1.heap.size w1 w1) := Below.refl _ _
  clear hb1 hx1
  by_cases hc : u3 = 0
  · subst hc
    rw [if_pos rfl] at hQ
    subst hQ
    go_enter Tryd.func22, Tryd.ntmps22
    go_upto_region 1 with fail
    rw [show w.alloc (.cells #[.int .i64 0, .int .i64 0, .int .i64 0, .int .i64 0, .string ⟨#[]⟩] 24) = w1 from hw1.symm]
    clear hw1
    go_wp2_with (first
      | (go_at_call 41; refine (HU.out _).mono ?_; rintro r V ⟨rfl, rfl⟩)
      | (refine st_agg rfl 24 _ _ rfl w.heap.size (tokC ⟨3, p, k, u1, []⟩) rfl rfl 24 (tokC ⟨0, 0, 0, 0, []⟩) (HX.out _ HW.out) tok_size rfl (by simp [Value.oneCell', tokC]) ?_; intro w8 h8 k8))
    refine bodyPost_ret (results_cell_row1 rfl _ _ w.heap.size 24 _ (0, 0) _ rfl h8 Tryd.underlying24 rfl tok_size) rfl ?_
    exact ⟨.nilIface, rfl, errN_ok _ _ _, HB1.out.trans ((HW.out.mono HB1.out.size).trans (k8.below (Nat.le_refl _)))⟩
  · have HF := Lib.hid (fun W => lx_fault u3 p W (by omega) (by omega))
    have hcb : (u3 == 0) = false := beq_eq_false_iff_ne.2 hc
    rw [if_neg hc] at hQ
    subst hQ
    clear hcd
    go_enter Tryd.func22, Tryd.ntmps22
    go_upto_region 1 with fail
    rw [show w.alloc (.cells #[.int .i64 0, .int .i64 0, .int .i64 0, .int .i64 0, .string ⟨#[]⟩] 24) = w1 from hw1.symm]
    clear hw1
    go_wp2_with (first
      | (go_at_call 41; refine (HU.out _).mono ?_; rintro r V ⟨rfl, rfl⟩)
      | (go_at_call 18; have H0 := HW.out.size; refine (HF.out _).mono ?_; rintro r V ⟨E, rfl, he, hb⟩; replace HW := Lib.hid (HW.out.trans (hb.mono HW.out.size)); have HER := Lib.hid he; have HS := Lib.hid H0; clear hb he H0)
      | (refine st_agg rfl 24 _ _ rfl w.heap.size (tokC ⟨0, 0, 0, 0, []⟩) rfl rfl 24 (tokC ⟨0, 0, 0, 0, []⟩) (HX.out _ HW.out) tok_size rfl (by simp [Value.oneCell', tokC]) ?_; intro w8 h8 k8))
    refine bodyPost_ret (results_cell_row1 rfl _ _ w.heap.size 24 _ (0, 0) _ rfl h8 Tryd.underlying24 rfl tok_size) rfl ?_
    exact ⟨E, rfl, (HER.out.but k8 (Nat.lt_of_lt_of_le HLT.out HS.out)).low (Nat.le_trans (Nat.le_of_lt HLT.out) HS.out), HB1.out.trans ((HW.out.mono HB1.out.size).trans (k8.below (Nat.le_refl _)))⟩
set_option maxHeartbeats 2000000 in
theorem lx_word (s : ByteArray) (p k : Nat) (w : World) (hp : p ≤ k) (hk : k ≤ s.size) (hs : s.size ≤ 20000) : Calls Tryd.prog 24 #[.string s, .int .i64 (p : Int), .int .i64 (k : Int)] w fun e w' => e = .returned (.agg (tokC ⟨2, p, k, 0, (s.extract p k).data.toList⟩)) ∧ Below w.heap.size w w' := by
  have HU := Lib.hid (fun W => lx_clone (s.extract p k) W (by simp only [ByteArray.size_extract]; omega))
  have hp' : (p : Int) ≤ k := by omega
  have hk' : (k : Int) ≤ s.size := by omega
  obtain ⟨w1, hw1⟩ : ∃ w1, w1 = w.alloc (.cells (tokC ⟨0, 0, 0, 0, []⟩) 24) := ⟨_, rfl⟩
  have hb1 : Below w.heap.size w w1 := by rw [hw1]; exact Below.newly' _ _
  have hx1 : w1.heap[w.heap.size]? = some (.cells (tokC ⟨0, 0, 0, 0, []⟩) 24 (0, 0)) := by rw [hw1]; exact heap_alloc_last _ _
  have HB1 := Lib.hid hb1
  have HLT : Hid (w.heap.size < w1.heap.size) := (Array.getElem?_eq_some_iff.1 hx1).1
  have HX : Hid (∀ W, Below w1.heap.size w1 W → W.heap[w.heap.size]? = some (.cells (tokC ⟨0, 0, 0, 0, []⟩) 24 (0, 0))) := fun W hb => (hb.block _ (Array.getElem?_eq_some_iff.1 hx1).1).trans hx1
  have HW : Hid (Below w1.heap.size w1 w1) := Below.refl _ _
  clear hb1 hx1
  go_enter Tryd.func24, Tryd.ntmps24
  go_upto_region 1 with fail
  rw [show w.alloc (.cells #[.int .i64 0, .int .i64 0, .int .i64 0, .int .i64 0, .string ⟨#[]⟩] 24) = w1 from hw1.symm]
  clear hw1
  go_wp2_with (first
    | (go_at_call 42; refine (HU.out _).mono ?_; rintro r V ⟨rfl, hb⟩; replace HW := Lib.hid (HW.out.trans (hb.mono HW.out.size)); clear hb)
    | (refine st_agg rfl 24 _ _ rfl w.heap.size (tokC ⟨2, p, k, 0, (s.extract p k).data.toList⟩) rfl rfl 24 (tokC ⟨0, 0, 0, 0, []⟩) (HX.out _ HW.out) tok_size rfl (by simp [Value.oneCell', tokC]) ?_; intro w8 h8 k8))
  refine bodyPost_ret (results_cell_row rfl _ _ w.heap.size 24 _ (0, 0) _ rfl h8 Tryd.underlying24 rfl tok_size) rfl ?_
  exact ⟨rfl, HB1.out.trans ((HW.out.mono HB1.out.size).trans (k8.below (Nat.le_refl _)))⟩
set_option maxHeartbeats 4000000 in
theorem lx_sign (s : ByteArray) (p : Nat) (w : World) (hT : Sg w) (hp : p ≤ s.size) (hs : s.size ≤ 20000) : Calls Tryd.prog 26 #[.string s, .int .i64 (p : Int)] w fun e w' => ∃ E, e = .returned (.tuple #[tokV (sgnT s.data.toList p).1, E]) ∧ ErrN w.heap.size w' E (sgnT s.data.toList p).2.2 ((sgnT s.data.toList p).2.1 : Nat) ∧ Below w.heap.size w w' := by
  obtain ⟨Q, hQ⟩ : ∃ Q, Q = sgnT s.data.toList p := ⟨_, rfl⟩
  rw [← hQ]
  unfold sgnT at hQ
  have HQ := Lib.hid hQ
  have hs' : (s.size : Int) ≤ 20000 := by omega
  have hp' : (p : Int) ≤ s.size := by omega
  obtain ⟨G, hG⟩ : ∃ G, G = s.extract p s.size := ⟨_, rfl⟩
  have hGl : G.data.toList = s.data.toList.drop p := by rw [hG]; exact drop_x s p
  have hGz : G.size ≤ 20000 := by rw [hG]; simp only [ByteArray.size_extract]; omega
  clear hQ
  obtain ⟨w1, hw1⟩ : ∃ w1, w1 = w.alloc (.cells (tokC ⟨0, 0, 0, 0, []⟩) 24) := ⟨_, rfl⟩
  have hb1 : Below w.heap.size w w1 := by rw [hw1]; exact Below.newly' _ _
  have hx1 : w1.heap[w.heap.size]? = some (.cells (tokC ⟨0, 0, 0, 0, []⟩) 24 (0, 0)) := by rw [hw1]; exact heap_alloc_last _ _
  have HB1 := Lib.hid hb1
  have HLT : Hid (w.heap.size < w1.heap.size) := (Array.getElem?_eq_some_iff.1 hx1).1
  have HX : Hid (∀ W, Below w1.heap.size w1 W → W.heap[w.heap.size]? = some (.cells (tokC ⟨0, 0, 0, 0, []⟩) 24 (0, 0))) := fun W hb => (hb.block _ (Array.getElem?_eq_some_iff.1 hx1).1).trans hx1
  have HW : Hid (Below w1.heap.size w1 w1) := Below.refl _ _
  clear hb1 hx1
  obtain ⟨tt, fr, hg⟩ := (hT.below HB1.out).heap
  have HG := Lib.hid hg
  have HF := Lib.hid (fun W => lx_fault 2 p W (by omega) (by omega))
  clear hT hg
  go_enter Tryd.func26, Tryd.ntmps26
  go_upto_region 1 with fail
  rw [show w.alloc (.cells #[.int .i64 0, .int .i64 0, .int .i64 0, .int .i64 0, .string ⟨#[]⟩] 24) = w1 from hw1.symm]
  clear hw1
  go_wp2_with (refine wpList_load_row rfl 72 _ rfl 0 rfl tt _ fr _ HG.out Tryd.underlying72 rfl sg_size ?_)
  go_loopw [9] (fun i wr => ∃ j : Nat, j ≤ 23 ∧ i = .int .i64 (j : Int) ∧ (∀ t (h : t < signsS.length), t < j → signsS[t].isPrefixOf (s.data.toList.drop p) = false) ∧ wr = w1) (fun i _ => 23 - (intOf i).toNat)
  case atStart => exact ⟨0, by omega, rfl, fun t _ h => absurd h (Nat.not_lt_zero _), rfl⟩
  case round =>
    obtain ⟨j, hj, rfl, hjp, rfl⟩ := hrel
    have HJP := Lib.hid hjp
    clear hjp
    by_cases hjl : j < 23
    case neg =>
      have HE : Hid (Q = (⟨0, 0, 0, 0, []⟩, p, 2)) := by
        have h := HQ.out
        rw [find_no _ _ (fun t ht => HJP.out t ht (by have : signsS.length = 23 := rfl; omega))] at h
        exact h
      have hjl' : ¬ (j : Int) < 23 := by omega
      clear HQ HJP
      go_wp2_with (first
        | (go_at_call 18; have H0 := HW.out.size; refine (HF.out _).mono ?_; rintro r V ⟨E, rfl, he, hb⟩; replace HW := Lib.hid (HW.out.trans (hb.mono HW.out.size)); have HER := Lib.hid he; have HS := Lib.hid H0; clear hb he H0)
        | (refine st_agg rfl 24 _ _ rfl w.heap.size (tokC ⟨0, 0, 0, 0, []⟩) rfl rfl 24 (tokC ⟨0, 0, 0, 0, []⟩) (HX.out _ HW.out) tok_size rfl (by simp [Value.oneCell', tokC]) ?_; intro w8 h8 k8))
      refine bodyPost_ret (results_cell_row1 rfl _ _ w.heap.size 24 _ (0, 0) _ rfl h8 Tryd.underlying24 rfl tok_size) rfl ?_
      exact ⟨E, by rw [HE.out]; rfl, by rw [HE.out]; exact (HER.out.but k8 (Nat.lt_of_lt_of_le HLT.out HS.out)).low (Nat.le_trans (Nat.le_of_lt HLT.out) HS.out), HB1.out.trans ((HW.out.mono HB1.out.size).trans (k8.below (Nat.le_refl _)))⟩
    have hjl' : (j : Int) < 23 := by omega
    have hjs : j < signsS.length := hjl
    have hix := fun W => sg_ix j hjl W
    obtain ⟨X, hX⟩ : ∃ X : ByteArray, X = ⟨(signsS[j]).toArray⟩ := ⟨_, rfl⟩
    rw [← hX] at hix
    have hxl : X.data.toList = signsS[j] := by rw [hX]
    have hx2 : X.size ≤ 2 := by
      have h2 : ∀ y ∈ signsS, y.length ≤ 2 := by decide
      rw [← len_bytes, hxl]; exact h2 _ (List.getElem_mem _)
    have hst := fun W => lx_hp G X W (by omega) (by omega)
    obtain ⟨b, hb⟩ : ∃ b, b = X.data.toList.isPrefixOf G.data.toList := ⟨_, rfl⟩
    rw [← hb] at hst
    have hx2' : (X.size : Int) ≤ 2 := by omega
    rw [hG] at hst
    rw [hGl] at hb
    have HST := Lib.hid hst
    have HBE := Lib.hid hb
    have HXL := Lib.hid hxl
    clear hst hb hxl hX
    cases b with
    | true =>
      have HE : Hid (Q = (⟨1, p, p + X.size, 0, X.data.toList⟩, 0, 0)) := by
        have h := HQ.out
        rw [find_yes _ _ j hjs (fun t ht htj => HJP.out t ht htj) (by rw [← HXL.out]; exact HBE.out.symm), ← HXL.out] at h
        have h2 := h.trans (show _ = ((⟨1, p, p + X.data.toList.length, 0, X.data.toList⟩ : Tok), 0, 0) from rfl)
        rw [len_bytes] at h2
        exact h2
      clear HQ HJP HBE HXL
      go_wp2_with (first
        | (go_at_call 43; refine (HST.out _).mono ?_; rintro r V ⟨rfl, rfl⟩)
        | (refine st_agg rfl 24 _ _ rfl w.heap.size (tokC ⟨1, p, p + X.size, 0, X.data.toList⟩) rfl rfl 24 (tokC ⟨0, 0, 0, 0, []⟩) (HX.out _ HW.out) tok_size rfl (by simp [Value.oneCell', tokC]) ?_; intro w8 h8 k8))
      refine bodyPost_ret (results_cell_row1 rfl _ _ w.heap.size 24 _ (0, 0) _ rfl h8 Tryd.underlying24 rfl tok_size) rfl ?_
      exact ⟨.nilIface, by rw [HE.out]; rfl, by rw [HE.out]; exact errN_ok _ _ _, HB1.out.trans ((HW.out.mono HB1.out.size).trans (k8.below (Nat.le_refl _)))⟩
    | false =>
      have HN : Hid (∀ t (h : t < signsS.length), t < j + 1 → signsS[t].isPrefixOf (s.data.toList.drop p) = false) := fun t ht h1 => by
        rcases Nat.lt_or_ge t j with h2 | h2
        · exact HJP.out t ht h2
        · obtain rfl : t = j := by omega
          rw [← HXL.out]; exact HBE.out.symm
      clear HQ HJP HBE HXL
      go_wp2_with (go_at_call 43; refine (HST.out _).mono ?_; rintro r V ⟨rfl, rfl⟩)
      go_roundw
      case rel => exact ⟨j + 1, by omega, by go_num, HN.out, trivial⟩
      case measure => simp [intOf]; omega
end Go.Proofs.YtgdlkaoadlipmaaDoor
