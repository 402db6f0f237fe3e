/- Layer 8: the document's own answers: Join, Insert, Remove, Slice. (written by tools/gen08/ref08.py) -/
import Derived.Test.YtldemoflgahdgaaRef07
import Derived.Test.YtldemoflgahdgaaRef01Walks
import Derived.Test.YtldemoflgahdgaaRp17
namespace Go.Proofs.Ytldemoflgahdgaa
open Go.RowKit
set_option maxRecDepth 1000000
set_option linter.unusedSimpArgs false

/-- v reads as these numbers, anywhere in a block of the kind S, or is nil. -/
def CutI (S : Nat → Prop) (W : World) (v : Value) (l : List Int) : Prop := CutAt S W 1 v (iv l) l.length
section
variable {S S' : Nat → Prop} {W W' : World} {v : Value} {l : List Int}
theorem CutI.later (h : CutI S W v l) (hb : Below W.heap.size W W') : CutI S W' v l := CutAt.later h hb
theorem CutI.any (h : CutI S W v l) : CutI (fun _ => True) W v l := CutAt.weak h fun _ _ => trivial
theorem CutI.shape (h : CutI S W v l) : ∃ a c, v = .slice a l.length c ∧ l.length ≤ c := CutAt.shape h
theorem Owns.cutI {B : Nat} (h : Owns B v l W) : CutI (fun _ => True) W v l := CutAt.weak (ownsRow_cut h.1) fun _ _ => trivial
theorem Lst.cutI (h : Lst S W v l) : CutI (fun _ => True) W v l := by
  obtain ⟨a, c, h1, h2, h3⟩ := h
  refine ⟨a, c, h1, h2, by rw [iv_len, Nat.mul_one], ?_⟩
  rcases h3 with ⟨rfl, rfl, rfl⟩ | ⟨g, cs, fr, rfl, hS, hg, hc⟩
  · exact .inl ⟨rfl, rfl⟩
  · refine .inr ⟨g, 0, rfl, trivial, (Array.getElem?_eq_some_iff.1 hg).1, fun j u hu => ?_⟩
    have hj := (List.getElem?_eq_some_iff.1 hu).1
    rw [iv_len] at hj
    rw [iv_at _ _ hj] at hu
    rw [Nat.zero_add, ← hu]
    exact cell_in hg (hc j hj)
theorem cutI_h (h : CutI S W v l) {k : Nat} (hk : k ≤ l.length) : ∃ a c, CutI S W (.slice a k c) (l.take k) ∧ ∀ w, (Instr.slice 31 v none (some (.int .i64 (k : Int))) none).run Try.prog w = .ok (.slice a k c) w := by
  obtain ⟨a, c, h1, h2⟩ := cut_h 31 tl_sl tl_size h (hi := k) hk
  rw [Nat.mul_one, iv, ← List.map_take] at h1
  refine ⟨a, c, ?_, h2⟩
  show CutAt _ _ _ _ _ _
  rwa [show (l.take k).length = k by rw [List.length_take]; omega]
theorem cutI_l (h : CutI S W v l) {k : Nat} (hk : k ≤ l.length) : ∃ a c, CutI S W (.slice a (l.length - k) c) (l.drop k) ∧ ∀ w, (Instr.slice 31 v (some (.int .i64 (k : Int))) none none).run Try.prog w = .ok (.slice a (l.length - k) c) w := by
  obtain ⟨a, c, h1, h2⟩ := cut_l 31 tl_sl tl_size h (lo := k) hk
  rw [Nat.mul_one, iv, ← List.map_drop] at h1
  refine ⟨a, c, ?_, h2⟩
  show CutAt _ _ _ _ _ _
  rwa [show (l.drop k).length = l.length - k by rw [List.length_drop]]
theorem cutI_lh (h : CutI S W v l) {lo hi : Nat} (h1 : lo ≤ hi) (h2 : hi ≤ l.length) : ∃ a c, CutI S W (.slice a (hi - lo) c) (pieceL l lo hi) ∧ ∀ w, (Instr.slice 31 v (some (.int .i64 (lo : Int))) (some (.int .i64 (hi : Int))) none).run Try.prog w = .ok (.slice a (hi - lo) c) w := by
  obtain ⟨a, c, h3, h4⟩ := cut_lh 31 tl_sl tl_size h (lo := lo) (hi := hi) h1 h2
  rw [Nat.mul_one, Nat.mul_one, iv, ← List.map_take, ← List.map_drop] at h3
  refine ⟨a, c, ?_, h4⟩
  show CutAt _ _ _ _ _ _
  rwa [show (pieceL l lo hi).length = hi - lo from piece_len h2]
end
theorem cutI_lit {w : World} (cs : Array Value) (l : List Int) (hc : cs = (iv l).toArray) {n : Nat} (hn : n = l.length) : CutI (fun _ => True) (w.alloc (.cells cs 3)) (.slice (some ⟨w.heap.size, 0, none⟩) n n) l := by
  subst hn hc
  refine ⟨_, _, rfl, Nat.le_refl _, by rw [iv_len, Nat.mul_one], .inr ⟨_, 0, rfl, trivial, by simp, fun j u hu => ?_⟩⟩
  rw [Nat.zero_add]
  exact cell_in (heap_alloc_last w _) (by rwa [List.getElem?_toArray])
theorem owns_mono {B B' : Nat} {v : Value} {l : List Int} {w : World} (h : Owns B' v l w) (hB : B ≤ B') : Owns B v l w := by
  obtain ⟨⟨h1, h2⟩, h3⟩ := h
  refine ⟨⟨h1, h2.imp_right ?_⟩, Nat.le_trans hB h3⟩
  rintro ⟨g, cap, cur, e, hb, r⟩
  exact ⟨g, cap, cur, e, Nat.le_trans hB hb, r⟩
/-- 'append(own, list..)', whatever list. -/
theorem owns_append_cut {ops : Array Oper} {rest : List Oper} {o : Oper} {a : Act} {Q : Exit → Act → World → Prop} {w : World} {S : Nat → Prop} (hgd : o.guard = none) (s x : Operand)
    (ho : o.op = .call { callee := .builtin .append, args := #[s, x], argTypes := #[31, 31] }) {B : Nat} {v y : Value} {l r : List Int} (hs : a.eval s = v) (hb : Owns B v l w) (hx : a.eval x = y) (hc : CutI S w y r) (hlen : l.length + r.length ≤ 2000000)
    (h : ∀ v' w', Owns B v' (l ++ r) w' → Below B w w' → wpList Try.prog ops Q rest (a.put o.dst v') w') : wpList Try.prog ops Q (o :: rest) a w := by
  obtain ⟨i, hi, hz, h1, h2⟩ := info_parts int_info
  refine wpList_append_cut hgd s x 31 ho B 3 i (.int .i64 0) 8 Try.underlying31 hi hz h1 h2 rfl (by decide) hs hb.1 hx hc iv_one (by unfold maxLen; omega) (by omega) hb.2 fun v' w' h3 h4 => ?_
  exact h v' w' ⟨by rw [List.length_append, iv_app]; exact h3, Nat.le_trans hb.2 h4.size⟩ (below_of_grown h4 hb.2 (ownsRow_low hb.1))
set_option maxHeartbeats 1000000 in
theorem ref_CopiedC {S : Nat → Prop} (v : Value) (l : List Int) (w : World) (hl : CutI S w v l) (hlen : l.length ≤ 1000000) : Calls Try.prog 44 #[v] w fun e w' => ∃ v', e = .returned v' ∧ Owns w.heap.size v' l w' ∧ Below w.heap.size w w' := by
  have HL := Lib.hid hl
  obtain ⟨a, c, rfl, _⟩ := hl.shape
  have HI0 : Hid (Owns w.heap.size (.slice (some ⟨w.heap.size, 0, none⟩) 0 0) [] (w.alloc (.cells #[] 3))) := Owns.lit (Nat.le_refl _) #[] [] rfl (by simp)
  have HLEN := Lib.hid hlen
  clear hl hlen
  go_enter Try.func44, Try.ntmps44
  go_wp2_with (refine owns_append_cut rfl _ _ rfl rfl HI0.out rfl (HL.out.later (Below.newly' _ _)) (by have := HLEN.out; simp; omega) ?_; intro v6 w6 hi6 hb6; have HI6 := Lib.hid hi6; have HB6 := Lib.hid hb6; clear hi6 hb6)
  go_ret
  exact ⟨_, rfl, by simpa using HI6.out, (Below.newly' _ _).trans HB6.out⟩
set_option maxHeartbeats 1000000 in
theorem ref_Join {S S' : Nat → Prop} (va vb : Value) (la lb : List Int) (w : World) (ha : CutI S w va la) (hb : CutI S' w vb lb) (hla : la.length ≤ 1000000) (hlb : lb.length ≤ 1000000) : Calls Try.prog 27 #[va, vb] w fun e w' => ∃ v', e = .returned v' ∧ Owns w.heap.size v' (la ++ lb) w' ∧ Below w.heap.size w w' := by
  have HC := Lib.hid (ref_CopiedC va la w ha hla)
  have HB := Lib.hid hb
  obtain ⟨a, c, rfl, _⟩ := ha.shape
  obtain ⟨a', c', rfl, _⟩ := hb.shape
  have HLEN := Lib.hid (And.intro hla hlb)
  clear ha hb hla hlb
  go_enter Try.func27, Try.ntmps27
  go_wp2_with (first
    | (go_at_call 44; refine HC.out.mono ?_; rintro e w1 ⟨v1, rfl, hi1, hb1⟩; have HI1 := Lib.hid hi1; have HB1 := Lib.hid hb1; clear hi1 hb1)
    | (refine owns_append_cut rfl _ _ rfl rfl HI1.out rfl (HB.out.later HB1.out) (by have := HLEN.out; omega) ?_; intro v6 w6 hi6 hb6; have HI6 := Lib.hid hi6; have HB6 := Lib.hid hb6; clear hi6 hb6))
  go_ret
  exact ⟨_, rfl, HI6.out, HB1.out.trans HB6.out⟩
set_option maxHeartbeats 2000000 in
theorem ref_Insert {S : Nat → Prop} (v : Value) (l : List Int) (i : Nat) (x : Int) (W : World) (hl : CutI S W v l) (hi : i ≤ l.length) (hlen : l.length ≤ 900000) : Calls Try.prog 39 #[v, .int .i64 (i : Int), .int .i64 x] W fun e w' => ∃ v', e = .returned (.tuple #[v', .int .i64 0]) ∧ Owns W.heap.size v' (insL l i x) w' ∧ Below W.heap.size W w' := by
  obtain ⟨a, c, rfl, _⟩ := hl.shape
  obtain ⟨a1, c1, hc1, hr1⟩ := cutI_h hl hi
  obtain ⟨a2, c2, hc2, hr2⟩ := cutI_l hl hi
  have HC1 := Lib.hid hc1
  have HC2 := Lib.hid hc2
  have HL := Lib.hid (And.intro hi hlen)
  have hle : ¬ ((l.length : Int) < (i : Int)) := by omega
  clear hl hc1 hc2 hi hlen
  obtain ⟨w1, hw1⟩ : ∃ w1, w1 = W.drew := ⟨_, rfl⟩
  have HB1 : Hid (Below W.heap.size W w1) := by show Below _ _ _; rw [hw1]; exact drawn_below W
  go_enter Try.func39, Try.ntmps39
  go_upto_region 3 with fail
  refine wp_region_T (S := fun _ => True) [10, 11] (by kernel_rfl) (by trivial) (fun hHeld => ?_)
  rw [← hw1]
  clear hw1
  refine wpAnyT_take (i := 0) (oi := ⟨some 16, _, _, _, _, _⟩) (v := ?vg1_0) rfl (by kernel_rfl) (by kernel_rfl) (by kernel_rfl) (by kernel_rfl) (fun _ _ _ h => h) (Or.inl ⟨by rfl, ?hg1_0⟩) (by assumption) ?rg1_0
  case hg1_0 => (intro w hSw; (try dsimp only at hSw); first | (go_simp; done) | (go_simp; with_reducible rfl))
  (try simp only [Act.put, List.setIfInBounds_toArray, List.set_cons_zero, List.set_cons_succ])
  refine wpAnyT_take (i := 1) (oi := ⟨some 17, _, _, _, _, _⟩) (v := ?vg1_1) rfl (by kernel_rfl) (by kernel_rfl) (by kernel_rfl) (by kernel_rfl) (fun _ _ _ h => h) (Or.inl ⟨by rfl, ?hg1_1⟩) (by assumption) ?rg1_1
  case hg1_1 => (intro w hSw; (try dsimp only at hSw); first | (go_simp; done) | (go_simp; with_reducible rfl))
  (try simp only [Act.put, List.setIfInBounds_toArray, List.set_cons_zero, List.set_cons_succ])
  refine wpAnyT_take (i := 2) (oi := ⟨some 18, _, _, _, _, _⟩) (v := ?vg1_2) rfl (by kernel_rfl) (by kernel_rfl) (by kernel_rfl) (by kernel_rfl) (fun _ _ _ h => h) (Or.inl ⟨by rfl, ?hg1_2⟩) (by assumption) ?rg1_2
  case hg1_2 => (intro w hSw; (try dsimp only at hSw); first | (go_simp; done) | (go_simp; with_reducible rfl))
  (try simp only [Act.put, List.setIfInBounds_toArray, List.set_cons_zero, List.set_cons_succ])
  refine wpAnyT_take (i := 3) (oi := ⟨some 19, _, _, _, _, _⟩) (v := ?vg1_3) rfl (by kernel_rfl) (by kernel_rfl) (by kernel_rfl) (by kernel_rfl) (fun _ _ _ h => h) (Or.inl ⟨by rfl, ?hg1_3⟩) (by assumption) ?rg1_3
  case hg1_3 => (intro w hSw; (try dsimp only at hSw); first | (go_simp; done) | (go_simp; with_reducible rfl))
  (try simp only [Act.put, List.setIfInBounds_toArray, List.set_cons_zero, List.set_cons_succ])
  refine wpAnyT_take (i := 6) (oi := ⟨some 22, _, _, _, _, _⟩) (v := ?vg1_6) rfl (by kernel_rfl) (by kernel_rfl) (by kernel_rfl) (by kernel_rfl) (fun _ _ _ h => h) (Or.inl ⟨by rfl, ?hg1_6⟩) (by assumption) ?rg1_6
  case hg1_6 => (intro w hSw; (try dsimp only at hSw); first | (go_simp; done) | (go_simp; with_reducible rfl))
  (try simp only [Act.put, List.setIfInBounds_toArray, List.set_cons_zero, List.set_cons_succ])
  refine wpAnyT_take (i := 7) (oi := ⟨some 23, _, _, _, _, _⟩) (v := ?vg1_7) rfl (by kernel_rfl) (by kernel_rfl) (by kernel_rfl) (by kernel_rfl) (fun _ _ _ h => h) (Or.inl ⟨by rfl, ?hg1_7⟩) (by assumption) ?rg1_7
  case hg1_7 => (intro w hSw; (try dsimp only at hSw); first | (go_simp; done) | (go_simp; with_reducible rfl))
  (try simp only [Act.put, List.setIfInBounds_toArray, List.set_cons_zero, List.set_cons_succ])
  refine wpAnyT_take (i := 8) (oi := ⟨some 24, _, _, _, _, _⟩) (v := ?vg1_8) rfl (by kernel_rfl) (by kernel_rfl) (by kernel_rfl) (by kernel_rfl) (fun _ _ _ h => h) (Or.inl ⟨by rfl, ?hg1_8⟩) (by assumption) ?rg1_8
  case hg1_8 => (intro w hSw; (try dsimp only at hSw); first | (go_simp; done) | (go_simp; with_reducible rfl))
  (try simp only [Act.put, List.setIfInBounds_toArray, List.set_cons_zero, List.set_cons_succ])
  refine wpAnyT_one (i := 4) (o := ⟨some 20, _, _, _, _, _⟩) (by kernel_rfl) rfl (fun K hK => ?_)
  go_simp
  obtain ⟨G, hG⟩ : ∃ G, G = w1.heap.size := ⟨_, rfl⟩
  obtain ⟨w4, hw4⟩ : ∃ w4, w4 = w1.alloc (.cells #[.int .i64 x] 3) := ⟨_, rfl⟩
  have HB4 : Hid (Below W.heap.size W w4) := by show Below _ _ _; rw [hw4]; exact HB1.out.trans ((Below.newly' _ _).mono HB1.out.size)
  have HX4 : Hid (CutI (fun _ => True) w4 (.slice (some ⟨G, 0, none⟩) 1 1) [x]) := by show CutI _ _ _ _; rw [hw4, hG]; exact cutI_lit _ [x] rfl rfl
  rw [← hG, ← hw4]
  clear hG hw4
  (try dsimp only)
  refine hK.out _ _ (by trivial) (fun hHeld => ?_)
  clear hK K
  (try simp only [Act.put, List.setIfInBounds_toArray, List.set_cons_zero, List.set_cons_succ])
  refine wpAnyT_one (i := 5) (o := ⟨some 21, _, _, _, _, _⟩) (by kernel_rfl) rfl (fun K hK => ?_)
  go_simp
  go_at_call 27
  refine (ref_Join _ _ _ _ w4 (HC1.out.later HB4.out) HX4.out (by have := HL.out; rw [List.length_take]; omega) (by simp)).mono ?_
  rintro e w5 ⟨v5, rfl, hi5, hb5⟩
  have HI5 := Lib.hid hi5
  have HB5 := Lib.hid hb5
  clear hi5 hb5
  (try dsimp only)
  refine hK.out _ _ (by trivial) (fun hHeld => ?_)
  clear hK K
  (try simp only [Act.put, List.setIfInBounds_toArray, List.set_cons_zero, List.set_cons_succ])
  refine wpAnyT_one (i := 9) (o := ⟨some 25, _, _, _, _, _⟩) (by kernel_rfl) rfl (fun K hK => ?_)
  go_simp
  go_at_call 27
  refine (ref_Join _ _ _ _ w5 HI5.out.cutI ((HC2.out.later HB4.out).later HB5.out) (by have := HL.out; rw [List.length_append, List.length_take]; simp; omega) (by have := HL.out; rw [List.length_drop]; omega)).mono ?_
  rintro e w9 ⟨v9, rfl, hi9, hb9⟩
  have HI9 := Lib.hid hi9
  have HB9 := Lib.hid hb9
  clear hi9 hb9
  (try dsimp only)
  refine hK.out _ _ (by trivial) (fun hHeld => ?_)
  clear hK K
  (try simp only [Act.put, List.setIfInBounds_toArray, List.set_cons_zero, List.set_cons_succ])
  refine wpAnyT_last (i := 10) (o := ⟨some 6, _, _, _, _, _⟩) (by kernel_rfl) (by decide) rfl (fun K hK => ?_)
  go_simp
  refine hK.out _ _ ?_
  clear hK K
  (try simp only [Act.put, List.setIfInBounds_toArray, List.set_cons_zero, List.set_cons_succ])
  refine wpAnyT_last (i := 11) (o := ⟨some 7, _, _, _, _, _⟩) (by kernel_rfl) (by decide) rfl (fun K hK => ?_)
  go_simp
  refine hK.out _ _ ?_
  clear hK K
  (try simp only [Act.put, List.setIfInBounds_toArray, List.set_cons_zero, List.set_cons_succ])
  refine wpAnyT_done (by kernel_rfl) ?_ _
  go_wp2_with fail
  go_ret2
  refine ⟨_, rfl, ?_, ?_⟩
  · have := HI9.out
    rw [List.append_assoc] at this
    exact owns_mono this (Nat.le_trans HB4.out.size HB5.out.size)
  · exact (HB4.out.trans (HB5.out.mono HB4.out.size)).trans (HB9.out.mono (Nat.le_trans HB4.out.size HB5.out.size))
set_option maxHeartbeats 1000000 in
theorem ref_Insert_out {S : Nat → Prop} (v : Value) (l : List Int) (i : Int) (x : Int) (W : World) (hl : CutI S W v l) (hi : ¬ (0 ≤ i ∧ i ≤ l.length)) : Calls Try.prog 39 #[v, .int .i64 i, .int .i64 x] W fun e w' => e = .returned (.tuple #[.slice none 0 0, .int .i64 4]) ∧ Below W.heap.size W w' := by
  obtain ⟨a, c, rfl, _⟩ := hl.shape
  clear hl
  by_cases h0 : i < 0
  · clear hi
    go_enter Try.func39, Try.ntmps39
    go_wp2_with fail
    go_ret2
    exact ⟨rfl, Below.refl _ _⟩
  · have h1 : (l.length : Int) < i := by omega
    clear hi
    go_enter Try.func39, Try.ntmps39
    go_wp2_with fail
    go_ret2
    exact ⟨rfl, Below.refl _ _⟩
end Go.Proofs.Ytldemoflgahdgaa
