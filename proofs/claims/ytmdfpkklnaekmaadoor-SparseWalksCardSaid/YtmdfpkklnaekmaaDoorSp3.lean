/- Package sparse: rows of numbers; Len, Bits, Get. -/
import Derived.Test.YtmdfpkklnaekmaaDoorSp2
namespace Go.Proofs.YtmdfpkklnaekmaaDoor
open Go.RowKit
set_option maxRecDepth 1000000
set_option linter.unusedSimpArgs false

/-- These two cells are package sparse's row. -/
def At6 (W : World) (R : Rw) (c : Array Value) : Prop := Ok R ∧ ∃ v, c = #[.int .u32 (bitsR R 32 : Nat), v] ∧ LisAt W v (lisR R)
theorem At6.zero (W : World) : At6 W noR #[.int .u32 0, .slice none 0 0] := ⟨Ok.no, _, rfl, LisAt.nil W⟩
theorem At6.kept {W W' : World} {R : Rw} {c : Array Value} {row : Option Nat} (h : At6 W R c) (hg : W.grownBy W' row) (hT : ∀ X, row = some X → ∃ cs T fr, W.heap[X]? = some (.cells cs T fr) ∧ T ≠ 3) : At6 W' R c := by
  obtain ⟨h1, v, rfl, h2⟩ := h
  exact ⟨h1, v, rfl, h2.kept hg hT⟩
theorem LisAt.later {w w' : World} {v : Value} {zs : List Int} (h : LisAt w v zs) (hb : Below w.heap.size w w') : LisAt w' v zs :=
  h.kept (row := none) ⟨hb.os, hb.tape, hb.output, hb.size, fun k hk _ => hb.block k hk⟩ (fun _ e => by cases e)
theorem At6.later {W W' : World} {R : Rw} {c : Array Value} (h : At6 W R c) (hb : Below W.heap.size W W') : At6 W' R c := by
  obtain ⟨h1, v, rfl, h2⟩ := h
  exact ⟨h1, v, rfl, h2.later hb⟩
theorem LisAt.shape {w : World} {v : Value} {zs : List Int} (h : LisAt w v zs) : ∃ a n, v = .slice a zs.length n ∧ zs.length ≤ n := by
  rcases h with ⟨rfl, rfl⟩ | ⟨_, g, c, _, _, rfl, h, _, _⟩
  · exact ⟨none, 0, rfl, Nat.le_refl _⟩
  · exact ⟨_, c, rfl, h⟩
theorem and_bit_on (R : Rw) {j : Nat} (hj : j < 32) (h : (R j).isSome = true) : bits .and .u32 (bitsR R 32 : Nat) ((2 ^ j : Nat) : Int) = ((2 ^ j : Nat) : Int) :=
  word_of .and _ _ _ (Nat.pow_lt_pow_right (show 1 < 2 by decide) hj) fun k hk => by
    simp only [BitVec.getLsbD_and, nat_bit hk, bits_test, Nat.testBit_two_pow, hk, decide_true, Bool.true_and]
    by_cases e : j = k
    · subst e; simp [h]
    · simp [e]
theorem and_bit_off (R : Rw) {j : Nat} (h : (R j).isSome = false) : bits .and .u32 (bitsR R 32 : Nat) ((2 ^ j : Nat) : Int) = ((0 : Nat) : Int) :=
  word_of .and _ _ _ (by decide) fun k hk => by
    simp only [BitVec.getLsbD_and, nat_bit hk, bits_test, Nat.testBit_two_pow, hk, decide_true, Bool.true_and]
    by_cases e : j = k
    · subst e; simp [h]
    · simp [e]
theorem and_none (b : Nat) : bits .and .u32 (b : Int) 0 = 0 := word_of .and b 0 0 (by decide) fun k hk => by simp
set_option maxHeartbeats 1000000 in
theorem sp_Len (W : World) (R : Rw) (c : Array Value) (h : At6 W R c) : Calls Tryd.prog 27 #[.agg c] W fun e W' => e = .returned (.int .i64 (cntR R 32 : Nat)) ∧ Below W.heap.size W W' := by
  obtain ⟨_, v, rfl, h2⟩ := h
  obtain ⟨a, n, rfl, _⟩ := h2.shape
  have hl := lisR_len R
  rw [hl]
  clear h2
  go_enter Tryd.func27, Tryd.ntmps27
  go_wp2_with fail
  go_ret
  exact ⟨rfl, Below.newly' _ _⟩
set_option maxHeartbeats 1000000 in
theorem sp_Bits (W : World) (R : Rw) (c : Array Value) (h : At6 W R c) : Calls Tryd.prog 19 #[.agg c] W fun e W' => e = .returned (.int .u32 (bitsR R 32 : Nat)) ∧ Below W.heap.size W W' := by
  obtain ⟨_, v, rfl, h2⟩ := h
  obtain ⟨a, n, rfl, _⟩ := h2.shape
  clear h2
  go_enter Tryd.func19, Tryd.ntmps19
  go_wp2_with fail
  go_ret
  exact ⟨rfl, Below.newly' _ _⟩
set_option maxHeartbeats 2000000 in
theorem sp_Get (W : World) (R : Rw) (c : Array Value) (i : Int) (h : At6 W R c) : Calls Tryd.prog 12 #[.agg c, .int .i64 i] W fun e W' => e = .returned (.tuple #[.int .i64 (getR R i).1, .bool (getR R i).2]) ∧ Below W.heap.size W W' := by
  obtain ⟨_, v, rfl, h2⟩ := h
  by_cases ho : onP i = true
  · obtain ⟨j, rfl, hj⟩ := on_nat ho
    rw [get_on hj]
    have HB := Lib.hid (sp_bit_on j hj)
    cases hr : R j with
    | none =>
      have hz := and_bit_off R (j := j) (by rw [hr]; rfl)
      obtain ⟨p, hp⟩ : ∃ p, p = 2 ^ j := ⟨_, rfl⟩
      rw [← hp] at HB hz
      obtain ⟨a, n, rfl, _⟩ := h2.shape
      clear h2 hp ho
      go_enter Tryd.func12, Tryd.ntmps12
      go_upto_region 1 with fail
      go_quiet (first | (go_at_call 30; exact Calls.quiet_of_same (HB.out _)))
      go_wp2_with fail
      go_ret2
      exact ⟨rfl, Below.drewMany (Below.newly' _ _) _⟩
    | some x =>
      have hz := and_bit_on R hj (by rw [hr]; rfl)
      obtain ⟨p, hp⟩ : ∃ p, p = 2 ^ j := ⟨_, rfl⟩
      rw [← hp] at HB hz
      have hpn : ((p : Int) == 0) = false := beq_eq_false_iff_ne.2 (by have : 0 < p := by rw [hp]; exact Nat.two_pow_pos j
                                                                       omega)
      have HA := Lib.hid (fun w => sp_around (bitsR R 32) (lt_32 R) v j hj w)
      rw [rk_cnt R j (by omega), rk_cnt R (j + 1) (by omega)] at HA
      have hx := lis_at R hj hr
      obtain ⟨hlt, hx⟩ := List.getElem?_eq_some_iff.1 hx
      rcases h2 with ⟨h0, _⟩ | ⟨h0, g, cp, cs, fr, rfl, h2, h3, h4⟩
      · rw [h0] at hlt; exact absurd hlt (by simp)
      · have hc : cs[cntR R j]? = some (.int .i64 x) := h4 _ _ (by rw [iv, List.getElem?_map, List.getElem?_eq_getElem hlt, hx]; rfl)
        have hcell : W.cell? ⟨g, cntR R j, none⟩ = some (.int .i64 x) := cell_in h3 hc
        have HC := Lib.hid hcell
        have hlt' : ((cntR R j : Nat) : Int) < (lisR R).length := by omega
        clear hp ho hcell hc hx h4 h3
        go_enter Tryd.func12, Tryd.ntmps12
        go_upto_region 1 with fail
        go_quiet (first | (go_at_call 30; exact Calls.quiet_of_same (HB.out _)))
        go_wp2_with (go_at_call 31; refine (HA.out _).mono ?_; rintro e w2 ⟨rfl, hb⟩; have d1 : w2.cell? ⟨W.heap.size, 1, none⟩ = some (.slice (some ⟨g, 0, none⟩) (lisR R).length cp) := (hb.cell (p := ⟨W.heap.size, 1, none⟩) (by simp)).trans (by show (W.alloc _).cell? _ = _; exact cell_in (heap_alloc_last _ _) rfl); have HW2 := Lib.hid ((Below.drewMany (Below.newly' W _) _).trans (hb.mono (by simp))); have d2 := (HW2.out.cell (p := ⟨g, cntR R j, none⟩) (World.block_lt_of_cell? W _ HC.out)).trans HC.out; clear hb)
        go_ret2
        exact ⟨rfl, HW2.out⟩
  · rw [get_off ho]
    have HB := Lib.hid (sp_bit_off i ho)
    have hz := and_none (bitsR R 32)
    obtain ⟨a, n, rfl, _⟩ := h2.shape
    clear h2
    go_enter Tryd.func12, Tryd.ntmps12
    go_upto_region 1 with fail
    go_quiet (first | (go_at_call 30; exact Calls.quiet_of_same (HB.out _)))
    go_wp2_with fail
    go_ret2
    exact ⟨rfl, Below.drewMany (Below.newly' _ _) _⟩
end Go.Proofs.YtmdfpkklnaekmaaDoor
