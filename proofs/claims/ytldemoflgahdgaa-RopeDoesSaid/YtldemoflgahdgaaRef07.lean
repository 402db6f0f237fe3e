/- Layer 7: the document's own answers: lists. -/
import Derived.Test.YtldemoflgahdgaaLst
import Derived.Deep.QuietTactic
import Derived.BigQuiet
namespace Go.Proofs.Ytldemoflgahdgaa
open Go.RowKit
set_option maxRecDepth 1000000
set_option linter.unusedSimpArgs false

/-- n numbers from x on. -/
def runL (x : Int) (n : Nat) : List Int := (List.range n).map fun i : Nat => wrap64 (x + (i : Int))
theorem runL_len (x : Int) (n : Nat) : (runL x n).length = n := by simp [runL]
theorem runL_succ (x : Int) (n : Nat) : runL x (n + 1) = runL x n ++ [wrap64 (x + n)] := by simp [runL, List.range_succ]
theorem runL_at (x : Int) {n j : Nat} (h : j < n) : (runL x n).getD j 0 = wrap64 (x + j) := by
  rw [List.getD_eq_getElem?_getD]; simp [runL, h]
set_option maxHeartbeats 1000000 in
theorem ref_Run (x n : Int) (hn : n ≤ 100000) (w : World) : Calls Try.prog 17 #[.int .i64 x, .int .i64 n] w fun e w' => ∃ v, e = .returned v ∧ Owns w.heap.size v (runL x n.toNat) w' ∧ Below w.heap.size w w' := by
  go_enter Try.func17, Try.ntmps17
  go_wp2_with fail
  go_loopw [5, 9] (fun v i wl => ∃ k : Nat, (k : Int) ≤ max n 0 ∧ i = .int .i64 k ∧ Owns w.heap.size v (runL x k) wl ∧ Below w.heap.size w wl) (fun _ i _ => n.toNat - (intOf i).toNat)
  case atStart => exact ⟨0, by simp; omega, rfl, Owns.lit (Nat.le_refl _) #[] [] rfl (by simp), Below.newly' _ _⟩
  case round =>
    obtain ⟨k, hk, rfl, hi, hb⟩ := hrel
    have HI := Lib.hid hi
    have HB := Lib.hid hb
    by_cases hlt : (k : Int) < n
    · obtain ⟨a5, c5, rfl⟩ := hi.len
      have hlen := runL_len x k
      have HLEN := Lib.hid hlen
      have hk5 : (k : Int) ≤ 100000 := by omega
      rw [hlen] at HI ⊢
      clear hi hb hlen
      go_wp2_with (refine owns_append_new rfl _ _ rfl rfl HI.out [wrap64 (x + k)] _ rfl 1 1 rfl rfl (by have := HLEN.out; simp; omega) ?_; intro v6 w6 hi6 hg6; have HI6 := Lib.hid hi6; have HB6 := Lib.hid (HB.out.grown hg6 HB.out.size (fun q e => owns_low HI.out q e.symm)); clear hi6 hg6)
      go_roundw
      case rel => exact ⟨k + 1, by omega, by go_num, by rw [runL_succ]; exact HI6.out, HB6.out⟩
      case measure => simp [intOf]; omega
    · have hkn : k = n.toNat := by omega
      go_wp2_with fail
      go_ret
      exact ⟨_, rfl, by rw [← hkn]; exact HI.out, HB.out⟩
set_option maxHeartbeats 1000000 in
theorem ref_Copied {S : Nat → Prop} (v : Value) (l : List Int) (w : World) (hl : Lst S w v l) (hlen : l.length ≤ 1000000) : Calls Try.prog 44 #[v] w fun e w' => ∃ v', e = .returned v' ∧ Owns w.heap.size v' l w' ∧ Below w.heap.size w w' := by
  have HL := Lib.hid hl
  obtain ⟨a, c, rfl, _⟩ := hl
  go_enter Try.func44, Try.ntmps44
  go_wp2_with (refine lst_copy rfl _ _ rfl rfl rfl HL.out hlen ?_; intro v6 w6 hi6 hb6; have HI6 := Lib.hid hi6; have HB6 := Lib.hid hb6; clear hi6 hb6)
  go_ret
  exact ⟨_, rfl, HI6.out, HB6.out⟩
set_option maxHeartbeats 1000000 in
theorem ref_Same {S S' : Nat → Prop} (va vb : Value) (l : List Int) (w : World) (ha : Lst S w va l) (hb : Lst S' w vb l) (hlen : l.length ≤ 1000000) : Calls Try.prog 20 #[va, vb] w fun e w' => e = .returned (.bool true) ∧ Below w.heap.size w w' := by
  have HA := Lib.hid ha
  have HB := Lib.hid hb
  obtain ⟨a, c, rfl, _⟩ := ha
  obtain ⟨a', c', rfl, _⟩ := hb
  go_enter Try.func20, Try.ntmps20
  go_wp2_with fail
  go_loopw [13] (fun i wl => ∃ k : Nat, k ≤ l.length ∧ i = .int .i64 k ∧ Below w.heap.size w wl) (fun i _ => l.length - (intOf i).toNat)
  case atStart => exact ⟨0, Nat.zero_le _, rfl, Below.refl _ _⟩
  case round =>
    obtain ⟨k, hk, rfl, hw⟩ := hrel
    have HW := Lib.hid hw
    by_cases hlt : k < l.length
    · obtain ⟨g, q, e1, h1⟩ := (HA.out.later hw).cell hlt
      obtain ⟨g', q', e2, h2⟩ := (HB.out.later hw).cell hlt
      simp only [Value.slice.injEq, true_and] at e1 e2
      obtain ⟨rfl, rfl⟩ := e1
      obtain ⟨rfl, rfl⟩ := e2
      have hlt' : (k : Int) < l.length := by omega
      obtain ⟨z, hz⟩ : ∃ z, z = l.getD k 0 := ⟨_, rfl⟩
      rw [← hz] at h1 h2
      clear hw hz
      go_upto_region 6 with fail
      go_quiet (fail)
      go_wp2_with fail
      go_roundw
      case rel => exact ⟨k + 1, by omega, by go_num, Below.drewMany HW.out _⟩
      case measure => simp [intOf]; omega
    · obtain rfl : k = l.length := by omega
      go_wp2_with fail
      go_ret
      exact ⟨rfl, HW.out⟩
set_option maxHeartbeats 1000000 in
theorem ref_Get7 {S : Nat → Prop} (v : Value) (l : List Int) (i : Int) (w : World) (hl : Lst S w v l) : Calls Try.prog 12 #[v, .int .i64 i] w fun e w' => e = .returned (.tuple #[.int .i64 (getF (fun j => l.getD j 0) l.length i).1, .bool (getF (fun j => l.getD j 0) l.length i).2]) ∧ w' = w := by
  by_cases hi : 0 ≤ i ∧ i < l.length
  · obtain ⟨j, rfl⟩ : ∃ j : Nat, i = (j : Int) := ⟨i.toNat, by omega⟩
    have hj : j < l.length := by omega
    rw [show getF (fun j => l.getD j 0) l.length (j : Int) = (l.getD j 0, true) by simp [getF, hi]]
    obtain ⟨g, c, rfl, hc⟩ := hl.cell hj
    obtain ⟨z, hz⟩ : ∃ z, z = l.getD j 0 := ⟨_, rfl⟩
    rw [← hz] at hc ⊢
    have hj' : (j : Int) < l.length := by omega
    clear hi hl hz
    go_enter Try.func12, Try.ntmps12
    go_wp2_with fail
    go_ret2
    exact ⟨rfl, rfl⟩
  · rw [show getF (fun j => l.getD j 0) l.length i = (0, false) by simp [getF, hi]]
    obtain ⟨a, c, rfl, _⟩ := hl
    by_cases h0 : i < 0
    · go_enter Try.func12, Try.ntmps12
      go_wp2_with fail
      go_ret2
      exact ⟨rfl, rfl⟩
    · have h1 : (l.length : Int) ≤ i := by omega
      clear hi
      go_enter Try.func12, Try.ntmps12
      go_wp2_with fail
      go_ret2
      exact ⟨rfl, rfl⟩
end Go.Proofs.Ytldemoflgahdgaa
