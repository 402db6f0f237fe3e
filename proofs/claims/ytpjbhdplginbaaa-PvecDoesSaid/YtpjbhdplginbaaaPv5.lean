/- Package pvec: others, has, Len, Levels. -/
import Derived.Test.YtpjbhdplginbaaaPv1
import Derived.Test.YtpjbhdplginbaaaRegionY
namespace Go.Proofs.Ytpjbhdplginbaaa
open Go.RowKit
set_option maxRecDepth 1000000
set_option linter.unusedSimpArgs false

theorem vec_size : (Try.prog.info? 30).map (·.size) = some 4 := by kernel_rfl
/-- The four cells of a vector, laid as a variable. -/
theorem VecG.laid {S : Nat → Prop} {W : World} {c : Array Value} {f : Nat → Int} {n t : Nat} (h : VecG S W c f n t) : ∃ a b v cp, c = #[.int .i64 (n : Int), a, b, .slice v t cp] ∧ t ≤ cp ∧ t ≤ n ∧ t ≤ 32 ∧ (n - t) % 32 = 0 ∧ n ≤ 1000000 ∧
    TrieAt S W a b f (n - t) ∧ RunAt S W 3 1 (.slice v t cp) (fi fun i => f (n - t + i)) t := by
  obtain ⟨h1, h2, h3, h4, a, b, v, rfl, h6, h7⟩ := h
  obtain ⟨av, cv, rfl, hc⟩ := h7.shape
  exact ⟨a, b, av, cv, rfl, hc, h1, h2, h3, h4, h6, h7⟩
section
variable {S : Nat → Prop} {c : Array Value} {f : Nat → Int} {n t : Nat}
set_option maxHeartbeats 1000000 in
theorem pv_others (W : World) (h : VecG S W c f n t) : Calls Try.prog 35 #[.agg c] W fun e W' => e = .returned (.int .i64 ((n - t : Nat) : Int)) ∧ Below W.heap.size W W' := by
  obtain ⟨a, b, v, cp, rfl, hc, h1, h2, h3, h4, _, _⟩ := h.laid
  have h5 : (n : Int) ≤ 1000000 := by omega
  have h6 : (t : Int) ≤ n := by omega
  have HE := Lib.hid (show (n : Int) - t = ((n - t : Nat) : Int) by omega)
  clear h h2 h3 h4 h1
  go_enter Try.func35, Try.ntmps35
  go_wp2_with fail
  go_ret
  exact ⟨congrArg (fun x => Ending.returned (.int .i64 x)) HE.out, Below.newly' _ _⟩
set_option maxHeartbeats 1000000 in
theorem pv_has (W : World) (h : VecG S W c f n t) (i : Int) : Calls Try.prog 28 #[.agg c, .int .i64 i] W fun e W' => e = .returned (.bool (decide (0 ≤ i ∧ i < n))) ∧ Below W.heap.size W W' := by
  obtain ⟨a, b, v, cp, rfl, _⟩ := h.laid
  clear h
  by_cases h0 : 0 ≤ i
  · by_cases h1 : i < n
    · rw [show decide (0 ≤ i ∧ i < n) = true by simp [h0, h1]]
      go_enter Try.func28, Try.ntmps28
      go_wp2_with fail
      go_ret
      exact ⟨rfl, Below.newly' _ _⟩
    · rw [show decide (0 ≤ i ∧ i < n) = false by simp [h1]]
      go_enter Try.func28, Try.ntmps28
      go_wp2_with fail
      go_ret
      exact ⟨rfl, Below.newly' _ _⟩
  · rw [show decide (0 ≤ i ∧ i < n) = false by simp [h0]]
    go_enter Try.func28, Try.ntmps28
    go_wp2_with fail
    go_ret
    exact ⟨rfl, Below.newly' _ _⟩
set_option maxHeartbeats 1000000 in
theorem pv_Len (W : World) (h : VecG S W c f n t) : Calls Try.prog 21 #[.agg c] W fun e W' => e = .returned (.int .i64 (n : Int)) ∧ Below W.heap.size W W' := by
  obtain ⟨a, b, v, cp, rfl, _⟩ := h.laid
  clear h
  go_enter Try.func21, Try.ntmps21
  go_wp2_with fail
  go_ret
  exact ⟨rfl, Below.newly' _ _⟩
set_option maxHeartbeats 1000000 in
theorem pv_Levels (W : World) (h : VecG S W c f n t) : Calls Try.prog 22 #[.agg c] W fun e W' => e = .returned (.int .i64 (levN (n - t) : Nat)) ∧ Below W.heap.size W W' := by
  have HO := Lib.hid (pv_others (W.alloc (.cells c 30)) (h.later (Below.newly' _ _)))
  obtain ⟨a, b, v, cp, rfl, hc, h1, h2, h3, h4, _, _⟩ := h.laid
  have HL := Lib.hid (pv_levels (n - t) h3 (by omega))
  obtain ⟨m, hm⟩ : ∃ m, m = n - t := ⟨_, rfl⟩
  rw [← hm] at HO HL ⊢
  clear h hm h1 h2 h3 h4
  have HX := Lib.hid (heap_alloc_last W (.cells #[.int .i64 (n : Int), a, b, .slice v t cp] 30))
  go_enter Try.func22, Try.ntmps22
  go_wp2_with (first
    | (refine ld_if rfl 30 _ rfl W.heap.size rfl 30 _ _ _ HX.out Try.underlying30 rfl vec_size ?_)
    | (go_at_call 35; refine HO.out.mono ?_; rintro e w2 ⟨rfl, hb⟩; have HB := Lib.hid hb; clear hb)
    | (go_at_call 34; refine (HL.out _).mono ?_; rintro e w3 ⟨rfl, hw⟩; obtain rfl := hw.symm))
  go_ret
  exact ⟨rfl, (Below.newly' _ _).trans (HB.out.mono (by simp))⟩
end
end Go.Proofs.Ytpjbhdplginbaaa
