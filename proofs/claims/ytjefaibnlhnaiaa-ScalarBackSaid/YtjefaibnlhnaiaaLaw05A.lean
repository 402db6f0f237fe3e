/- Layer 5's laws ScalarChecks, ScalarOrders, ScalarReads, ScalarSums, over what package scalar's functions answer. -/
import Derived.Test.YtjefaibnlhnaiaaLaw05Live
namespace Go.Proofs.Ytjefaibnlhnaiaa
open Go.RowKit
set_option maxRecDepth 1000000
set_option maxHeartbeats 4000000

/-- A scalar's variable. -/
def Bx (X : Nat) (k n : Int) (t : ByteArray) (W : World) : Prop := W.heap[X]? = some (.cells #[.int .i64 k, .int .i64 n, .string t] 23 (0, 0))
theorem Bx.cells {X : Nat} {k n : Int} {t : ByteArray} {W : World} (h : Bx X k n t W) : W.cell? ⟨X, 0, none⟩ = some (.int .i64 k) ∧ W.cell? ⟨X, 1, none⟩ = some (.int .i64 n) ∧ W.cell? ⟨X, 2, none⟩ = some (.string t) := by
  unfold Bx at h
  simp [World.cell?, h]
theorem Bx.later {X : Nat} {k n : Int} {t : ByteArray} {W W' : World} (h : Bx X k n t W) (hb : Below W.heap.size W W') : Bx X k n t W' := (hb.block X (Array.getElem?_eq_some_iff.1 h).1).trans h
theorem Bx.new (k n : Int) (t : ByteArray) (W : World) : Bx W.heap.size k n t (W.alloc (.cells #[.int .i64 k, .int .i64 n, .string t] 23)) := heap_alloc_new W _

theorem scalarChecks_of {T : World → Prop} (S : SSpec T) (k n : Int) (t : ByteArray) (hk : InR k) (hn : InR n) (ht : t.size ≤ maxLen) (w : World) (hT : T w) :
    Calls Try.prog 3 #[scV k n t] w fun e w' => e = .returned (.bool true) ∧ Below w.heap.size w w' := by
  have HT := Lib.hid (fun W (hb : Below w.heap.size w W) => S.keep hT hb)
  have HL := Lib.hid (fun W (hb : Below w.heap.size w W) => live5_true S W (HT.out W hb))
  have HS := Lib.hid (fun W => short_walk k n t W ht)
  have HK := Lib.hid hk
  have HN := Lib.hid hn
  clear hT hk hn ht
  obtain ⟨X, hX⟩ : ∃ X, X = w.heap.size := ⟨_, rfl⟩
  obtain ⟨w0, hw0⟩ : ∃ w0, w0 = w.alloc (.cells #[.int .i64 k, .int .i64 n, .string t] 23) := ⟨_, rfl⟩
  have B0 : Hid (Below w.heap.size w w0) := by show Below _ _ _; rw [hw0]; exact Below.newly' _ _
  have K0 : Hid (Bx X k n t w0) := by show Bx _ _ _ _ _; rw [hw0, hX]; exact Bx.new k n t w
  have HX := Lib.hid hX
  have HW := Lib.hid hw0
  clear hX hw0
  by_cases h2 : t.size ≤ 2000
  · have HL2 := Lib.hid (show t.size ≤ 1000000 by omega)
    rw [decide_eq_true h2] at HS
    clear h2
    have hcc : (chkSc (scT k n t) == chkSc (scT k n t)) = true := beq_self_eq_true _
    go_enter Try.func3, Try.ntmps3
    go_wp2_with fail
    rw [← HW.out, ← HX.out]
    refine (HL.out _ B0.out).mono ?_
    rintro e w1 ⟨rfl, hb⟩
    have B1 := Lib.hid (B0.out.trans (hb.mono B0.out.size))
    have K1 := Lib.hid (K0.out.later hb)
    obtain ⟨c0, c1, c2⟩ := K1.out.cells
    clear hb B0 K0
    go_wp2_with fail
    refine (HS.out _).mono ?_
    rintro e w2 ⟨rfl, hb⟩
    have B2 : Hid (Below w.heap.size w w2.drew) := by show Below _ _ _; exact Below.drewMany (B1.out.trans (hb.mono B1.out.size)) 1
    have K2 : Hid (Bx X k n t w2.drew) := by have h := K1.out.later hb; exact h
    clear hb B1 K1 c0 c1 c2
    go_wp2_with fail
    go_region_held3 (fun W => W.cell? ⟨X, 0, none⟩ = some (.int .i64 k) ∧ W.cell? ⟨X, 1, none⟩ = some (.int .i64 n) ∧ W.cell? ⟨X, 2, none⟩ = some (.string t)) (first | exact K2.out.cells | exact K3.out.cells | exact K4.out.cells | exact K5.out.cells | exact K6.out.cells)
      (first
        | (go_at_call 12; refine (S.check k n t _ (HT.out _ B2.out) HK.out HN.out HL2.out).mono ?_; rintro e w3 ⟨rfl, hb⟩; have B3 := Lib.hid (B2.out.trans (hb.mono B2.out.size)); have K3 := Lib.hid (K2.out.later hb); clear hb)
        | (go_at_call 13; refine (ref_Check5 k n t _).mono ?_; rintro e w4 ⟨rfl, hb⟩; have B4 := Lib.hid (B3.out.trans (hb.mono B3.out.size)); have K4 := Lib.hid (K3.out.later hb); clear hb)
        | (go_at_call 14; refine (S.key k n t _ (HT.out _ B4.out) HK.out HN.out HL2.out).mono ?_; rintro e w5 ⟨rfl, hb⟩; have B5 := Lib.hid (B4.out.trans (hb.mono B4.out.size)); have K5 := Lib.hid (K4.out.later hb); clear hb)
        | (go_at_call 15; refine (ref_Key5 k n t _ HN.out HL2.out).mono ?_; rintro e w6 ⟨rfl, hb⟩; have B6 := Lib.hid (B5.out.trans (hb.mono B5.out.size)); have K6 := Lib.hid (K5.out.later hb); clear hb))
    go_wp2_with fail
    go_ret
    exact ⟨rfl, B6.out⟩
  · rw [decide_eq_false h2] at HS
    clear h2
    go_enter Try.func3, Try.ntmps3
    go_wp2_with fail
    rw [← HW.out, ← HX.out]
    refine (HL.out _ B0.out).mono ?_
    rintro e w1 ⟨rfl, hb⟩
    have B1 := Lib.hid (B0.out.trans (hb.mono B0.out.size))
    obtain ⟨c0, c1, c2⟩ := (K0.out.later hb).cells
    clear hb B0
    go_wp2_with fail
    refine (HS.out _).mono ?_
    rintro e w2 ⟨rfl, hb⟩
    have B2 := Lib.hid (B1.out.trans (hb.mono B1.out.size))
    clear hb B1 c0 c1 c2
    go_wp2_with fail
    refine (HL.out _ B2.out).mono ?_
    rintro e w3 ⟨rfl, hb⟩
    have B3 := Lib.hid (B2.out.trans (hb.mono B2.out.size))
    clear hb B2
    go_wp2_with fail
    go_ret
    exact ⟨rfl, B3.out⟩
theorem scalarOrders_of {T : World → Prop} (S : SSpec T) (k n : Int) (t : ByteArray) (k' n' : Int) (t' : ByteArray) (hk : InR k) (hn : InR n) (ht : t.size ≤ maxLen) (hk' : InR k') (hn' : InR n') (ht' : t'.size ≤ maxLen) (w : World) (hT : T w) :
    Calls Try.prog 4 #[scV k n t, scV k' n' t'] w fun e w' => e = .returned (.bool true) ∧ Below w.heap.size w w' := by
  have HT := Lib.hid (fun W (hb : Below w.heap.size w W) => S.keep hT hb)
  have HL := Lib.hid (fun W (hb : Below w.heap.size w W) => live5_true S W (HT.out W hb))
  have HS := Lib.hid (fun W => short_walk k n t W ht)
  have HS' := Lib.hid (fun W => short_walk k' n' t' W ht')
  have HK := Lib.hid hk
  have HN := Lib.hid hn
  have HK' := Lib.hid hk'
  have HN' := Lib.hid hn'
  have HM := Lib.hid ht
  clear hT hk hn ht hk' hn' ht'
  obtain ⟨X, hX⟩ : ∃ X, X = w.heap.size := ⟨_, rfl⟩
  obtain ⟨Y, hY⟩ : ∃ Y, Y = w.heap.size + 1 := ⟨_, rfl⟩
  obtain ⟨w0, hw0⟩ : ∃ w0, w0 = (w.alloc (.cells #[.int .i64 k, .int .i64 n, .string t] 23)).alloc (.cells #[.int .i64 k', .int .i64 n', .string t'] 23) := ⟨_, rfl⟩
  have B0 : Hid (Below w.heap.size w w0) := by show Below _ _ _; rw [hw0]; exact Below.more (Below.newly' _ _) _
  have K0 : Hid (Bx X k n t w0) := by show Bx _ _ _ _ _; rw [hw0, hX]; exact (Bx.new k n t w).later (Below.newly' _ _)
  have L0 : Hid (Bx Y k' n' t' w0) := by
    show Bx _ _ _ _ _
    have h := Bx.new k' n' t' (w.alloc (.cells #[.int .i64 k, .int .i64 n, .string t] 23))
    rw [hw0, hY]
    simpa using h
  have HX := Lib.hid hX
  have HY := Lib.hid hY
  have HW := Lib.hid hw0
  clear hX hY hw0
  by_cases h2 : t.size ≤ 2000
  case neg =>
    rw [decide_eq_false h2] at HS
    clear h2
    go_enter Try.func4, Try.ntmps4
    go_wp2_with fail
    rw [← HW.out, ← HY.out, ← HX.out]
    refine (HL.out _ B0.out).mono ?_
    rintro e w1 ⟨rfl, hb⟩
    have B1 := Lib.hid (B0.out.trans (hb.mono B0.out.size))
    obtain ⟨c0, c1, c2⟩ := (K0.out.later hb).cells
    clear hb B0
    go_wp2_with fail
    refine (HS.out _).mono ?_
    rintro e w2 ⟨rfl, hb⟩
    have B2 := Lib.hid (B1.out.trans (hb.mono B1.out.size))
    clear hb B1 c0 c1 c2
    go_wp2_with fail
    refine (HL.out _ B2.out).mono ?_
    rintro e w3 ⟨rfl, hb⟩
    have B3 := Lib.hid (B2.out.trans (hb.mono B2.out.size))
    clear hb B2
    go_wp2_with fail
    go_ret
    exact ⟨rfl, B3.out⟩
  have HL2 := Lib.hid (show t.size ≤ 1000000 by omega)
  rw [decide_eq_true h2] at HS
  clear h2
  by_cases h2 : t'.size ≤ 2000
  case neg =>
    rw [decide_eq_false h2] at HS'
    clear h2
    go_enter Try.func4, Try.ntmps4
    go_wp2_with fail
    rw [← HW.out, ← HY.out, ← HX.out]
    refine (HL.out _ B0.out).mono ?_
    rintro e w1 ⟨rfl, hb⟩
    have B1 := Lib.hid (B0.out.trans (hb.mono B0.out.size))
    have K1 := Lib.hid (K0.out.later hb)
    have L1 := Lib.hid (L0.out.later hb)
    obtain ⟨c0, c1, c2⟩ := K1.out.cells
    clear hb B0
    go_wp2_with fail
    refine (HS.out _).mono ?_
    rintro e w2 ⟨rfl, hb⟩
    have B2 := Lib.hid (B1.out.trans (hb.mono B1.out.size))
    obtain ⟨d0, d1, d2⟩ := (L1.out.later hb).cells
    clear hb B1 c0 c1 c2
    go_wp2_with fail
    refine (HS'.out _).mono ?_
    rintro e w3 ⟨rfl, hb⟩
    have B3 := Lib.hid (B2.out.trans (hb.mono B2.out.size))
    clear hb B2 d0 d1 d2
    go_wp2_with fail
    refine (HL.out _ B3.out).mono ?_
    rintro e w4 ⟨rfl, hb⟩
    have B4 := Lib.hid (B3.out.trans (hb.mono B3.out.size))
    clear hb B3
    go_wp2_with fail
    go_ret
    exact ⟨rfl, B4.out⟩
  have HL2' := Lib.hid (show t'.size ≤ 1000000 by omega)
  rw [decide_eq_true h2] at HS'
  clear h2
  have hoo : (ordSc (scT k n t) (scT k' n' t') == ordSc (scT k n t) (scT k' n' t')) = true := beq_self_eq_true _
  have key : ∀ r : Bool, decide (scT k n t = scT k' n' t') = r → (decide (k = k') && (decide (n = n') && decide (t.data = t'.data))) = r → Calls Try.prog 4 #[scV k n t, scV k' n' t'] w fun e w' => e = .returned (.bool true) ∧ Below w.heap.size w w' := by
    intro r hr1 hr2
    have HE := Lib.hid (fun W (hb : Below w.heap.size w W) => S.same k n t k' n' t' W (HT.out W hb) HK.out HN.out HK'.out HN'.out HL2.out HL2'.out)
    rw [hr1] at HE
    have hq : ∀ W, (binOp .eql 23 (.agg #[.int .i64 k, .int .i64 n, .string t]) (.agg #[.int .i64 k', .int .i64 n', .string t'])).run Try.prog W = .ok (.bool r) W := fun W => by rw [← hr1]; exact eql_sc k n t k' n' t' W
    have hgd : ∀ (x y : Operand) (W : World), (eqGuard .eql 23 x y (.agg #[.int .i64 k, .int .i64 n, .string t]) (.agg #[.int .i64 k', .int .i64 n', .string t'])).run Try.prog W = .ok () W := fun x y W => run_eqGuard_agg W .eql 23 x y _ _ (by kernel_rfl)
    clear hr1 hr2
    go_enter Try.func4, Try.ntmps4
    go_wp2_with fail
    rw [← HW.out, ← HY.out, ← HX.out]
    refine (HL.out _ B0.out).mono ?_
    rintro e w1 ⟨rfl, hb⟩
    have B1 := Lib.hid (B0.out.trans (hb.mono B0.out.size))
    have K1 := Lib.hid (K0.out.later hb)
    have L1 := Lib.hid (L0.out.later hb)
    obtain ⟨c0, c1, c2⟩ := K1.out.cells
    clear hb B0 K0 L0
    go_wp2_with fail
    refine (HS.out _).mono ?_
    rintro e w2 ⟨rfl, hb⟩
    have B2 := Lib.hid (B1.out.trans (hb.mono B1.out.size))
    have K2 := Lib.hid (K1.out.later hb)
    have L2 := Lib.hid (L1.out.later hb)
    obtain ⟨d0, d1, d2⟩ := L2.out.cells
    clear hb B1 K1 L1 c0 c1 c2
    go_wp2_with fail
    refine (HS'.out _).mono ?_
    rintro e w3 ⟨rfl, hb⟩
    have B3 : Hid (Below w.heap.size w w3.drew) := by show Below _ _ _; exact Below.drewMany (B2.out.trans (hb.mono B2.out.size)) 1
    have K3 : Hid (Bx X k n t w3.drew) := by have h := K2.out.later hb; exact h
    have L3 : Hid (Bx Y k' n' t' w3.drew) := by have h := L2.out.later hb; exact h
    clear hb B2 K2 L2 d0 d1 d2
    go_wp2_with fail
    go_region_held3 (fun W => (W.cell? ⟨X, 0, none⟩ = some (.int .i64 k) ∧ W.cell? ⟨X, 1, none⟩ = some (.int .i64 n) ∧ W.cell? ⟨X, 2, none⟩ = some (.string t)) ∧ (W.cell? ⟨Y, 0, none⟩ = some (.int .i64 k') ∧ W.cell? ⟨Y, 1, none⟩ = some (.int .i64 n') ∧ W.cell? ⟨Y, 2, none⟩ = some (.string t'))) (first | exact ⟨K3.out.cells, L3.out.cells⟩ | exact ⟨K4.out.cells, L4.out.cells⟩ | exact ⟨K5.out.cells, L5.out.cells⟩ | exact ⟨K6.out.cells, L6.out.cells⟩)
      (first
        | (go_at_call 16; refine (S.order k n t k' n' t' _ (HT.out _ B3.out) HK.out HN.out HK'.out HN'.out HL2.out HL2'.out).mono ?_; rintro e w4 ⟨rfl, hb⟩; have B4 := Lib.hid (B3.out.trans (hb.mono B3.out.size)); have K4 := Lib.hid (K3.out.later hb); have L4 := Lib.hid (L3.out.later hb); clear hb)
        | (go_at_call 17; refine (ref_Order5 k n t k' n' t' _ HM.out).mono ?_; rintro e w5 ⟨rfl, hb⟩; have B5 := Lib.hid (B4.out.trans (hb.mono B4.out.size)); have K5 := Lib.hid (K4.out.later hb); have L5 := Lib.hid (L4.out.later hb); clear hb)
        | (go_at_call 18; refine (HE.out _ B5.out).mono ?_; rintro e w6 ⟨rfl, hb⟩; have B6 := Lib.hid (B5.out.trans (hb.mono B5.out.size)); have K6 := Lib.hid (K5.out.later hb); have L6 := Lib.hid (L5.out.later hb); clear hb))
    cases r
    all_goals go_wp2_with fail
    all_goals go_ret
    all_goals exact ⟨rfl, B6.out⟩
  by_cases h : scT k n t = scT k' n' t'
  · have h' := h
    simp only [Prod.mk.injEq] at h'
    obtain ⟨rfl, rfl, h3⟩ := h'
    obtain rfl := bytes_eq.1 h3
    exact key true (by simp) (by simp)
  · refine key false (decide_eq_false h) ?_
    have h3 : ¬ (k = k' ∧ n = n' ∧ t.data = t'.data) := fun ⟨a, b, c⟩ => h (by simp only [Prod.mk.injEq]; exact ⟨a, b, by rw [c]⟩)
    by_cases a : k = k'
    · by_cases b : n = n'
      · have c : ¬ t.data = t'.data := fun c => h3 ⟨a, b, c⟩
        simp [c]
      · simp [b]
    · simp [a]
end Go.Proofs.Ytjefaibnlhnaiaa
