/- Layer 5's laws ScalarReads and ScalarSums, over what package scalar's functions answer. -/
import Derived.Test.YtjefaibnlhnaiaaLaw05A
namespace Go.Proofs.Ytjefaibnlhnaiaa
open Go.RowKit
set_option maxRecDepth 1000000
set_option maxHeartbeats 4000000
set_option linter.unusedSimpArgs false

theorem scalarReads_of {T : World → Prop} (S : SSpec T) (s : ByteArray) (w : World) (hT : T w) (hs : s.size ≤ maxLen) :
    Calls Try.prog 6 #[.string s] w fun e w' => e = .returned (.bool true) ∧ Below w.heap.size w w' := by
  have HT := Lib.hid (fun W (hb : Below w.heap.size w W) => S.keep hT hb)
  have HL := Lib.hid (fun W (hb : Below w.heap.size w W) => live5_true S W (HT.out W hb))
  have B0 : Hid (Below w.heap.size w w) := Lib.hid (Below.refl _ _)
  unfold maxLen at hs
  by_cases h2 : s.size ≤ 2000
  · have HU := Lib.hid (fun W hb => S.unkey s W (HT.out W hb) (by omega))
    have HR := Lib.hid (fun W => ref_Unkey s W (by omega))
    obtain ⟨⟨⟨k, n, l⟩, m, c⟩, hx⟩ : ∃ x, x = unkSc s.data.toList := ⟨_, rfl⟩
    rw [← hx] at HU HR
    obtain ⟨t, ht⟩ : ∃ t : ByteArray, t = ⟨l.toArray⟩ := ⟨_, rfl⟩
    have HU2 : Hid (∀ W, Below w.heap.size w W → Calls Try.prog 19 #[.string s] W fun e W' => e = .returned (.tuple #[.agg #[.int .i64 k, .int .i64 n, .string t], .int .i64 (m : Nat), .int .i64 c]) ∧ Below W.heap.size W W') := by
      show ∀ W, _; rw [ht]; exact HU.out
    have HR2 : Hid (∀ W, Calls Try.prog 20 #[.string s] W fun e W' => e = .returned (.tuple #[.agg #[.int .i64 k, .int .i64 n, .string t], .int .i64 (m : Nat), .int .i64 c]) ∧ Below W.heap.size W W') := by
      show ∀ W, _; rw [ht]; exact HR.out
    clear HU HR hx ht
    have hl : ¬ (2000 : Int) < s.size := by omega
    clear h2 hs
    have hq : ∀ W, (binOp .eql 23 (.agg #[.int .i64 k, .int .i64 n, .string t]) (.agg #[.int .i64 k, .int .i64 n, .string t])).run Try.prog W = .ok (.bool true) W := fun W => by have h := eql_sc k n t k n t W; rw [decide_eq_true rfl] at h; exact h
    have hgd : ∀ (x y : Operand) (W : World), (eqGuard .eql 23 x y (.agg #[.int .i64 k, .int .i64 n, .string t]) (.agg #[.int .i64 k, .int .i64 n, .string t])).run Try.prog W = .ok () W := fun x y W => run_eqGuard_agg W .eql 23 x y _ _ (by kernel_rfl)
    go_enter Try.func6, Try.ntmps6
    go_wp2_with fail
    refine (HL.out _ B0.out).mono ?_
    rintro e w1 ⟨rfl, hb⟩
    have B1 := Lib.hid (B0.out.trans (hb.mono B0.out.size))
    clear hb B0
    go_wp2_with fail
    refine (HU2.out _ B1.out).mono ?_
    rintro e w2 ⟨rfl, hb⟩
    have B2 := Lib.hid (B1.out.trans (hb.mono B1.out.size))
    clear hb B1
    go_wp2_with fail
    refine (HR2.out _).mono ?_
    rintro e w3 ⟨rfl, hb⟩
    have A2 := Below.more B2.out (.cells #[.int .i64 k, .int .i64 n, .string t] 23)
    have B3 := Lib.hid (A2.trans (hb.mono A2.size))
    obtain ⟨c0, c1, c2⟩ := ((Bx.new k n t w2).later hb).later (Below.newly' w3 (.cells #[.int .i64 k, .int .i64 n, .string t] 23)) |>.cells
    obtain ⟨d0, d1, d2⟩ := (Bx.new k n t w3).cells
    have B4 := Lib.hid (Below.more B3.out (.cells #[.int .i64 k, .int .i64 n, .string t] 23))
    clear hb A2 B2 B3
    go_wp2_with fail
    go_ret
    exact ⟨rfl, B4.out⟩
  · have hl : (2000 : Int) < s.size := by omega
    clear h2 hs
    go_enter Try.func6, Try.ntmps6
    go_wp2_with fail
    refine (HL.out _ B0.out).mono ?_
    rintro e w1 ⟨rfl, hb⟩
    have B1 := Lib.hid (B0.out.trans (hb.mono B0.out.size))
    clear hb B0
    go_wp2_with fail
    refine (HL.out _ B1.out).mono ?_
    rintro e w2 ⟨rfl, hb⟩
    have B2 := Lib.hid (B1.out.trans (hb.mono B1.out.size))
    clear hb B1
    go_wp2_with fail
    go_ret
    exact ⟨rfl, B2.out⟩
theorem scalarSums_of {T : World → Prop} (S : SSpec T) (k n : Int) (t : ByteArray) (k' n' : Int) (t' : ByteArray) (seed : Nat) (hseed : seed < 18446744073709551616) (hk : InR k) (hn : InR n) (ht : t.size ≤ maxLen) (hk' : InR k') (hn' : InR n') (ht' : t'.size ≤ maxLen) (w : World) (hT : T w) :
    Calls Try.prog 9 #[.int .u64 (seed : Int), scV k n t, scV k' n' t'] w fun e w' => e = .returned (.bool true) ∧ Below w.heap.size w w' := by
  have HT := Lib.hid (fun W (hb : Below w.heap.size w W) => S.keep hT hb)
  have HL := Lib.hid (fun W (hb : Below w.heap.size w W) => live5_true S W (HT.out W hb))
  have HS := Lib.hid (fun W => short_walk k n t W ht)
  have HS' := Lib.hid (fun W => short_walk k' n' t' W ht')
  have HK := Lib.hid hk
  have HN := Lib.hid hn
  have HK' := Lib.hid hk'
  have HN' := Lib.hid hn'
  have HD := Lib.hid hseed
  clear hT hk hn ht hk' hn' ht' hseed
  obtain ⟨X, hX⟩ : ∃ X, X = w.heap.size := ⟨_, rfl⟩
  obtain ⟨Y, hY⟩ : ∃ Y, Y = w.heap.size + 1 := ⟨_, rfl⟩
  obtain ⟨w0, hw0⟩ : ∃ w0, w0 = (w.alloc (.cells #[.int .i64 k, .int .i64 n, .string t] 23)).alloc (.cells #[.int .i64 k', .int .i64 n', .string t'] 23) := ⟨_, rfl⟩
  have B0 : Hid (Below w.heap.size w w0) := by show Below _ _ _; rw [hw0]; exact Below.more (Below.newly' _ _) _
  have K0 : Hid (Bx X k n t w0) := by show Bx _ _ _ _ _; rw [hw0, hX]; exact (Bx.new k n t w).later (Below.newly' _ _)
  have L0 : Hid (Bx Y k' n' t' w0) := by
    show Bx _ _ _ _ _
    have h := Bx.new k' n' t' (w.alloc (.cells #[.int .i64 k, .int .i64 n, .string t] 23))
    rw [hw0, hY]
    simpa using h
  have HX := Lib.hid hX
  have HY := Lib.hid hY
  have HW := Lib.hid hw0
  clear hX hY hw0
  by_cases h2 : t.size ≤ 2000
  case neg =>
    rw [decide_eq_false h2] at HS
    clear h2
    go_enter Try.func9, Try.ntmps9
    go_wp2_with fail
    rw [← HW.out, ← HY.out, ← HX.out]
    refine (HL.out _ B0.out).mono ?_
    rintro e w1 ⟨rfl, hb⟩
    have B1 := Lib.hid (B0.out.trans (hb.mono B0.out.size))
    obtain ⟨c0, c1, c2⟩ := (K0.out.later hb).cells
    clear hb B0
    go_wp2_with fail
    refine (HS.out _).mono ?_
    rintro e w2 ⟨rfl, hb⟩
    have B2 := Lib.hid (B1.out.trans (hb.mono B1.out.size))
    clear hb B1 c0 c1 c2
    go_wp2_with fail
    refine (HL.out _ B2.out).mono ?_
    rintro e w3 ⟨rfl, hb⟩
    have B3 := Lib.hid (B2.out.trans (hb.mono B2.out.size))
    clear hb B2
    go_wp2_with fail
    go_ret
    exact ⟨rfl, B3.out⟩
  have HL2 := Lib.hid (show t.size ≤ 1000000 by omega)
  rw [decide_eq_true h2] at HS
  clear h2
  by_cases h2 : t'.size ≤ 2000
  case neg =>
    rw [decide_eq_false h2] at HS'
    clear h2
    go_enter Try.func9, Try.ntmps9
    go_wp2_with fail
    rw [← HW.out, ← HY.out, ← HX.out]
    refine (HL.out _ B0.out).mono ?_
    rintro e w1 ⟨rfl, hb⟩
    have B1 := Lib.hid (B0.out.trans (hb.mono B0.out.size))
    have K1 := Lib.hid (K0.out.later hb)
    have L1 := Lib.hid (L0.out.later hb)
    obtain ⟨c0, c1, c2⟩ := K1.out.cells
    clear hb B0
    go_wp2_with fail
    refine (HS.out _).mono ?_
    rintro e w2 ⟨rfl, hb⟩
    have B2 := Lib.hid (B1.out.trans (hb.mono B1.out.size))
    obtain ⟨d0, d1, d2⟩ := (L1.out.later hb).cells
    clear hb B1 c0 c1 c2
    go_wp2_with fail
    refine (HS'.out _).mono ?_
    rintro e w3 ⟨rfl, hb⟩
    have B3 := Lib.hid (B2.out.trans (hb.mono B2.out.size))
    clear hb B2 d0 d1 d2
    go_wp2_with fail
    refine (HL.out _ B3.out).mono ?_
    rintro e w4 ⟨rfl, hb⟩
    have B4 := Lib.hid (B3.out.trans (hb.mono B3.out.size))
    clear hb B3
    go_wp2_with fail
    go_ret
    exact ⟨rfl, B4.out⟩
  have HL2' := Lib.hid (show t'.size ≤ 1000000 by omega)
  rw [decide_eq_true h2] at HS'
  clear h2
  have htt : (((txtN seed (keySc (scT k n t)) : Nat) : Int) == ((txtN seed (keySc (scT k n t)) : Nat) : Int)) = true := beq_self_eq_true _
  by_cases h : scT k n t = scT k' n' t'
  · have h' := h
    simp only [Prod.mk.injEq] at h'
    obtain ⟨rfl, rfl, h3⟩ := h'
    obtain rfl := bytes_eq.1 h3
    have HE := Lib.hid (fun W (hb : Below w.heap.size w W) => S.same k n t k n t W (HT.out W hb) HK.out HN.out HK.out HN.out HL2.out HL2.out)
    rw [decide_eq_true rfl] at HE
    clear h h3
    go_enter Try.func9, Try.ntmps9
    go_wp2_with fail
    rw [← HW.out, ← HY.out, ← HX.out]
    refine (HL.out _ B0.out).mono ?_
    rintro e w1 ⟨rfl, hb⟩
    have B1 := Lib.hid (B0.out.trans (hb.mono B0.out.size))
    have K1 := Lib.hid (K0.out.later hb)
    have L1 := Lib.hid (L0.out.later hb)
    obtain ⟨c0, c1, c2⟩ := K1.out.cells
    clear hb B0 K0 L0
    go_wp2_with fail
    refine (HS.out _).mono ?_
    rintro e w2 ⟨rfl, hb⟩
    have B2 := Lib.hid (B1.out.trans (hb.mono B1.out.size))
    have K2 := Lib.hid (K1.out.later hb)
    have L2 := Lib.hid (L1.out.later hb)
    obtain ⟨d0, d1, d2⟩ := L2.out.cells
    clear hb B1 K1 L1 c0 c1 c2
    go_wp2_with fail
    refine (HS.out _).mono ?_
    rintro e w3 ⟨rfl, hb⟩
    have B3 : Hid (Below w.heap.size w w3.drew) := by show Below _ _ _; exact Below.drewMany (B2.out.trans (hb.mono B2.out.size)) 1
    have K3 : Hid (Bx X k n t w3.drew) := by have h := K2.out.later hb; exact h
    have L3 : Hid (Bx Y k n t w3.drew) := by have h := L2.out.later hb; exact h
    clear hb B2 K2 L2 d0 d1 d2
    go_wp2_with fail
    go_region_held3 (fun W => (W.cell? ⟨X, 0, none⟩ = some (.int .i64 k) ∧ W.cell? ⟨X, 1, none⟩ = some (.int .i64 n) ∧ W.cell? ⟨X, 2, none⟩ = some (.string t)) ∧ (W.cell? ⟨Y, 0, none⟩ = some (.int .i64 k) ∧ W.cell? ⟨Y, 1, none⟩ = some (.int .i64 n) ∧ W.cell? ⟨Y, 2, none⟩ = some (.string t))) (first | exact ⟨K3.out.cells, L3.out.cells⟩ | exact ⟨K4.out.cells, L4.out.cells⟩ | exact ⟨K5.out.cells, L5.out.cells⟩ | exact ⟨K6.out.cells, L6.out.cells⟩ | exact ⟨K7.out.cells, L7.out.cells⟩ | exact ⟨K8.out.cells, L8.out.cells⟩)
      (first
        | (go_at_call 23; refine (S.hash seed k n t _ (HT.out _ B3.out) HD.out HK.out HN.out HL2.out).mono ?_; rintro e w4 ⟨rfl, hb⟩; have B4 := Lib.hid (B3.out.trans (hb.mono B3.out.size)); have K4 := Lib.hid (K3.out.later hb); have L4 := Lib.hid (L3.out.later hb); clear hb)
        | (go_at_call 24; refine (ref_Hash5 seed k n t _ HD.out HN.out HL2.out).mono ?_; rintro e w5 ⟨rfl, hb⟩; have B5 := Lib.hid (B4.out.trans (hb.mono B4.out.size)); have K5 := Lib.hid (K4.out.later hb); have L5 := Lib.hid (L4.out.later hb); clear hb)
        | (go_at_call 18; refine (HE.out _ B5.out).mono ?_; rintro e w6 ⟨rfl, hb⟩; have B6 := Lib.hid (B5.out.trans (hb.mono B5.out.size)); have K6 := Lib.hid (K5.out.later hb); have L6 := Lib.hid (L5.out.later hb); clear hb)
        | (go_at_call 23; refine (S.hash seed k n t _ (HT.out _ B6.out) HD.out HK.out HN.out HL2.out).mono ?_; rintro e w7 ⟨rfl, hb⟩; have B7 := Lib.hid (B6.out.trans (hb.mono B6.out.size)); have K7 := Lib.hid (K6.out.later hb); have L7 := Lib.hid (L6.out.later hb); clear hb)
        | (go_at_call 23; refine (S.hash seed k n t _ (HT.out _ B7.out) HD.out HK.out HN.out HL2.out).mono ?_; rintro e w8 ⟨rfl, hb⟩; have B8 := Lib.hid (B7.out.trans (hb.mono B7.out.size)); have K8 := Lib.hid (K7.out.later hb); have L8 := Lib.hid (L7.out.later hb); clear hb))
    go_wp2_with fail
    go_ret
    exact ⟨rfl, B8.out⟩
  · have HE := Lib.hid (fun W (hb : Below w.heap.size w W) => S.same k n t k' n' t' W (HT.out W hb) HK.out HN.out HK'.out HN'.out HL2.out HL2'.out)
    rw [decide_eq_false h] at HE
    clear h
    go_enter Try.func9, Try.ntmps9
    go_wp2_with fail
    rw [← HW.out, ← HY.out, ← HX.out]
    refine (HL.out _ B0.out).mono ?_
    rintro e w1 ⟨rfl, hb⟩
    have B1 := Lib.hid (B0.out.trans (hb.mono B0.out.size))
    have K1 := Lib.hid (K0.out.later hb)
    have L1 := Lib.hid (L0.out.later hb)
    obtain ⟨c0, c1, c2⟩ := K1.out.cells
    clear hb B0 K0 L0
    go_wp2_with fail
    refine (HS.out _).mono ?_
    rintro e w2 ⟨rfl, hb⟩
    have B2 := Lib.hid (B1.out.trans (hb.mono B1.out.size))
    have K2 := Lib.hid (K1.out.later hb)
    have L2 := Lib.hid (L1.out.later hb)
    obtain ⟨d0, d1, d2⟩ := L2.out.cells
    clear hb B1 K1 L1 c0 c1 c2
    go_wp2_with fail
    refine (HS'.out _).mono ?_
    rintro e w3 ⟨rfl, hb⟩
    have B3 : Hid (Below w.heap.size w w3.drew) := by show Below _ _ _; exact Below.drewMany (B2.out.trans (hb.mono B2.out.size)) 1
    have K3 : Hid (Bx X k n t w3.drew) := by have h := K2.out.later hb; exact h
    have L3 : Hid (Bx Y k' n' t' w3.drew) := by have h := L2.out.later hb; exact h
    clear hb B2 K2 L2 d0 d1 d2
    go_wp2_with fail
    refine wp_region_held_drew (S := (fun W => (W.cell? ⟨X, 0, none⟩ = some (.int .i64 k) ∧ W.cell? ⟨X, 1, none⟩ = some (.int .i64 n) ∧ W.cell? ⟨X, 2, none⟩ = some (.string t)) ∧ (W.cell? ⟨Y, 0, none⟩ = some (.int .i64 k') ∧ W.cell? ⟨Y, 1, none⟩ = some (.int .i64 n') ∧ W.cell? ⟨Y, 2, none⟩ = some (.string t')))) (by kernel_rfl) (by first | exact ⟨K3.out.cells, L3.out.cells⟩ | exact ⟨K4.out.cells, L4.out.cells⟩ | exact ⟨K5.out.cells, L5.out.cells⟩ | exact ⟨K6.out.cells, L6.out.cells⟩) (fun hHeld => ?_)
    refine wpAnyH_take (i := 0) (oi := ⟨some 20, _, _, _, _, _⟩) (v := ?v0) rfl (by kernel_rfl) (by kernel_rfl) (by kernel_rfl) (fun _ _ _ h => h) (Or.inl ⟨by rfl, ?h0⟩) (by assumption) ?r0
    case h0 => (intro w hSw; (try dsimp only at hSw); first | (go_simp; done) | (go_simp; with_reducible rfl))
    (try simp only [Act.put, List.setIfInBounds_toArray, List.set_cons_zero, List.set_cons_succ])
    refine wpAnyH_take (i := 1) (oi := ⟨some 21, _, _, _, _, _⟩) (v := ?v1) rfl (by kernel_rfl) (by kernel_rfl) (by kernel_rfl) (fun _ _ _ h => h) (Or.inl ⟨by rfl, ?h1⟩) (by assumption) ?r1
    case h1 => (intro w hSw; (try dsimp only at hSw); first | (go_simp; done) | (go_simp; with_reducible rfl))
    (try simp only [Act.put, List.setIfInBounds_toArray, List.set_cons_zero, List.set_cons_succ])
    refine wpAnyH_take (i := 3) (oi := ⟨some 23, _, _, _, _, _⟩) (v := ?v3) rfl (by kernel_rfl) (by kernel_rfl) (by kernel_rfl) (fun _ _ _ h => h) (Or.inl ⟨by rfl, ?h3⟩) (by assumption) ?r3
    case h3 => (intro w hSw; (try dsimp only at hSw); first | (go_simp; done) | (go_simp; with_reducible rfl))
    (try simp only [Act.put, List.setIfInBounds_toArray, List.set_cons_zero, List.set_cons_succ])
    refine wpAnyH_take (i := 4) (oi := ⟨some 24, _, _, _, _, _⟩) (v := ?v4) rfl (by kernel_rfl) (by kernel_rfl) (by kernel_rfl) (fun _ _ _ h => h) (Or.inl ⟨by rfl, ?h4⟩) (by assumption) ?r4
    case h4 => (intro w hSw; (try dsimp only at hSw); first | (go_simp; done) | (go_simp; with_reducible rfl))
    (try simp only [Act.put, List.setIfInBounds_toArray, List.set_cons_zero, List.set_cons_succ])
    refine wpAnyH_ready (rs := [2]) (by kernel_rfl) (by simp) ?_
    refine AllReadyH.cons (o := ⟨some 22, _, _, _, _, _⟩) rfl (fun K hK => ?_) AllReadyH.nil
    go_simp
    (go_at_call 23; refine (S.hash seed k n t _ (HT.out _ B3.out) HD.out HK.out HN.out HL2.out).mono ?_; rintro e w4 ⟨rfl, hb⟩; have B4 := Lib.hid (B3.out.trans (hb.mono B3.out.size)); have K4 := Lib.hid (K3.out.later hb); have L4 := Lib.hid (L3.out.later hb); clear hb)
    (try go_wp2_with fail)
    refine hK.out _ _ (by first | exact ⟨K3.out.cells, L3.out.cells⟩ | exact ⟨K4.out.cells, L4.out.cells⟩ | exact ⟨K5.out.cells, L5.out.cells⟩ | exact ⟨K6.out.cells, L6.out.cells⟩) (fun hHeld => ?_)
    clear hK K
    (try simp only [Act.put, List.setIfInBounds_toArray, List.set_cons_zero, List.set_cons_succ])
    refine wpAnyH_ready (rs := [5]) (by kernel_rfl) (by simp) ?_
    refine AllReadyH.cons (o := ⟨some 25, _, _, _, _, _⟩) rfl (fun K hK => ?_) AllReadyH.nil
    go_simp
    (go_at_call 24; refine (ref_Hash5 seed k n t _ HD.out HN.out HL2.out).mono ?_; rintro e w5 ⟨rfl, hb⟩; have B5 := Lib.hid (B4.out.trans (hb.mono B4.out.size)); have K5 := Lib.hid (K4.out.later hb); have L5 := Lib.hid (L4.out.later hb); clear hb)
    (try go_wp2_with fail)
    refine hK.out _ _ (by first | exact ⟨K3.out.cells, L3.out.cells⟩ | exact ⟨K4.out.cells, L4.out.cells⟩ | exact ⟨K5.out.cells, L5.out.cells⟩ | exact ⟨K6.out.cells, L6.out.cells⟩) (fun hHeld => ?_)
    clear hK K
    (try simp only [Act.put, List.setIfInBounds_toArray, List.set_cons_zero, List.set_cons_succ])
    refine wpAnyH_take (i := 6) (oi := ⟨some 26, _, _, _, _, _⟩) (v := ?v6) rfl (by kernel_rfl) (by kernel_rfl) (by kernel_rfl) (fun _ _ _ h => h) (Or.inl ⟨by rfl, ?h6⟩) (by assumption) ?r6
    case h6 => (intro w hSw; (try dsimp only at hSw); first | (go_simp; done) | (go_simp; with_reducible rfl))
    (try simp only [Act.put, List.setIfInBounds_toArray, List.set_cons_zero, List.set_cons_succ])
    refine wpAnyH_take (i := 7) (oi := ⟨some 27, _, _, _, _, _⟩) (v := ?v7) rfl (by kernel_rfl) (by kernel_rfl) (by kernel_rfl) (fun _ _ _ h => h) (Or.inl ⟨by rfl, ?h7⟩) (by assumption) ?r7
    case h7 => (intro w hSw; (try dsimp only at hSw); first | (go_simp; done) | (go_simp; with_reducible rfl))
    (try simp only [Act.put, List.setIfInBounds_toArray, List.set_cons_zero, List.set_cons_succ])
    refine wpAnyH_take (i := 8) (oi := ⟨some 28, _, _, _, _, _⟩) (v := ?v8) rfl (by kernel_rfl) (by kernel_rfl) (by kernel_rfl) (fun _ _ _ h => h) (Or.inl ⟨by rfl, ?h8⟩) (by assumption) ?r8
    case h8 => (intro w hSw; (try dsimp only at hSw); first | (go_simp; done) | (go_simp; with_reducible rfl))
    (try simp only [Act.put, List.setIfInBounds_toArray, List.set_cons_zero, List.set_cons_succ])
    refine wpAnyH_take (i := 9) (oi := ⟨some 29, _, _, _, _, _⟩) (v := ?v9) rfl (by kernel_rfl) (by kernel_rfl) (by kernel_rfl) (fun _ _ _ h => h) (Or.inl ⟨by rfl, ?h9⟩) (by assumption) ?r9
    case h9 => (intro w hSw; (try dsimp only at hSw); first | (go_simp; done) | (go_simp; with_reducible rfl))
    (try simp only [Act.put, List.setIfInBounds_toArray, List.set_cons_zero, List.set_cons_succ])
    refine wpAnyH_ready (rs := [10]) (by kernel_rfl) (by simp) ?_
    refine AllReadyH.cons (o := ⟨some 30, _, _, _, _, _⟩) rfl (fun K hK => ?_) AllReadyH.nil
    go_simp
    (go_at_call 18; refine (HE.out _ B5.out).mono ?_; rintro e w6 ⟨rfl, hb⟩; have B6 := Lib.hid (B5.out.trans (hb.mono B5.out.size)); have K6 := Lib.hid (K5.out.later hb); have L6 := Lib.hid (L5.out.later hb); clear hb)
    (try go_wp2_with fail)
    refine hK.out _ _ (by first | exact ⟨K3.out.cells, L3.out.cells⟩ | exact ⟨K4.out.cells, L4.out.cells⟩ | exact ⟨K5.out.cells, L5.out.cells⟩ | exact ⟨K6.out.cells, L6.out.cells⟩) (fun hHeld => ?_)
    clear hK K
    (try simp only [Act.put, List.setIfInBounds_toArray, List.set_cons_zero, List.set_cons_succ])
    refine wpAnyH_take (i := 11) (oi := ⟨some 31, _, _, _, _, _⟩) (v := ?v11) rfl (by kernel_rfl) (by kernel_rfl) (by kernel_rfl) (fun _ _ _ h => h) (Or.inl ⟨by rfl, ?h11⟩) (by assumption) ?r11
    case h11 => (intro w hSw; (try dsimp only at hSw); first | (go_simp; done) | (go_simp; with_reducible rfl))
    (try simp only [Act.put, List.setIfInBounds_toArray, List.set_cons_zero, List.set_cons_succ])
    refine wpAnyH_take (i := 12) (oi := ⟨some 32, _, _, _, _, _⟩) (v := ?v12) rfl (by kernel_rfl) (by kernel_rfl) (by kernel_rfl) (fun _ _ _ h => h) (Or.inl ⟨by rfl, ?h12⟩) (by assumption) ?r12
    case h12 => (intro w hSw; (try dsimp only at hSw); first | (go_simp; done) | (go_simp; with_reducible rfl))
    (try simp only [Act.put, List.setIfInBounds_toArray, List.set_cons_zero, List.set_cons_succ])
    refine wpAnyH_take (i := 13) (oi := ⟨some 33, _, _, _, _, _⟩) (v := undef) rfl (by kernel_rfl) (by kernel_rfl) (by kernel_rfl) (fun _ _ _ h => h) (Or.inr ⟨by rfl, rfl⟩) (by assumption) ?_
    (try simp only [Act.put, List.setIfInBounds_toArray, List.set_cons_zero, List.set_cons_succ])
    refine wpAnyH_take (i := 14) (oi := ⟨some 34, _, _, _, _, _⟩) (v := undef) rfl (by kernel_rfl) (by kernel_rfl) (by kernel_rfl) (fun _ _ _ h => h) (Or.inr ⟨by rfl, rfl⟩) (by assumption) ?_
    (try simp only [Act.put, List.setIfInBounds_toArray, List.set_cons_zero, List.set_cons_succ])
    refine wpAnyH_take (i := 15) (oi := ⟨some 35, _, _, _, _, _⟩) (v := undef) rfl (by kernel_rfl) (by kernel_rfl) (by kernel_rfl) (fun _ _ _ h => h) (Or.inr ⟨by rfl, rfl⟩) (by assumption) ?_
    (try simp only [Act.put, List.setIfInBounds_toArray, List.set_cons_zero, List.set_cons_succ])
    refine wpAnyH_take (i := 16) (oi := ⟨some 36, _, _, _, _, _⟩) (v := undef) rfl (by kernel_rfl) (by kernel_rfl) (by kernel_rfl) (fun _ _ _ h => h) (Or.inr ⟨by rfl, rfl⟩) (by assumption) ?_
    (try simp only [Act.put, List.setIfInBounds_toArray, List.set_cons_zero, List.set_cons_succ])
    refine wpAnyH_take (i := 17) (oi := ⟨some 37, _, _, _, _, _⟩) (v := undef) rfl (by kernel_rfl) (by kernel_rfl) (by kernel_rfl) (fun _ _ _ h => h) (Or.inr ⟨by rfl, rfl⟩) (by assumption) ?_
    (try simp only [Act.put, List.setIfInBounds_toArray, List.set_cons_zero, List.set_cons_succ])
    refine wpAnyH_take (i := 18) (oi := ⟨some 38, _, _, _, _, _⟩) (v := undef) rfl (by kernel_rfl) (by kernel_rfl) (by kernel_rfl) (fun _ _ _ h => h) (Or.inr ⟨by rfl, rfl⟩) (by assumption) ?_
    (try simp only [Act.put, List.setIfInBounds_toArray, List.set_cons_zero, List.set_cons_succ])
    refine wpAnyH_take (i := 19) (oi := ⟨some 39, _, _, _, _, _⟩) (v := undef) rfl (by kernel_rfl) (by kernel_rfl) (by kernel_rfl) (fun _ _ _ h => h) (Or.inr ⟨by rfl, rfl⟩) (by assumption) ?_
    (try simp only [Act.put, List.setIfInBounds_toArray, List.set_cons_zero, List.set_cons_succ])
    refine wpAnyH_take (i := 20) (oi := ⟨some 40, _, _, _, _, _⟩) (v := ?v20) rfl (by kernel_rfl) (by kernel_rfl) (by kernel_rfl) (fun _ _ _ h => h) (Or.inl ⟨by rfl, ?h20⟩) (by assumption) ?r20
    case h20 => (intro w hSw; (try dsimp only at hSw); first | (go_simp; done) | (go_simp; with_reducible rfl))
    (try simp only [Act.put, List.setIfInBounds_toArray, List.set_cons_zero, List.set_cons_succ])
    refine wpAnyH_take (i := 21) (oi := ⟨some 41, _, _, _, _, _⟩) (v := ?v21) rfl (by kernel_rfl) (by kernel_rfl) (by kernel_rfl) (fun _ _ _ h => h) (Or.inl ⟨by rfl, ?h21⟩) (by assumption) ?r21
    case h21 => (intro w hSw; (try dsimp only at hSw); first | (go_simp; done) | (go_simp; with_reducible rfl))
    (try simp only [Act.put, List.setIfInBounds_toArray, List.set_cons_zero, List.set_cons_succ])
    refine wpAnyH_take (i := 22) (oi := ⟨some 6, _, _, _, _, _⟩) (v := ?v22) rfl (by kernel_rfl) (by kernel_rfl) (by kernel_rfl) (fun _ _ _ h => h) (Or.inl ⟨by rfl, ?h22⟩) (by assumption) ?r22
    case h22 => (intro w hSw; (try dsimp only at hSw); first | (go_simp; done) | (go_simp; with_reducible rfl))
    (try simp only [Act.put, List.setIfInBounds_toArray, List.set_cons_zero, List.set_cons_succ])
    refine wpAnyH_done (by kernel_rfl) ?_ _
    go_wp2_with fail
    go_ret
    exact ⟨rfl, B6.out⟩
end Go.Proofs.Ytjefaibnlhnaiaa
