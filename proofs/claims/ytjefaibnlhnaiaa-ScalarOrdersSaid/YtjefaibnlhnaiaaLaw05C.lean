/- Layer 5's law ScalarTotal, over what package scalar's functions answer. -/
import Derived.Test.YtjefaibnlhnaiaaLaw05A
namespace Go.Proofs.Ytjefaibnlhnaiaa
open Go.RowKit
set_option maxRecDepth 1000000
set_option maxHeartbeats 4000000

/-- What three orders may be. -/
theorem total_cases (x y z v : Int) (r : Bool) (hneg : v = -x) (htr : x ≤ 0 → y ≤ 0 → z ≤ 0 ∧ (x = 0 ∧ y = 0 ∨ z < 0)) (h1 : x = -1 ∨ x = 0 ∨ x = 1) (h2 : y = -1 ∨ y = 0 ∨ y = 1) (h3 : z = -1 ∨ z = 0 ∨ z = 1) (hr : (x = 0 ∧ r = true) ∨ (x ≠ 0 ∧ r = false)) :
    (x = 1 ∧ v = -1 ∧ r = false) ∨ (x = -1 ∧ v = 1 ∧ r = false ∧ y = 1) ∨ (x = 0 ∧ v = 0 ∧ r = true ∧ y = 1) ∨ (x = -1 ∧ v = 1 ∧ r = false ∧ y ≤ 0 ∧ z = -1) ∨ (x = 0 ∧ v = 0 ∧ r = true ∧ y ≤ 0 ∧ z = -1) ∨ (x = 0 ∧ v = 0 ∧ r = true ∧ y = 0 ∧ z = 0) := by
  subst hneg
  rcases h1 with rfl | rfl | rfl <;> rcases h2 with rfl | rfl | rfl <;> rcases h3 with rfl | rfl | rfl <;> cases r <;> simp at hr htr ⊢

theorem scalarTotal_of {T : World → Prop} (S : SSpec T) (k n : Int) (t : ByteArray) (k' n' : Int) (t' : ByteArray) (k'' n'' : Int) (t'' : ByteArray) (hk : InR k) (hn : InR n) (ht : t.size ≤ maxLen) (hk' : InR k') (hn' : InR n') (ht' : t'.size ≤ maxLen) (hk'' : InR k'') (hn'' : InR n'') (ht'' : t''.size ≤ maxLen) (w : World) (hT : T w) :
    Calls Try.prog 5 #[scV k n t, scV k' n' t', scV k'' n'' t''] w fun e w' => e = .returned (.bool true) ∧ Below w.heap.size w w' := by
  have HT := Lib.hid (fun W (hb : Below w.heap.size w W) => S.keep hT hb)
  have HL := Lib.hid (fun W (hb : Below w.heap.size w W) => live5_true S W (HT.out W hb))
  have HS := Lib.hid (fun W => short_walk k n t W ht)
  have HK := Lib.hid hk
  have HN := Lib.hid hn
  have HS' := Lib.hid (fun W => short_walk k' n' t' W ht')
  have HK' := Lib.hid hk'
  have HN' := Lib.hid hn'
  have HS'' := Lib.hid (fun W => short_walk k'' n'' t'' W ht'')
  have HK'' := Lib.hid hk''
  have HN'' := Lib.hid hn''
  clear hT hk hn ht hk' hn' ht' hk'' hn'' ht''
  obtain ⟨X, hX⟩ : ∃ X, X = w.heap.size := ⟨_, rfl⟩
  obtain ⟨Y, hY⟩ : ∃ Y, Y = w.heap.size + 1 := ⟨_, rfl⟩
  obtain ⟨Z, hZ⟩ : ∃ Z, Z = w.heap.size + 1 + 1 := ⟨_, rfl⟩
  obtain ⟨w0, hw0⟩ : ∃ w0, w0 = ((w.alloc (.cells #[.int .i64 k, .int .i64 n, .string t] 23)).alloc (.cells #[.int .i64 k', .int .i64 n', .string t'] 23)).alloc (.cells #[.int .i64 k'', .int .i64 n'', .string t''] 23) := ⟨_, rfl⟩
  have B0 : Hid (Below w.heap.size w w0) := by show Below _ _ _; rw [hw0]; exact Below.more (Below.more (Below.newly' _ _) _) _
  have K0 : Hid (Bx X k n t w0) := by show Bx _ _ _ _ _; rw [hw0, hX]; exact ((Bx.new k n t w).later (Below.newly' _ _)).later (Below.newly' _ _)
  have L0 : Hid (Bx Y k' n' t' w0) := by
    show Bx _ _ _ _ _
    have h := (Bx.new k' n' t' (w.alloc (.cells #[.int .i64 k, .int .i64 n, .string t] 23))).later (Below.newly' _ (.cells #[.int .i64 k'', .int .i64 n'', .string t''] 23))
    rw [hw0, hY]
    simpa using h
  have M0 : Hid (Bx Z k'' n'' t'' w0) := by
    show Bx _ _ _ _ _
    have h := Bx.new k'' n'' t'' ((w.alloc (.cells #[.int .i64 k, .int .i64 n, .string t] 23)).alloc (.cells #[.int .i64 k', .int .i64 n', .string t'] 23))
    rw [hw0, hZ]
    simpa [Nat.add_assoc] using h
  have HX := Lib.hid hX
  have HY := Lib.hid hY
  have HZ := Lib.hid hZ
  have HW := Lib.hid hw0
  clear hX hY hZ hw0
  by_cases h2 : t.size ≤ 2000
  case neg =>
    rw [decide_eq_false h2] at HS
    clear h2
    go_enter Try.func5, Try.ntmps5
    go_wp2_with fail
    rw [← HW.out, ← HZ.out, ← HY.out, ← HX.out]
    refine (HL.out _ B0.out).mono ?_
    rintro e w1 ⟨rfl, hb⟩
    have B1 := Lib.hid (B0.out.trans (hb.mono B0.out.size))
    have K1 : Hid (Bx X k n t w1) := by have h := K0.out.later hb; exact h
    have L1 : Hid (Bx Y k' n' t' w1) := by have h := L0.out.later hb; exact h
    have M1 : Hid (Bx Z k'' n'' t'' w1) := by have h := M0.out.later hb; exact h
    clear hb B0 K0 L0 M0
    obtain ⟨c00, c01, c02⟩ := K1.out.cells
    go_wp2_with fail
    refine (HS.out _).mono ?_
    rintro e w2 ⟨rfl, hb⟩
    have B2 := Lib.hid (B1.out.trans (hb.mono B1.out.size))
    have K2 : Hid (Bx X k n t w2) := by have h := K1.out.later hb; exact h
    have L2 : Hid (Bx Y k' n' t' w2) := by have h := L1.out.later hb; exact h
    have M2 : Hid (Bx Z k'' n'' t'' w2) := by have h := M1.out.later hb; exact h
    clear hb B1 K1 L1 M1 c00 c01 c02
    go_wp2_with fail
    refine (HL.out _ B2.out).mono ?_
    rintro e w3 ⟨rfl, hb⟩
    have B3 := Lib.hid (B2.out.trans (hb.mono B2.out.size))
    have K3 : Hid (Bx X k n t w3) := by have h := K2.out.later hb; exact h
    have L3 : Hid (Bx Y k' n' t' w3) := by have h := L2.out.later hb; exact h
    have M3 : Hid (Bx Z k'' n'' t'' w3) := by have h := M2.out.later hb; exact h
    clear hb B2 K2 L2 M2
    go_wp2_with fail
    go_ret
    exact ⟨rfl, B3.out⟩
  have HM := Lib.hid (show t.size ≤ 1000000 by omega)
  rw [decide_eq_true h2] at HS
  clear h2
  by_cases h2 : t'.size ≤ 2000
  case neg =>
    rw [decide_eq_false h2] at HS'
    clear h2
    go_enter Try.func5, Try.ntmps5
    go_wp2_with fail
    rw [← HW.out, ← HZ.out, ← HY.out, ← HX.out]
    refine (HL.out _ B0.out).mono ?_
    rintro e w1 ⟨rfl, hb⟩
    have B1 := Lib.hid (B0.out.trans (hb.mono B0.out.size))
    have K1 : Hid (Bx X k n t w1) := by have h := K0.out.later hb; exact h
    have L1 : Hid (Bx Y k' n' t' w1) := by have h := L0.out.later hb; exact h
    have M1 : Hid (Bx Z k'' n'' t'' w1) := by have h := M0.out.later hb; exact h
    clear hb B0 K0 L0 M0
    obtain ⟨c00, c01, c02⟩ := K1.out.cells
    go_wp2_with fail
    refine (HS.out _).mono ?_
    rintro e w2 ⟨rfl, hb⟩
    have B2 := Lib.hid (B1.out.trans (hb.mono B1.out.size))
    have K2 : Hid (Bx X k n t w2) := by have h := K1.out.later hb; exact h
    have L2 : Hid (Bx Y k' n' t' w2) := by have h := L1.out.later hb; exact h
    have M2 : Hid (Bx Z k'' n'' t'' w2) := by have h := M1.out.later hb; exact h
    clear hb B1 K1 L1 M1 c00 c01 c02
    obtain ⟨c10, c11, c12⟩ := L2.out.cells
    go_wp2_with fail
    refine (HS'.out _).mono ?_
    rintro e w3 ⟨rfl, hb⟩
    have B3 := Lib.hid (B2.out.trans (hb.mono B2.out.size))
    have K3 : Hid (Bx X k n t w3) := by have h := K2.out.later hb; exact h
    have L3 : Hid (Bx Y k' n' t' w3) := by have h := L2.out.later hb; exact h
    have M3 : Hid (Bx Z k'' n'' t'' w3) := by have h := M2.out.later hb; exact h
    clear hb B2 K2 L2 M2 c10 c11 c12
    go_wp2_with fail
    refine (HL.out _ B3.out).mono ?_
    rintro e w4 ⟨rfl, hb⟩
    have B4 := Lib.hid (B3.out.trans (hb.mono B3.out.size))
    have K4 : Hid (Bx X k n t w4) := by have h := K3.out.later hb; exact h
    have L4 : Hid (Bx Y k' n' t' w4) := by have h := L3.out.later hb; exact h
    have M4 : Hid (Bx Z k'' n'' t'' w4) := by have h := M3.out.later hb; exact h
    clear hb B3 K3 L3 M3
    go_wp2_with fail
    go_ret
    exact ⟨rfl, B4.out⟩
  have HM' := Lib.hid (show t'.size ≤ 1000000 by omega)
  rw [decide_eq_true h2] at HS'
  clear h2
  by_cases h2 : t''.size ≤ 2000
  case neg =>
    rw [decide_eq_false h2] at HS''
    clear h2
    go_enter Try.func5, Try.ntmps5
    go_wp2_with fail
    rw [← HW.out, ← HZ.out, ← HY.out, ← HX.out]
    refine (HL.out _ B0.out).mono ?_
    rintro e w1 ⟨rfl, hb⟩
    have B1 := Lib.hid (B0.out.trans (hb.mono B0.out.size))
    have K1 : Hid (Bx X k n t w1) := by have h := K0.out.later hb; exact h
    have L1 : Hid (Bx Y k' n' t' w1) := by have h := L0.out.later hb; exact h
    have M1 : Hid (Bx Z k'' n'' t'' w1) := by have h := M0.out.later hb; exact h
    clear hb B0 K0 L0 M0
    obtain ⟨c00, c01, c02⟩ := K1.out.cells
    go_wp2_with fail
    refine (HS.out _).mono ?_
    rintro e w2 ⟨rfl, hb⟩
    have B2 := Lib.hid (B1.out.trans (hb.mono B1.out.size))
    have K2 : Hid (Bx X k n t w2) := by have h := K1.out.later hb; exact h
    have L2 : Hid (Bx Y k' n' t' w2) := by have h := L1.out.later hb; exact h
    have M2 : Hid (Bx Z k'' n'' t'' w2) := by have h := M1.out.later hb; exact h
    clear hb B1 K1 L1 M1 c00 c01 c02
    obtain ⟨c10, c11, c12⟩ := L2.out.cells
    go_wp2_with fail
    refine (HS'.out _).mono ?_
    rintro e w3 ⟨rfl, hb⟩
    have B3 := Lib.hid (B2.out.trans (hb.mono B2.out.size))
    have K3 : Hid (Bx X k n t w3) := by have h := K2.out.later hb; exact h
    have L3 : Hid (Bx Y k' n' t' w3) := by have h := L2.out.later hb; exact h
    have M3 : Hid (Bx Z k'' n'' t'' w3) := by have h := M2.out.later hb; exact h
    clear hb B2 K2 L2 M2 c10 c11 c12
    obtain ⟨c20, c21, c22⟩ := M3.out.cells
    go_wp2_with fail
    refine (HS''.out _).mono ?_
    rintro e w4 ⟨rfl, hb⟩
    have B4 := Lib.hid (B3.out.trans (hb.mono B3.out.size))
    have K4 : Hid (Bx X k n t w4) := by have h := K3.out.later hb; exact h
    have L4 : Hid (Bx Y k' n' t' w4) := by have h := L3.out.later hb; exact h
    have M4 : Hid (Bx Z k'' n'' t'' w4) := by have h := M3.out.later hb; exact h
    clear hb B3 K3 L3 M3 c20 c21 c22
    go_wp2_with fail
    refine (HL.out _ B4.out).mono ?_
    rintro e w5 ⟨rfl, hb⟩
    have B5 := Lib.hid (B4.out.trans (hb.mono B4.out.size))
    have K5 : Hid (Bx X k n t w5) := by have h := K4.out.later hb; exact h
    have L5 : Hid (Bx Y k' n' t' w5) := by have h := L4.out.later hb; exact h
    have M5 : Hid (Bx Z k'' n'' t'' w5) := by have h := M4.out.later hb; exact h
    clear hb B4 K4 L4 M4
    go_wp2_with fail
    go_ret
    exact ⟨rfl, B5.out⟩
  have HM'' := Lib.hid (show t''.size ≤ 1000000 by omega)
  rw [decide_eq_true h2] at HS''
  clear h2
  have HA := Lib.hid (fun W (hb : Below w.heap.size w W) => S.order k n t k' n' t' W (HT.out W hb) HK.out HN.out HK'.out HN'.out HM.out HM'.out)
  have HB := Lib.hid (fun W (hb : Below w.heap.size w W) => S.order k' n' t' k'' n'' t'' W (HT.out W hb) HK'.out HN'.out HK''.out HN''.out HM'.out HM''.out)
  have HC := Lib.hid (fun W (hb : Below w.heap.size w W) => S.order k n t k'' n'' t'' W (HT.out W hb) HK.out HN.out HK''.out HN''.out HM.out HM''.out)
  have HD := Lib.hid (fun W (hb : Below w.heap.size w W) => S.order k' n' t' k n t W (HT.out W hb) HK'.out HN'.out HK.out HN.out HM'.out HM.out)
  have HE := Lib.hid (fun W (hb : Below w.heap.size w W) => S.same k n t k' n' t' W (HT.out W hb) HK.out HN.out HK'.out HN'.out HM.out HM'.out)
  have hneg := ordSc_neg (scT k n t) (scT k' n' t')
  have hzero := ordSc_zero (scT k n t) (scT k' n' t')
  have htr := ordSc_trans (scT k n t) (scT k' n' t') (scT k'' n'' t'')
  have hr1 := ordSc_range (scT k n t) (scT k' n' t')
  have hr2 := ordSc_range (scT k' n' t') (scT k'' n'' t'')
  have hr3 := ordSc_range (scT k n t) (scT k'' n'' t'')
  obtain ⟨x, hx⟩ : ∃ x, ordSc (scT k n t) (scT k' n' t') = x := ⟨_, rfl⟩
  obtain ⟨y, hy⟩ : ∃ y, ordSc (scT k' n' t') (scT k'' n'' t'') = y := ⟨_, rfl⟩
  obtain ⟨z, hz⟩ : ∃ z, ordSc (scT k n t) (scT k'' n'' t'') = z := ⟨_, rfl⟩
  obtain ⟨v, hv⟩ : ∃ v, ordSc (scT k' n' t') (scT k n t) = v := ⟨_, rfl⟩
  obtain ⟨r, hr⟩ : ∃ r, decide (scT k n t = scT k' n' t') = r := ⟨_, rfl⟩
  rw [hx] at HA hneg hzero htr hr1
  rw [hy] at HB htr hr2
  rw [hz] at HC htr hr3
  rw [hv] at HD hneg
  rw [hr] at HE
  have hrx : (x = 0 ∧ r = true) ∨ (x ≠ 0 ∧ r = false) := by
    rw [← hr]
    by_cases h : scT k n t = scT k' n' t'
    · exact .inl ⟨hzero.2 h, decide_eq_true h⟩
    · exact .inr ⟨fun e => h (hzero.1 e), decide_eq_false h⟩
  have hp := total_cases x y z v r hneg htr hr1 hr2 hr3 hrx
  have HP := Lib.hid hp
  clear hneg hzero htr hr1 hr2 hr3 hx hy hz hv hr hrx hp
  go_enter Try.func5, Try.ntmps5
  go_wp2_with fail
  rw [← HW.out, ← HZ.out, ← HY.out, ← HX.out]
  refine (HL.out _ B0.out).mono ?_
  rintro e w1 ⟨rfl, hb⟩
  have B1 := Lib.hid (B0.out.trans (hb.mono B0.out.size))
  have K1 : Hid (Bx X k n t w1) := by have h := K0.out.later hb; exact h
  have L1 : Hid (Bx Y k' n' t' w1) := by have h := L0.out.later hb; exact h
  have M1 : Hid (Bx Z k'' n'' t'' w1) := by have h := M0.out.later hb; exact h
  clear hb B0 K0 L0 M0
  obtain ⟨c00, c01, c02⟩ := K1.out.cells
  go_wp2_with fail
  refine (HS.out _).mono ?_
  rintro e w2 ⟨rfl, hb⟩
  have B2 := Lib.hid (B1.out.trans (hb.mono B1.out.size))
  have K2 : Hid (Bx X k n t w2) := by have h := K1.out.later hb; exact h
  have L2 : Hid (Bx Y k' n' t' w2) := by have h := L1.out.later hb; exact h
  have M2 : Hid (Bx Z k'' n'' t'' w2) := by have h := M1.out.later hb; exact h
  clear hb B1 K1 L1 M1 c00 c01 c02
  obtain ⟨c10, c11, c12⟩ := L2.out.cells
  go_wp2_with fail
  refine (HS'.out _).mono ?_
  rintro e w3 ⟨rfl, hb⟩
  have B3 := Lib.hid (B2.out.trans (hb.mono B2.out.size))
  have K3 : Hid (Bx X k n t w3) := by have h := K2.out.later hb; exact h
  have L3 : Hid (Bx Y k' n' t' w3) := by have h := L2.out.later hb; exact h
  have M3 : Hid (Bx Z k'' n'' t'' w3) := by have h := M2.out.later hb; exact h
  clear hb B2 K2 L2 M2 c10 c11 c12
  obtain ⟨c20, c21, c22⟩ := M3.out.cells
  go_wp2_with fail
  refine (HS''.out _).mono ?_
  rintro e w4 ⟨rfl, hb⟩
  have B4 : Hid (Below w.heap.size w w4.drew) := by show Below _ _ _; exact Below.drewMany (B3.out.trans (hb.mono B3.out.size)) 1
  have K4 : Hid (Bx X k n t w4.drew) := by have h := K3.out.later hb; exact h
  have L4 : Hid (Bx Y k' n' t' w4.drew) := by have h := L3.out.later hb; exact h
  have M4 : Hid (Bx Z k'' n'' t'' w4.drew) := by have h := M3.out.later hb; exact h
  clear hb B3 K3 L3 M3 c20 c21 c22
  go_wp2_with fail
  go_region_held3 (fun W => (W.cell? ⟨X, 0, none⟩ = some (.int .i64 k) ∧ W.cell? ⟨X, 1, none⟩ = some (.int .i64 n) ∧ W.cell? ⟨X, 2, none⟩ = some (.string t)) ∧ (W.cell? ⟨Y, 0, none⟩ = some (.int .i64 k') ∧ W.cell? ⟨Y, 1, none⟩ = some (.int .i64 n') ∧ W.cell? ⟨Y, 2, none⟩ = some (.string t')) ∧ (W.cell? ⟨Z, 0, none⟩ = some (.int .i64 k'') ∧ W.cell? ⟨Z, 1, none⟩ = some (.int .i64 n'') ∧ W.cell? ⟨Z, 2, none⟩ = some (.string t''))) (first | exact ⟨K4.out.cells, L4.out.cells, M4.out.cells⟩ | exact ⟨K5.out.cells, L5.out.cells, M5.out.cells⟩ | exact ⟨K6.out.cells, L6.out.cells, M6.out.cells⟩ | exact ⟨K7.out.cells, L7.out.cells, M7.out.cells⟩)
    (first
      | (go_at_call 16; with_reducible refine (HA.out _ B4.out).mono ?_; rintro e w5 ⟨rfl, hb⟩; have B5 := Lib.hid (B4.out.trans (hb.mono B4.out.size)); have K5 := Lib.hid (K4.out.later hb); have L5 := Lib.hid (L4.out.later hb); have M5 := Lib.hid (M4.out.later hb); clear hb)
      | (go_at_call 16; with_reducible refine (HB.out _ B5.out).mono ?_; rintro e w6 ⟨rfl, hb⟩; have B6 := Lib.hid (B5.out.trans (hb.mono B5.out.size)); have K6 := Lib.hid (K5.out.later hb); have L6 := Lib.hid (L5.out.later hb); have M6 := Lib.hid (M5.out.later hb); clear hb)
      | (go_at_call 16; with_reducible refine (HC.out _ B6.out).mono ?_; rintro e w7 ⟨rfl, hb⟩; have B7 := Lib.hid (B6.out.trans (hb.mono B6.out.size)); have K7 := Lib.hid (K6.out.later hb); have L7 := Lib.hid (L6.out.later hb); have M7 := Lib.hid (M6.out.later hb); clear hb))
  obtain ⟨c0, c1, c2⟩ := K7.out.cells
  obtain ⟨d0, d1, d2⟩ := L7.out.cells
  obtain h | h | h | h | h | h := HP.out
  · obtain ⟨rfl, rfl, rfl⟩ := h
    clear HP
    go_wp2_with fail
    refine (HD.out _ B7.out).mono ?_
    rintro e w8 ⟨rfl, hb⟩
    have B8 := Lib.hid (B7.out.trans (hb.mono B7.out.size))
    clear c0 c1 c2 d0 d1 d2
    obtain ⟨c0, c1, c2⟩ := (K7.out.later hb).cells
    obtain ⟨d0, d1, d2⟩ := (L7.out.later hb).cells
    clear hb B7 K7 L7 M7
    go_wp2_with fail
    refine (HE.out _ B8.out).mono ?_
    rintro e w9 ⟨rfl, hb⟩
    have B9 := Lib.hid (B8.out.trans (hb.mono B8.out.size))
    clear hb B8
    go_wp2_with fail
    go_ret
    exact ⟨rfl, B9.out⟩
  · obtain ⟨rfl, rfl, rfl, rfl⟩ := h
    clear HP
    go_wp2_with fail
    refine (HD.out _ B7.out).mono ?_
    rintro e w8 ⟨rfl, hb⟩
    have B8 := Lib.hid (B7.out.trans (hb.mono B7.out.size))
    clear c0 c1 c2 d0 d1 d2
    obtain ⟨c0, c1, c2⟩ := (K7.out.later hb).cells
    obtain ⟨d0, d1, d2⟩ := (L7.out.later hb).cells
    clear hb B7 K7 L7 M7
    go_wp2_with fail
    refine (HE.out _ B8.out).mono ?_
    rintro e w9 ⟨rfl, hb⟩
    have B9 := Lib.hid (B8.out.trans (hb.mono B8.out.size))
    clear hb B8
    go_wp2_with fail
    go_ret
    exact ⟨rfl, B9.out⟩
  · obtain ⟨rfl, rfl, rfl, rfl⟩ := h
    clear HP
    go_wp2_with fail
    refine (HD.out _ B7.out).mono ?_
    rintro e w8 ⟨rfl, hb⟩
    have B8 := Lib.hid (B7.out.trans (hb.mono B7.out.size))
    clear c0 c1 c2 d0 d1 d2
    obtain ⟨c0, c1, c2⟩ := (K7.out.later hb).cells
    obtain ⟨d0, d1, d2⟩ := (L7.out.later hb).cells
    clear hb B7 K7 L7 M7
    go_wp2_with fail
    refine (HE.out _ B8.out).mono ?_
    rintro e w9 ⟨rfl, hb⟩
    have B9 := Lib.hid (B8.out.trans (hb.mono B8.out.size))
    clear hb B8
    go_wp2_with fail
    go_ret
    exact ⟨rfl, B9.out⟩
  · obtain ⟨rfl, rfl, rfl, hle, rfl⟩ := h
    clear HP
    go_wp2_with fail
    refine (HD.out _ B7.out).mono ?_
    rintro e w8 ⟨rfl, hb⟩
    have B8 := Lib.hid (B7.out.trans (hb.mono B7.out.size))
    clear c0 c1 c2 d0 d1 d2
    obtain ⟨c0, c1, c2⟩ := (K7.out.later hb).cells
    obtain ⟨d0, d1, d2⟩ := (L7.out.later hb).cells
    clear hb B7 K7 L7 M7
    go_wp2_with fail
    refine (HE.out _ B8.out).mono ?_
    rintro e w9 ⟨rfl, hb⟩
    have B9 := Lib.hid (B8.out.trans (hb.mono B8.out.size))
    clear hb B8
    go_wp2_with fail
    go_ret
    exact ⟨rfl, B9.out⟩
  · obtain ⟨rfl, rfl, rfl, hle, rfl⟩ := h
    clear HP
    go_wp2_with fail
    refine (HD.out _ B7.out).mono ?_
    rintro e w8 ⟨rfl, hb⟩
    have B8 := Lib.hid (B7.out.trans (hb.mono B7.out.size))
    clear c0 c1 c2 d0 d1 d2
    obtain ⟨c0, c1, c2⟩ := (K7.out.later hb).cells
    obtain ⟨d0, d1, d2⟩ := (L7.out.later hb).cells
    clear hb B7 K7 L7 M7
    go_wp2_with fail
    refine (HE.out _ B8.out).mono ?_
    rintro e w9 ⟨rfl, hb⟩
    have B9 := Lib.hid (B8.out.trans (hb.mono B8.out.size))
    clear hb B8
    go_wp2_with fail
    go_ret
    exact ⟨rfl, B9.out⟩
  · obtain ⟨rfl, rfl, rfl, rfl, rfl⟩ := h
    clear HP
    go_wp2_with fail
    refine (HD.out _ B7.out).mono ?_
    rintro e w8 ⟨rfl, hb⟩
    have B8 := Lib.hid (B7.out.trans (hb.mono B7.out.size))
    clear c0 c1 c2 d0 d1 d2
    obtain ⟨c0, c1, c2⟩ := (K7.out.later hb).cells
    obtain ⟨d0, d1, d2⟩ := (L7.out.later hb).cells
    clear hb B7 K7 L7 M7
    go_wp2_with fail
    refine (HE.out _ B8.out).mono ?_
    rintro e w9 ⟨rfl, hb⟩
    have B9 := Lib.hid (B8.out.trans (hb.mono B8.out.size))
    clear hb B8
    go_wp2_with fail
    go_ret
    exact ⟨rfl, B9.out⟩
end Go.Proofs.Ytjefaibnlhnaiaa
