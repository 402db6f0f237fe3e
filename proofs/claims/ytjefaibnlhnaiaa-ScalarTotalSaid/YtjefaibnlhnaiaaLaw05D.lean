/- Layer 5's law ScalarKeys, over what package scalar's functions answer. -/
import Derived.Test.YtjefaibnlhnaiaaLaw05A
namespace Go.Proofs.Ytjefaibnlhnaiaa
open Go.RowKit
set_option maxRecDepth 1000000
set_option maxHeartbeats 4000000

theorem scalarKeys_of {T : World → Prop} (S : SSpec T) (k n : Int) (t : ByteArray) (k' n' : Int) (t' : ByteArray) (x y : ByteArray) (hk : InR k) (hn : InR n) (ht : t.size ≤ maxLen) (hk' : InR k') (hn' : InR n') (ht' : t'.size ≤ maxLen) (hxs : x.size ≤ maxLen) (hys : y.size ≤ maxLen) (w : World) (hT : T w) :
    Calls Try.prog 8 #[scV k n t, scV k' n' t', .string x, .string y] w fun e w' => e = .returned (.bool true) ∧ Below w.heap.size w w' := by
  have HT := Lib.hid (fun W (hb : Below w.heap.size w W) => S.keep hT hb)
  have HL := Lib.hid (fun W (hb : Below w.heap.size w W) => live5_true S W (HT.out W hb))
  have HS := Lib.hid (fun W => short_walk k n t W ht)
  have HK := Lib.hid hk
  have HN := Lib.hid hn
  have HS' := Lib.hid (fun W => short_walk k' n' t' W ht')
  have HK' := Lib.hid hk'
  have HN' := Lib.hid hn'
  unfold maxLen at hxs hys
  clear hT hk hn ht hk' hn' ht'
  obtain ⟨X, hX⟩ : ∃ X, X = w.heap.size := ⟨_, rfl⟩
  obtain ⟨Y, hY⟩ : ∃ Y, Y = w.heap.size + 1 := ⟨_, rfl⟩
  obtain ⟨w0, hw0⟩ : ∃ w0, w0 = (w.alloc (.cells #[.int .i64 k, .int .i64 n, .string t] 23)).alloc (.cells #[.int .i64 k', .int .i64 n', .string t'] 23) := ⟨_, rfl⟩
  have B0 : Hid (Below w.heap.size w w0) := by show Below _ _ _; rw [hw0]; exact Below.more (Below.newly' _ _) _
  have K0 : Hid (Bx X k n t w0) := by show Bx _ _ _ _ _; rw [hw0, hX]; exact (Bx.new k n t w).later (Below.newly' _ _)
  have L0 : Hid (Bx Y k' n' t' w0) := by
    show Bx _ _ _ _ _
    have h := Bx.new k' n' t' (w.alloc (.cells #[.int .i64 k, .int .i64 n, .string t] 23))
    rw [hw0, hY]
    simpa using h
  have HX := Lib.hid hX
  have HY := Lib.hid hY
  have HW := Lib.hid hw0
  clear hX hY hw0
  by_cases h2 : t.size ≤ 2000
  case neg =>
    rw [decide_eq_false h2] at HS
    clear h2 hxs hys
    go_enter Try.func8, Try.ntmps8
    go_wp2_with fail
    rw [← HW.out, ← HY.out, ← HX.out]
    refine (HL.out _ B0.out).mono ?_
    rintro e w1 ⟨rfl, hb⟩
    have B1 := Lib.hid (B0.out.trans (hb.mono B0.out.size))
    have K1 : Hid (Bx X k n t w1) := by have h := K0.out.later hb; exact h
    have L1 : Hid (Bx Y k' n' t' w1) := by have h := L0.out.later hb; exact h
    clear hb B0 K0 L0
    obtain ⟨c00, c01, c02⟩ := K1.out.cells
    go_wp2_with fail
    refine (HS.out _).mono ?_
    rintro e w2 ⟨rfl, hb⟩
    have B2 := Lib.hid (B1.out.trans (hb.mono B1.out.size))
    have K2 : Hid (Bx X k n t w2) := by have h := K1.out.later hb; exact h
    have L2 : Hid (Bx Y k' n' t' w2) := by have h := L1.out.later hb; exact h
    clear hb B1 K1 L1 c00 c01 c02
    go_wp2_with fail
    refine (HL.out _ B2.out).mono ?_
    rintro e w3 ⟨rfl, hb⟩
    have B3 := Lib.hid (B2.out.trans (hb.mono B2.out.size))
    have K3 : Hid (Bx X k n t w3) := by have h := K2.out.later hb; exact h
    have L3 : Hid (Bx Y k' n' t' w3) := by have h := L2.out.later hb; exact h
    clear hb B2 K2 L2
    go_wp2_with fail
    go_ret
    exact ⟨rfl, B3.out⟩
  have HM := Lib.hid (show t.size ≤ 1000000 by omega)
  have HQ := Lib.hid h2
  rw [decide_eq_true h2] at HS
  clear h2
  by_cases h2 : t'.size ≤ 2000
  case neg =>
    rw [decide_eq_false h2] at HS'
    clear h2 hxs hys
    go_enter Try.func8, Try.ntmps8
    go_wp2_with fail
    rw [← HW.out, ← HY.out, ← HX.out]
    refine (HL.out _ B0.out).mono ?_
    rintro e w1 ⟨rfl, hb⟩
    have B1 := Lib.hid (B0.out.trans (hb.mono B0.out.size))
    have K1 : Hid (Bx X k n t w1) := by have h := K0.out.later hb; exact h
    have L1 : Hid (Bx Y k' n' t' w1) := by have h := L0.out.later hb; exact h
    clear hb B0 K0 L0
    obtain ⟨c00, c01, c02⟩ := K1.out.cells
    go_wp2_with fail
    refine (HS.out _).mono ?_
    rintro e w2 ⟨rfl, hb⟩
    have B2 := Lib.hid (B1.out.trans (hb.mono B1.out.size))
    have K2 : Hid (Bx X k n t w2) := by have h := K1.out.later hb; exact h
    have L2 : Hid (Bx Y k' n' t' w2) := by have h := L1.out.later hb; exact h
    clear hb B1 K1 L1 c00 c01 c02
    obtain ⟨c10, c11, c12⟩ := L2.out.cells
    go_wp2_with fail
    refine (HS'.out _).mono ?_
    rintro e w3 ⟨rfl, hb⟩
    have B3 := Lib.hid (B2.out.trans (hb.mono B2.out.size))
    have K3 : Hid (Bx X k n t w3) := by have h := K2.out.later hb; exact h
    have L3 : Hid (Bx Y k' n' t' w3) := by have h := L2.out.later hb; exact h
    clear hb B2 K2 L2 c10 c11 c12
    go_wp2_with fail
    refine (HL.out _ B3.out).mono ?_
    rintro e w4 ⟨rfl, hb⟩
    have B4 := Lib.hid (B3.out.trans (hb.mono B3.out.size))
    have K4 : Hid (Bx X k n t w4) := by have h := K3.out.later hb; exact h
    have L4 : Hid (Bx Y k' n' t' w4) := by have h := L3.out.later hb; exact h
    clear hb B3 K3 L3
    go_wp2_with fail
    go_ret
    exact ⟨rfl, B4.out⟩
  have HM' := Lib.hid (show t'.size ≤ 1000000 by omega)
  have HQ' := Lib.hid h2
  rw [decide_eq_true h2] at HS'
  clear h2
  by_cases hx : (2000 : Int) < x.size
  case pos =>
    clear hxs hys
    go_enter Try.func8, Try.ntmps8
    go_wp2_with fail
    rw [← HW.out, ← HY.out, ← HX.out]
    refine (HL.out _ B0.out).mono ?_
    rintro e w1 ⟨rfl, hb⟩
    have B1 := Lib.hid (B0.out.trans (hb.mono B0.out.size))
    have K1 : Hid (Bx X k n t w1) := by have h := K0.out.later hb; exact h
    have L1 : Hid (Bx Y k' n' t' w1) := by have h := L0.out.later hb; exact h
    clear hb B0 K0 L0
    obtain ⟨c00, c01, c02⟩ := K1.out.cells
    go_wp2_with fail
    refine (HS.out _).mono ?_
    rintro e w2 ⟨rfl, hb⟩
    have B2 := Lib.hid (B1.out.trans (hb.mono B1.out.size))
    have K2 : Hid (Bx X k n t w2) := by have h := K1.out.later hb; exact h
    have L2 : Hid (Bx Y k' n' t' w2) := by have h := L1.out.later hb; exact h
    clear hb B1 K1 L1 c00 c01 c02
    obtain ⟨c10, c11, c12⟩ := L2.out.cells
    go_wp2_with fail
    refine (HS'.out _).mono ?_
    rintro e w3 ⟨rfl, hb⟩
    have B3 := Lib.hid (B2.out.trans (hb.mono B2.out.size))
    have K3 : Hid (Bx X k n t w3) := by have h := K2.out.later hb; exact h
    have L3 : Hid (Bx Y k' n' t' w3) := by have h := L2.out.later hb; exact h
    clear hb B2 K2 L2 c10 c11 c12
    go_wp2_with fail
    refine (HL.out _ B3.out).mono ?_
    rintro e w4 ⟨rfl, hb⟩
    have B4 := Lib.hid (B3.out.trans (hb.mono B3.out.size))
    have K4 : Hid (Bx X k n t w4) := by have h := K3.out.later hb; exact h
    have L4 : Hid (Bx Y k' n' t' w4) := by have h := L3.out.later hb; exact h
    clear hb B3 K3 L3
    go_wp2_with fail
    go_ret
    exact ⟨rfl, B4.out⟩
  by_cases hy : (2000 : Int) < y.size
  case pos =>
    clear hxs hys
    go_enter Try.func8, Try.ntmps8
    go_wp2_with fail
    rw [← HW.out, ← HY.out, ← HX.out]
    refine (HL.out _ B0.out).mono ?_
    rintro e w1 ⟨rfl, hb⟩
    have B1 := Lib.hid (B0.out.trans (hb.mono B0.out.size))
    have K1 : Hid (Bx X k n t w1) := by have h := K0.out.later hb; exact h
    have L1 : Hid (Bx Y k' n' t' w1) := by have h := L0.out.later hb; exact h
    clear hb B0 K0 L0
    obtain ⟨c00, c01, c02⟩ := K1.out.cells
    go_wp2_with fail
    refine (HS.out _).mono ?_
    rintro e w2 ⟨rfl, hb⟩
    have B2 := Lib.hid (B1.out.trans (hb.mono B1.out.size))
    have K2 : Hid (Bx X k n t w2) := by have h := K1.out.later hb; exact h
    have L2 : Hid (Bx Y k' n' t' w2) := by have h := L1.out.later hb; exact h
    clear hb B1 K1 L1 c00 c01 c02
    obtain ⟨c10, c11, c12⟩ := L2.out.cells
    go_wp2_with fail
    refine (HS'.out _).mono ?_
    rintro e w3 ⟨rfl, hb⟩
    have B3 := Lib.hid (B2.out.trans (hb.mono B2.out.size))
    have K3 : Hid (Bx X k n t w3) := by have h := K2.out.later hb; exact h
    have L3 : Hid (Bx Y k' n' t' w3) := by have h := L2.out.later hb; exact h
    clear hb B2 K2 L2 c10 c11 c12
    go_wp2_with fail
    refine (HL.out _ B3.out).mono ?_
    rintro e w4 ⟨rfl, hb⟩
    have B4 := Lib.hid (B3.out.trans (hb.mono B3.out.size))
    have K4 : Hid (Bx X k n t w4) := by have h := K3.out.later hb; exact h
    have L4 : Hid (Bx Y k' n' t' w4) := by have h := L3.out.later hb; exact h
    clear hb B3 K3 L3
    go_wp2_with fail
    go_ret
    exact ⟨rfl, B4.out⟩
  have hxl : x.size ≤ 2000 := by omega
  have hyl : y.size ≤ 2000 := by omega
  clear hxs hys
  have HCa := Lib.hid (fun W (hb : Below w.heap.size w W) => S.check k n t W (HT.out W hb) HK.out HN.out HM.out)
  by_cases hca : chkSc (scT k n t) = 0
  case neg =>
    obtain ⟨c, hc⟩ : ∃ c, chkSc (scT k n t) = c := ⟨_, rfl⟩
    rw [hc] at HCa hca
    have hcc : (c != 0) = true := by simp [hca]
    clear hc hxl hyl
    go_enter Try.func8, Try.ntmps8
    go_wp2_with fail
    rw [← HW.out, ← HY.out, ← HX.out]
    refine (HL.out _ B0.out).mono ?_
    rintro e w1 ⟨rfl, hb⟩
    have B1 := Lib.hid (B0.out.trans (hb.mono B0.out.size))
    have K1 : Hid (Bx X k n t w1) := by have h := K0.out.later hb; exact h
    have L1 : Hid (Bx Y k' n' t' w1) := by have h := L0.out.later hb; exact h
    clear hb B0 K0 L0
    obtain ⟨c00, c01, c02⟩ := K1.out.cells
    go_wp2_with fail
    refine (HS.out _).mono ?_
    rintro e w2 ⟨rfl, hb⟩
    have B2 := Lib.hid (B1.out.trans (hb.mono B1.out.size))
    have K2 : Hid (Bx X k n t w2) := by have h := K1.out.later hb; exact h
    have L2 : Hid (Bx Y k' n' t' w2) := by have h := L1.out.later hb; exact h
    clear hb B1 K1 L1 c00 c01 c02
    obtain ⟨c10, c11, c12⟩ := L2.out.cells
    go_wp2_with fail
    refine (HS'.out _).mono ?_
    rintro e w3 ⟨rfl, hb⟩
    have B3 := Lib.hid (B2.out.trans (hb.mono B2.out.size))
    have K3 : Hid (Bx X k n t w3) := by have h := K2.out.later hb; exact h
    have L3 : Hid (Bx Y k' n' t' w3) := by have h := L2.out.later hb; exact h
    clear hb B2 K2 L2 c10 c11 c12
    obtain ⟨c00, c01, c02⟩ := K3.out.cells
    go_wp2_with fail
    refine (HCa.out _ B3.out).mono ?_
    rintro e w4 ⟨rfl, hb⟩
    have B4 := Lib.hid (B3.out.trans (hb.mono B3.out.size))
    have K4 : Hid (Bx X k n t w4) := by have h := K3.out.later hb; exact h
    have L4 : Hid (Bx Y k' n' t' w4) := by have h := L3.out.later hb; exact h
    clear hb B3 K3 L3 c00 c01 c02
    go_wp2_with fail
    refine (HL.out _ B4.out).mono ?_
    rintro e w5 ⟨rfl, hb⟩
    have B5 := Lib.hid (B4.out.trans (hb.mono B4.out.size))
    have K5 : Hid (Bx X k n t w5) := by have h := K4.out.later hb; exact h
    have L5 : Hid (Bx Y k' n' t' w5) := by have h := L4.out.later hb; exact h
    clear hb B4 K4 L4
    go_wp2_with fail
    go_ret
    exact ⟨rfl, B5.out⟩
  rw [hca] at HCa
  have HOa := Lib.hid hca
  clear hca
  have HCb := Lib.hid (fun W (hb : Below w.heap.size w W) => S.check k' n' t' W (HT.out W hb) HK'.out HN'.out HM'.out)
  by_cases hcb : chkSc (scT k' n' t') = 0
  case neg =>
    obtain ⟨c, hc⟩ : ∃ c, chkSc (scT k' n' t') = c := ⟨_, rfl⟩
    rw [hc] at HCb hcb
    have hcc : (c != 0) = true := by simp [hcb]
    clear hc hxl hyl
    go_enter Try.func8, Try.ntmps8
    go_wp2_with fail
    rw [← HW.out, ← HY.out, ← HX.out]
    refine (HL.out _ B0.out).mono ?_
    rintro e w1 ⟨rfl, hb⟩
    have B1 := Lib.hid (B0.out.trans (hb.mono B0.out.size))
    have K1 : Hid (Bx X k n t w1) := by have h := K0.out.later hb; exact h
    have L1 : Hid (Bx Y k' n' t' w1) := by have h := L0.out.later hb; exact h
    clear hb B0 K0 L0
    obtain ⟨c00, c01, c02⟩ := K1.out.cells
    go_wp2_with fail
    refine (HS.out _).mono ?_
    rintro e w2 ⟨rfl, hb⟩
    have B2 := Lib.hid (B1.out.trans (hb.mono B1.out.size))
    have K2 : Hid (Bx X k n t w2) := by have h := K1.out.later hb; exact h
    have L2 : Hid (Bx Y k' n' t' w2) := by have h := L1.out.later hb; exact h
    clear hb B1 K1 L1 c00 c01 c02
    obtain ⟨c10, c11, c12⟩ := L2.out.cells
    go_wp2_with fail
    refine (HS'.out _).mono ?_
    rintro e w3 ⟨rfl, hb⟩
    have B3 := Lib.hid (B2.out.trans (hb.mono B2.out.size))
    have K3 : Hid (Bx X k n t w3) := by have h := K2.out.later hb; exact h
    have L3 : Hid (Bx Y k' n' t' w3) := by have h := L2.out.later hb; exact h
    clear hb B2 K2 L2 c10 c11 c12
    obtain ⟨c00, c01, c02⟩ := K3.out.cells
    go_wp2_with fail
    refine (HCa.out _ B3.out).mono ?_
    rintro e w4 ⟨rfl, hb⟩
    have B4 := Lib.hid (B3.out.trans (hb.mono B3.out.size))
    have K4 : Hid (Bx X k n t w4) := by have h := K3.out.later hb; exact h
    have L4 : Hid (Bx Y k' n' t' w4) := by have h := L3.out.later hb; exact h
    clear hb B3 K3 L3 c00 c01 c02
    obtain ⟨c10, c11, c12⟩ := L4.out.cells
    go_wp2_with fail
    refine (HCb.out _ B4.out).mono ?_
    rintro e w5 ⟨rfl, hb⟩
    have B5 := Lib.hid (B4.out.trans (hb.mono B4.out.size))
    have K5 : Hid (Bx X k n t w5) := by have h := K4.out.later hb; exact h
    have L5 : Hid (Bx Y k' n' t' w5) := by have h := L4.out.later hb; exact h
    clear hb B4 K4 L4 c10 c11 c12
    go_wp2_with fail
    refine (HL.out _ B5.out).mono ?_
    rintro e w6 ⟨rfl, hb⟩
    have B6 := Lib.hid (B5.out.trans (hb.mono B5.out.size))
    have K6 : Hid (Bx X k n t w6) := by have h := K5.out.later hb; exact h
    have L6 : Hid (Bx Y k' n' t' w6) := by have h := L5.out.later hb; exact h
    clear hb B5 K5 L5
    go_wp2_with fail
    go_ret
    exact ⟨rfl, B6.out⟩
  rw [hcb] at HCb
  have HOb := Lib.hid hcb
  clear hcb
  have HA := Lib.hid (fun W (hb : Below w.heap.size w W) => S.key k n t W (HT.out W hb) HK.out HN.out HM.out)
  have HB := Lib.hid (fun W (hb : Below w.heap.size w W) => S.key k' n' t' W (HT.out W hb) HK'.out HN'.out HM'.out)
  have HE := Lib.hid (fun W (hb : Below w.heap.size w W) => S.same k n t k' n' t' W (HT.out W hb) HK.out HN.out HK'.out HN'.out HM.out HM'.out)
  have HD := Lib.hid (fun W (hb : Below w.heap.size w W) => S.order k n t k' n' t' W (HT.out W hb) HK.out HN.out HK'.out HN'.out HM.out HM'.out)
  have hl1 := key_len (scT k n t)
  have hl2 := key_len (scT k' n' t')
  have hap := key_apart (scT k n t) (scT k' n' t') HOa.out HOb.out HN.out HN'.out
  obtain ⟨p, hp⟩ : ∃ p : ByteArray, p = ⟨(keySc (scT k n t)).toArray⟩ := ⟨_, rfl⟩
  obtain ⟨q, hq⟩ : ∃ q : ByteArray, q = ⟨(keySc (scT k' n' t')).toArray⟩ := ⟨_, rfl⟩
  have hpl : p.data.toList = keySc (scT k n t) := by rw [hp]
  have hql : q.data.toList = keySc (scT k' n' t') := by rw [hq]
  rw [← hp] at HA
  rw [← hq] at HB
  have hps : p.size ≤ 4009 := by
    have h1 : p.size = (keySc (scT k n t)).length := by rw [← hpl, len_bytes]
    have h2 : t.data.toList.length = t.size := len_bytes t
    have h3 := HQ.out
    simp only at hl1
    omega
  have hqs : q.size ≤ 4009 := by
    have h1 : q.size = (keySc (scT k' n' t')).length := by rw [← hql, len_bytes]
    have h2 : t'.data.toList.length = t'.size := len_bytes t'
    have h3 := HQ'.out
    simp only at hl2
    omega
  clear hl1 hl2
  by_cases h : scT k n t = scT k' n' t'
  · rw [decide_eq_true h] at HE
    obtain rfl : p = q := by rw [hp, hq, h]
    have hpq : (p.toList == p.toList) = true := beq_self_eq_true _
    clear h hap hp hq hpl hql hps hqs hxl hyl
    go_enter Try.func8, Try.ntmps8
    go_wp2_with fail
    rw [← HW.out, ← HY.out, ← HX.out]
    refine (HL.out _ B0.out).mono ?_
    rintro e w1 ⟨rfl, hb⟩
    have B1 := Lib.hid (B0.out.trans (hb.mono B0.out.size))
    have K1 : Hid (Bx X k n t w1) := by have h := K0.out.later hb; exact h
    have L1 : Hid (Bx Y k' n' t' w1) := by have h := L0.out.later hb; exact h
    clear hb B0 K0 L0
    obtain ⟨c00, c01, c02⟩ := K1.out.cells
    go_wp2_with fail
    refine (HS.out _).mono ?_
    rintro e w2 ⟨rfl, hb⟩
    have B2 := Lib.hid (B1.out.trans (hb.mono B1.out.size))
    have K2 : Hid (Bx X k n t w2) := by have h := K1.out.later hb; exact h
    have L2 : Hid (Bx Y k' n' t' w2) := by have h := L1.out.later hb; exact h
    clear hb B1 K1 L1 c00 c01 c02
    obtain ⟨c10, c11, c12⟩ := L2.out.cells
    go_wp2_with fail
    refine (HS'.out _).mono ?_
    rintro e w3 ⟨rfl, hb⟩
    have B3 := Lib.hid (B2.out.trans (hb.mono B2.out.size))
    have K3 : Hid (Bx X k n t w3) := by have h := K2.out.later hb; exact h
    have L3 : Hid (Bx Y k' n' t' w3) := by have h := L2.out.later hb; exact h
    clear hb B2 K2 L2 c10 c11 c12
    obtain ⟨c00, c01, c02⟩ := K3.out.cells
    go_wp2_with fail
    refine (HCa.out _ B3.out).mono ?_
    rintro e w4 ⟨rfl, hb⟩
    have B4 := Lib.hid (B3.out.trans (hb.mono B3.out.size))
    have K4 : Hid (Bx X k n t w4) := by have h := K3.out.later hb; exact h
    have L4 : Hid (Bx Y k' n' t' w4) := by have h := L3.out.later hb; exact h
    clear hb B3 K3 L3 c00 c01 c02
    obtain ⟨c10, c11, c12⟩ := L4.out.cells
    go_wp2_with fail
    refine (HCb.out _ B4.out).mono ?_
    rintro e w5 ⟨rfl, hb⟩
    have B5 : Hid (Below w.heap.size w w5.drew) := by show Below _ _ _; exact Below.drewMany (B4.out.trans (hb.mono B4.out.size)) 1
    have K5 : Hid (Bx X k n t w5.drew) := by have h := K4.out.later hb; exact h
    have L5 : Hid (Bx Y k' n' t' w5.drew) := by have h := L4.out.later hb; exact h
    clear hb B4 K4 L4 c10 c11 c12
    go_wp2_with fail
    go_region_held3 (fun W => (W.cell? ⟨X, 0, none⟩ = some (.int .i64 k) ∧ W.cell? ⟨X, 1, none⟩ = some (.int .i64 n) ∧ W.cell? ⟨X, 2, none⟩ = some (.string t)) ∧ (W.cell? ⟨Y, 0, none⟩ = some (.int .i64 k') ∧ W.cell? ⟨Y, 1, none⟩ = some (.int .i64 n') ∧ W.cell? ⟨Y, 2, none⟩ = some (.string t'))) (first | exact ⟨K5.out.cells, L5.out.cells⟩ | exact ⟨K6.out.cells, L6.out.cells⟩ | exact ⟨K7.out.cells, L7.out.cells⟩)
      (first
      | (go_at_call 14; with_reducible refine (HA.out _ B5.out).mono ?_; rintro e w6 ⟨rfl, hb⟩; have B6 := Lib.hid (B5.out.trans (hb.mono B5.out.size)); have K6 := Lib.hid (K5.out.later hb); have L6 := Lib.hid (L5.out.later hb); clear hb)
      | (go_at_call 14; with_reducible refine (HB.out _ B6.out).mono ?_; rintro e w7 ⟨rfl, hb⟩; have B7 := Lib.hid (B6.out.trans (hb.mono B6.out.size)); have K7 := Lib.hid (K6.out.later hb); have L7 := Lib.hid (L6.out.later hb); clear hb))
    obtain ⟨c0, c1, c2⟩ := K7.out.cells
    obtain ⟨d0, d1, d2⟩ := L7.out.cells
    go_wp2_with fail
    refine (HE.out _ B7.out).mono ?_
    rintro e w8 ⟨rfl, hb⟩
    have B8 := Lib.hid (B7.out.trans (hb.mono B7.out.size))
    clear hb B7 K7 L7
    go_wp2_with fail
    go_ret
    exact ⟨rfl, B8.out⟩
  · rw [decide_eq_false h] at HE
    obtain ⟨g1, g2, g3⟩ := hap h
    rw [← hpl, ← hql] at g1 g2 g3
    have HG : Hid (∀ W, Calls Try.prog 21 #[.string p, .string q] W fun e W' => e = .returned (.int .i64 (commonS p.data.toList q.data.toList : Nat)) ∧ Below W.heap.size W W') := Lib.hid (fun W => (ref_Common p q W (by unfold maxLen; omega)).mono fun _ _ h => ⟨h.1, h.2.below⟩)
    have HO : Hid (∀ W, Calls Try.prog 22 #[.string (p ++ x), .string (q ++ y)] W fun e W' => e = .returned (.int .i64 (orderS (p ++ x).data.toList (q ++ y).data.toList)) ∧ Below W.heap.size W W') := Lib.hid (fun W => (ref_Order (p ++ x) (q ++ y) W (by unfold maxLen; rw [ByteArray.size_append]; omega)).mono fun _ _ h => ⟨h.1, h.2.below⟩)
    have g4 : orderS (p ++ x).data.toList (q ++ y).data.toList = ordSc (scT k n t) (scT k' n' t') := by
      have h := g3 x.data.toList y.data.toList
      simpa using h
    obtain ⟨v, hv⟩ : ∃ v, ordSc (scT k n t) (scT k' n' t') = v := ⟨_, rfl⟩
    rw [g4, hv] at HO
    rw [hv] at HD
    obtain ⟨c, hc⟩ : ∃ c, commonS p.data.toList q.data.toList = c := ⟨_, rfl⟩
    rw [hc] at HG g1 g2
    rw [len_bytes] at g1 g2
    have i1 : (c : Int) < (p.size : Int) := by omega
    have i2 : (c : Int) < (q.size : Int) := by omega
    have s1 : ¬ 9223372036854775807 < p.size + x.size := by omega
    have s2 : ¬ 9223372036854775807 < q.size + y.size := by omega
    have hvv : (v == v) = true := beq_self_eq_true _
    clear h g1 g2 g3 g4 hv hc hp hq hpl hql hps hqs hxl hyl
    go_enter Try.func8, Try.ntmps8
    go_wp2_with fail
    rw [← HW.out, ← HY.out, ← HX.out]
    refine (HL.out _ B0.out).mono ?_
    rintro e w1 ⟨rfl, hb⟩
    have B1 := Lib.hid (B0.out.trans (hb.mono B0.out.size))
    have K1 : Hid (Bx X k n t w1) := by have h := K0.out.later hb; exact h
    have L1 : Hid (Bx Y k' n' t' w1) := by have h := L0.out.later hb; exact h
    clear hb B0 K0 L0
    obtain ⟨c00, c01, c02⟩ := K1.out.cells
    go_wp2_with fail
    refine (HS.out _).mono ?_
    rintro e w2 ⟨rfl, hb⟩
    have B2 := Lib.hid (B1.out.trans (hb.mono B1.out.size))
    have K2 : Hid (Bx X k n t w2) := by have h := K1.out.later hb; exact h
    have L2 : Hid (Bx Y k' n' t' w2) := by have h := L1.out.later hb; exact h
    clear hb B1 K1 L1 c00 c01 c02
    obtain ⟨c10, c11, c12⟩ := L2.out.cells
    go_wp2_with fail
    refine (HS'.out _).mono ?_
    rintro e w3 ⟨rfl, hb⟩
    have B3 := Lib.hid (B2.out.trans (hb.mono B2.out.size))
    have K3 : Hid (Bx X k n t w3) := by have h := K2.out.later hb; exact h
    have L3 : Hid (Bx Y k' n' t' w3) := by have h := L2.out.later hb; exact h
    clear hb B2 K2 L2 c10 c11 c12
    obtain ⟨c00, c01, c02⟩ := K3.out.cells
    go_wp2_with fail
    refine (HCa.out _ B3.out).mono ?_
    rintro e w4 ⟨rfl, hb⟩
    have B4 := Lib.hid (B3.out.trans (hb.mono B3.out.size))
    have K4 : Hid (Bx X k n t w4) := by have h := K3.out.later hb; exact h
    have L4 : Hid (Bx Y k' n' t' w4) := by have h := L3.out.later hb; exact h
    clear hb B3 K3 L3 c00 c01 c02
    obtain ⟨c10, c11, c12⟩ := L4.out.cells
    go_wp2_with fail
    refine (HCb.out _ B4.out).mono ?_
    rintro e w5 ⟨rfl, hb⟩
    have B5 : Hid (Below w.heap.size w w5.drew) := by show Below _ _ _; exact Below.drewMany (B4.out.trans (hb.mono B4.out.size)) 1
    have K5 : Hid (Bx X k n t w5.drew) := by have h := K4.out.later hb; exact h
    have L5 : Hid (Bx Y k' n' t' w5.drew) := by have h := L4.out.later hb; exact h
    clear hb B4 K4 L4 c10 c11 c12
    go_wp2_with fail
    go_region_held3 (fun W => (W.cell? ⟨X, 0, none⟩ = some (.int .i64 k) ∧ W.cell? ⟨X, 1, none⟩ = some (.int .i64 n) ∧ W.cell? ⟨X, 2, none⟩ = some (.string t)) ∧ (W.cell? ⟨Y, 0, none⟩ = some (.int .i64 k') ∧ W.cell? ⟨Y, 1, none⟩ = some (.int .i64 n') ∧ W.cell? ⟨Y, 2, none⟩ = some (.string t'))) (first | exact ⟨K5.out.cells, L5.out.cells⟩ | exact ⟨K6.out.cells, L6.out.cells⟩ | exact ⟨K7.out.cells, L7.out.cells⟩)
      (first
      | (go_at_call 14; with_reducible refine (HA.out _ B5.out).mono ?_; rintro e w6 ⟨rfl, hb⟩; have B6 := Lib.hid (B5.out.trans (hb.mono B5.out.size)); have K6 := Lib.hid (K5.out.later hb); have L6 := Lib.hid (L5.out.later hb); clear hb)
      | (go_at_call 14; with_reducible refine (HB.out _ B6.out).mono ?_; rintro e w7 ⟨rfl, hb⟩; have B7 := Lib.hid (B6.out.trans (hb.mono B6.out.size)); have K7 := Lib.hid (K6.out.later hb); have L7 := Lib.hid (L6.out.later hb); clear hb))
    obtain ⟨c0, c1, c2⟩ := K7.out.cells
    obtain ⟨d0, d1, d2⟩ := L7.out.cells
    go_wp2_with fail
    refine (HE.out _ B7.out).mono ?_
    rintro e w8 ⟨rfl, hb⟩
    have B8 := Lib.hid (B7.out.trans (hb.mono B7.out.size))
    have K8 := Lib.hid (K7.out.later hb)
    have L8 := Lib.hid (L7.out.later hb)
    clear hb B7 K7 L7 c0 c1 c2 d0 d1 d2
    go_wp2_with fail
    refine (HG.out _).mono ?_
    rintro e w9 ⟨rfl, hb⟩
    have B9 : Hid (Below w.heap.size w w9.drew) := by show Below _ _ _; exact Below.drewMany (B8.out.trans (hb.mono B8.out.size)) 1
    have K9 : Hid (Bx X k n t w9.drew) := by have h := K8.out.later hb; exact h
    have L9 : Hid (Bx Y k' n' t' w9.drew) := by have h := L8.out.later hb; exact h
    clear hb B8 K8 L8
    go_wp2_with fail
    go_region_held3 (fun W => (W.cell? ⟨X, 0, none⟩ = some (.int .i64 k) ∧ W.cell? ⟨X, 1, none⟩ = some (.int .i64 n) ∧ W.cell? ⟨X, 2, none⟩ = some (.string t)) ∧ (W.cell? ⟨Y, 0, none⟩ = some (.int .i64 k') ∧ W.cell? ⟨Y, 1, none⟩ = some (.int .i64 n') ∧ W.cell? ⟨Y, 2, none⟩ = some (.string t'))) (first | exact ⟨K9.out.cells, L9.out.cells⟩ | exact ⟨K10.out.cells, L10.out.cells⟩ | exact ⟨K11.out.cells, L11.out.cells⟩)
      (first
      | (go_at_call 22; with_reducible refine (HO.out _).mono ?_; rintro e w10 ⟨rfl, hb⟩; have B10 := Lib.hid (B9.out.trans (hb.mono B9.out.size)); have K10 := Lib.hid (K9.out.later hb); have L10 := Lib.hid (L9.out.later hb); clear hb)
      | (go_at_call 16; with_reducible refine (HD.out _ B10.out).mono ?_; rintro e w11 ⟨rfl, hb⟩; have B11 := Lib.hid (B10.out.trans (hb.mono B10.out.size)); have K11 := Lib.hid (K10.out.later hb); have L11 := Lib.hid (L10.out.later hb); clear hb))
    go_wp2_with fail
    go_ret
    exact ⟨rfl, B11.out⟩
end Go.Proofs.Ytjefaibnlhnaiaa
