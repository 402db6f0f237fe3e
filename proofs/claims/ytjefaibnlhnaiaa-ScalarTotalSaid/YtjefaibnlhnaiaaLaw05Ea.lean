/- Layer 5's law ScalarBack, over what package scalar's functions answer: the way 'bad'. -/
import Derived.Test.YtjefaibnlhnaiaaLaw05E
namespace Go.Proofs.Ytjefaibnlhnaiaa
open Go.RowKit
set_option maxRecDepth 1000000
set_option maxHeartbeats 4000000
set_option linter.unusedSimpArgs false

theorem back_bad {T : World → Prop} (S : SSpec T) (k n : Int) (t x : ByteArray) (cut : Int) (hk : InR k) (hn : InR n) (ht : t.size ≤ maxLen) (w : World) (hT : T w) (h2 : t.size ≤ 2000) (hxl : x.size ≤ 2000) (hcs : ¬ chkSc (scT k n t) = 0) :
    Calls Try.prog 7 #[scV k n t, .string x, .int .i64 cut] w fun e w' => e = .returned (.bool true) ∧ Below w.heap.size w w' := by
  have HT := Lib.hid (fun W (hb : Below w.heap.size w W) => S.keep hT hb)
  have HL := Lib.hid (fun W (hb : Below w.heap.size w W) => live5_true S W (HT.out W hb))
  have HS := Lib.hid (fun W => short_walk k n t W ht)
  have HK := Lib.hid hk
  have HN := Lib.hid hn
  clear hT hk hn ht
  obtain ⟨X, hX⟩ : ∃ X, X = w.heap.size := ⟨_, rfl⟩
  obtain ⟨w0, hw0⟩ : ∃ w0, w0 = w.alloc (.cells #[.int .i64 k, .int .i64 n, .string t] 23) := ⟨_, rfl⟩
  have B0 : Hid (Below w.heap.size w w0) := by show Below _ _ _; rw [hw0]; exact Below.newly' _ _
  have K0 : Hid (Bx X k n t w0) := by show Bx _ _ _ _ _; rw [hw0, hX]; exact Bx.new k n t w
  have HX := Lib.hid hX
  have HW := Lib.hid hw0
  clear hX hw0
  have HM := Lib.hid (show t.size ≤ 1000000 by omega)
  have HQ := Lib.hid h2
  rw [decide_eq_true h2] at HS
  clear h2
  have hx : ¬ (2000 : Int) < x.size := by omega
  have HU := Lib.hid (fun W (hb : Below w.heap.size w W) => S.unkey x W (HT.out W hb) (by omega))
  have hbk := unk_back x.data.toList
  have hft := unk_fit x.data.toList
  obtain ⟨⟨⟨a, b, l⟩, m, ec⟩, hu⟩ : ∃ u, u = unkSc x.data.toList := ⟨_, rfl⟩
  rw [← hu] at HU hbk hft
  simp only at hbk hft
  obtain ⟨u, hul⟩ : ∃ u : ByteArray, u = ⟨l.toArray⟩ := ⟨_, rfl⟩
  have hud : u.data.toList = l := by rw [hul]
  have HV : Hid (∀ W, Below w.heap.size w W → Calls Try.prog 19 #[.string x] W fun e W' => e = .returned (.tuple #[.agg #[.int .i64 a, .int .i64 b, .string u], .int .i64 (m : Nat), .int .i64 ec]) ∧ Below W.heap.size W W') := by
    show ∀ W, _; rw [hul]; exact HU.out
  clear HU hu hul
  have HA := Lib.hid (fun W (hb : Below w.heap.size w W) => S.key k n t W (HT.out W hb) HK.out HN.out HM.out)
  have HC := Lib.hid (fun W (hb : Below w.heap.size w W) => S.check k n t W (HT.out W hb) HK.out HN.out HM.out)
  have HE := Lib.hid (fun W (hb : Below w.heap.size w W) => S.same k n t k n t W (HT.out W hb) HK.out HN.out HK.out HN.out HM.out HM.out)
  rw [decide_eq_true rfl] at HE
  have hl1 := key_len (scT k n t)
  obtain ⟨p, hp⟩ : ∃ p : ByteArray, p = ⟨(keySc (scT k n t)).toArray⟩ := ⟨_, rfl⟩
  have hpl : p.data.toList = keySc (scT k n t) := by rw [hp]
  rw [← hp] at HA
  clear hp
  have hpz : p.size = (keySc (scT k n t)).length := by rw [← hpl, len_bytes]
  have hps : p.size ≤ 4009 := by
    have h2 : t.data.toList.length = t.size := len_bytes t
    have h3 := HQ.out
    simp only at hl1
    omega
  clear hl1
  have hpx : (p ++ x).size ≤ 1000000 := by rw [ByteArray.size_append]; omega
  have s1 : ¬ 9223372036854775807 < p.size + x.size := by omega
  have hpe : p.toList.isEmpty = true := by rw [ByteArray.toList_eq, hpl, key_bad _ hcs]; rfl
  obtain ⟨c, hc⟩ : ∃ c, chkSc (scT k n t) = c := ⟨_, rfl⟩
  rw [hc] at HC hcs
  have hcc : (c != 0) = true := by simp [hcs]
  clear hc hcs hpl hpz hps hpx s1 HE
  by_cases he : ec = 0
  case neg =>
    have hee : (ec == 0) = false := by simp [he]
    clear hbk hft hud he hxl
    go_enter Try.func7, Try.ntmps7
    go_wp2_with fail
    rw [← HW.out, ← HX.out]
    refine (HL.out _ B0.out).mono ?_
    rintro e w1 ⟨rfl, hb⟩
    have B1 := Lib.hid (B0.out.trans (hb.mono B0.out.size))
    have K1 := Lib.hid (K0.out.later hb)
    clear hb B0 K0
    obtain ⟨c0, c1, c2⟩ := K1.out.cells
    go_wp2_with fail
    refine (HS.out _).mono ?_
    rintro e w2 ⟨rfl, hb⟩
    have B2 := Lib.hid (B1.out.trans (hb.mono B1.out.size))
    have K2 := Lib.hid (K1.out.later hb)
    clear hb B1 K1 c0 c1 c2
    go_wp2_with fail
    refine (HV.out _ B2.out).mono ?_
    rintro e w3 ⟨rfl, hb⟩
    obtain ⟨w4, hw4⟩ : ∃ w4, w4 = w3.alloc (.cells #[.int .i64 a, .int .i64 b, .string u] 23) := ⟨_, rfl⟩
    have B4 : Hid (Below w.heap.size w w4.drew) := by show Below _ _ _; rw [hw4]; exact Below.drewMany (Below.more (B2.out.trans (hb.mono B2.out.size)) _) 1
    have K4 : Hid (Bx X k n t w4.drew) := by have h := (K2.out.later hb).later (Below.newly' w3 (.cells #[.int .i64 a, .int .i64 b, .string u] 23)); rw [← hw4] at h; exact h
    have U4 : Hid (Bx w3.heap.size a b u w4.drew) := by have h := Bx.new a b u w3; rw [← hw4] at h; exact h
    have HW4 := Lib.hid hw4
    clear hb B2 K2 hw4
    go_wp2_with fail
    rw [← HW4.out]
    refine wp_region_held_drew (S := (fun W => (W.cell? ⟨X, 0, none⟩ = some (.int .i64 k) ∧ W.cell? ⟨X, 1, none⟩ = some (.int .i64 n) ∧ W.cell? ⟨X, 2, none⟩ = some (.string t)) ∧ (W.cell? ⟨w3.heap.size, 0, none⟩ = some (.int .i64 a) ∧ W.cell? ⟨w3.heap.size, 1, none⟩ = some (.int .i64 b) ∧ W.cell? ⟨w3.heap.size, 2, none⟩ = some (.string u)))) (by kernel_rfl) (by exact ⟨K4.out.cells, U4.out.cells⟩) (fun hHeld => ?_)
    refine wpAnyH_take (i := 0) (oi := ⟨some 33, _, _, _, _, _⟩) (v := ?va0) rfl (by kernel_rfl) (by kernel_rfl) (by kernel_rfl) (fun _ _ _ h => h) (Or.inl ⟨by rfl, ?ha0⟩) (by assumption) ?ra0
    case ha0 => (intro w hSw; (try dsimp only at hSw); first | (go_simp; done) | (go_simp; with_reducible rfl))
    (try simp only [Act.put, List.setIfInBounds_toArray, List.set_cons_zero, List.set_cons_succ])
    refine wpAnyH_take (i := 1) (oi := ⟨some 34, _, _, _, _, _⟩) (v := ?va1) rfl (by kernel_rfl) (by kernel_rfl) (by kernel_rfl) (fun _ _ _ h => h) (Or.inl ⟨by rfl, ?ha1⟩) (by assumption) ?ra1
    case ha1 => (intro w hSw; (try dsimp only at hSw); first | (go_simp; done) | (go_simp; with_reducible rfl))
    (try simp only [Act.put, List.setIfInBounds_toArray, List.set_cons_zero, List.set_cons_succ])
    refine wpAnyH_take (i := 2) (oi := ⟨some 35, _, _, _, _, _⟩) (v := ?va2) rfl (by kernel_rfl) (by kernel_rfl) (by kernel_rfl) (fun _ _ _ h => h) (Or.inl ⟨by rfl, ?ha2⟩) (by assumption) ?ra2
    case ha2 => (intro w hSw; (try dsimp only at hSw); first | (go_simp; done) | (go_simp; with_reducible rfl))
    (try simp only [Act.put, List.setIfInBounds_toArray, List.set_cons_zero, List.set_cons_succ])
    refine wpAnyH_take (i := 3) (oi := ⟨some 36, _, _, _, _, _⟩) (v := undef) rfl (by kernel_rfl) (by kernel_rfl) (by kernel_rfl) (fun _ _ _ h => h) (Or.inr ⟨by rfl, rfl⟩) (by assumption) ?_
    (try simp only [Act.put, List.setIfInBounds_toArray, List.set_cons_zero, List.set_cons_succ])
    refine wpAnyH_take (i := 4) (oi := ⟨some 37, _, _, _, _, _⟩) (v := undef) rfl (by kernel_rfl) (by kernel_rfl) (by kernel_rfl) (fun _ _ _ h => h) (Or.inr ⟨by rfl, rfl⟩) (by assumption) ?_
    (try simp only [Act.put, List.setIfInBounds_toArray, List.set_cons_zero, List.set_cons_succ])
    refine wpAnyH_take (i := 5) (oi := ⟨some 38, _, _, _, _, _⟩) (v := undef) rfl (by kernel_rfl) (by kernel_rfl) (by kernel_rfl) (fun _ _ _ h => h) (Or.inr ⟨by rfl, rfl⟩) (by assumption) ?_
    (try simp only [Act.put, List.setIfInBounds_toArray, List.set_cons_zero, List.set_cons_succ])
    refine wpAnyH_take (i := 6) (oi := ⟨some 39, _, _, _, _, _⟩) (v := undef) rfl (by kernel_rfl) (by kernel_rfl) (by kernel_rfl) (fun _ _ _ h => h) (Or.inr ⟨by rfl, rfl⟩) (by assumption) ?_
    (try simp only [Act.put, List.setIfInBounds_toArray, List.set_cons_zero, List.set_cons_succ])
    refine wpAnyH_take (i := 7) (oi := ⟨some 40, _, _, _, _, _⟩) (v := undef) rfl (by kernel_rfl) (by kernel_rfl) (by kernel_rfl) (fun _ _ _ h => h) (Or.inr ⟨by rfl, rfl⟩) (by assumption) ?_
    (try simp only [Act.put, List.setIfInBounds_toArray, List.set_cons_zero, List.set_cons_succ])
    refine wpAnyH_take (i := 8) (oi := ⟨some 41, _, _, _, _, _⟩) (v := undef) rfl (by kernel_rfl) (by kernel_rfl) (by kernel_rfl) (fun _ _ _ h => h) (Or.inr ⟨by rfl, rfl⟩) (by assumption) ?_
    (try simp only [Act.put, List.setIfInBounds_toArray, List.set_cons_zero, List.set_cons_succ])
    refine wpAnyH_take (i := 9) (oi := ⟨some 42, _, _, _, _, _⟩) (v := undef) rfl (by kernel_rfl) (by kernel_rfl) (by kernel_rfl) (fun _ _ _ h => h) (Or.inr ⟨by rfl, rfl⟩) (by assumption) ?_
    (try simp only [Act.put, List.setIfInBounds_toArray, List.set_cons_zero, List.set_cons_succ])
    refine wpAnyH_take (i := 10) (oi := ⟨some 43, _, _, _, _, _⟩) (v := undef) rfl (by kernel_rfl) (by kernel_rfl) (by kernel_rfl) (fun _ _ _ h => h) (Or.inr ⟨by rfl, rfl⟩) (by assumption) ?_
    (try simp only [Act.put, List.setIfInBounds_toArray, List.set_cons_zero, List.set_cons_succ])
    refine wpAnyH_take (i := 11) (oi := ⟨some 44, _, _, _, _, _⟩) (v := undef) rfl (by kernel_rfl) (by kernel_rfl) (by kernel_rfl) (fun _ _ _ h => h) (Or.inr ⟨by rfl, rfl⟩) (by assumption) ?_
    (try simp only [Act.put, List.setIfInBounds_toArray, List.set_cons_zero, List.set_cons_succ])
    refine wpAnyH_take (i := 12) (oi := ⟨some 45, _, _, _, _, _⟩) (v := undef) rfl (by kernel_rfl) (by kernel_rfl) (by kernel_rfl) (fun _ _ _ h => h) (Or.inr ⟨by rfl, rfl⟩) (by assumption) ?_
    (try simp only [Act.put, List.setIfInBounds_toArray, List.set_cons_zero, List.set_cons_succ])
    refine wpAnyH_take (i := 13) (oi := ⟨some 46, _, _, _, _, _⟩) (v := undef) rfl (by kernel_rfl) (by kernel_rfl) (by kernel_rfl) (fun _ _ _ h => h) (Or.inr ⟨by rfl, rfl⟩) (by assumption) ?_
    (try simp only [Act.put, List.setIfInBounds_toArray, List.set_cons_zero, List.set_cons_succ])
    refine wpAnyH_take (i := 14) (oi := ⟨some 47, _, _, _, _, _⟩) (v := undef) rfl (by kernel_rfl) (by kernel_rfl) (by kernel_rfl) (fun _ _ _ h => h) (Or.inr ⟨by rfl, rfl⟩) (by assumption) ?_
    (try simp only [Act.put, List.setIfInBounds_toArray, List.set_cons_zero, List.set_cons_succ])
    refine wpAnyH_take (i := 15) (oi := ⟨some 48, _, _, _, _, _⟩) (v := undef) rfl (by kernel_rfl) (by kernel_rfl) (by kernel_rfl) (fun _ _ _ h => h) (Or.inr ⟨by rfl, rfl⟩) (by assumption) ?_
    (try simp only [Act.put, List.setIfInBounds_toArray, List.set_cons_zero, List.set_cons_succ])
    refine wpAnyH_take (i := 16) (oi := ⟨some 49, _, _, _, _, _⟩) (v := undef) rfl (by kernel_rfl) (by kernel_rfl) (by kernel_rfl) (fun _ _ _ h => h) (Or.inr ⟨by rfl, rfl⟩) (by assumption) ?_
    (try simp only [Act.put, List.setIfInBounds_toArray, List.set_cons_zero, List.set_cons_succ])
    refine wpAnyH_take (i := 17) (oi := ⟨some 50, _, _, _, _, _⟩) (v := undef) rfl (by kernel_rfl) (by kernel_rfl) (by kernel_rfl) (fun _ _ _ h => h) (Or.inr ⟨by rfl, rfl⟩) (by assumption) ?_
    (try simp only [Act.put, List.setIfInBounds_toArray, List.set_cons_zero, List.set_cons_succ])
    refine wpAnyH_take (i := 18) (oi := ⟨some 51, _, _, _, _, _⟩) (v := undef) rfl (by kernel_rfl) (by kernel_rfl) (by kernel_rfl) (fun _ _ _ h => h) (Or.inr ⟨by rfl, rfl⟩) (by assumption) ?_
    (try simp only [Act.put, List.setIfInBounds_toArray, List.set_cons_zero, List.set_cons_succ])
    refine wpAnyH_take (i := 19) (oi := ⟨some 52, _, _, _, _, _⟩) (v := undef) rfl (by kernel_rfl) (by kernel_rfl) (by kernel_rfl) (fun _ _ _ h => h) (Or.inr ⟨by rfl, rfl⟩) (by assumption) ?_
    (try simp only [Act.put, List.setIfInBounds_toArray, List.set_cons_zero, List.set_cons_succ])
    refine wpAnyH_take (i := 20) (oi := ⟨some 53, _, _, _, _, _⟩) (v := undef) rfl (by kernel_rfl) (by kernel_rfl) (by kernel_rfl) (fun _ _ _ h => h) (Or.inr ⟨by rfl, rfl⟩) (by assumption) ?_
    (try simp only [Act.put, List.setIfInBounds_toArray, List.set_cons_zero, List.set_cons_succ])
    refine wpAnyH_take (i := 21) (oi := ⟨some 54, _, _, _, _, _⟩) (v := undef) rfl (by kernel_rfl) (by kernel_rfl) (by kernel_rfl) (fun _ _ _ h => h) (Or.inr ⟨by rfl, rfl⟩) (by assumption) ?_
    (try simp only [Act.put, List.setIfInBounds_toArray, List.set_cons_zero, List.set_cons_succ])
    refine wpAnyH_take (i := 22) (oi := ⟨some 55, _, _, _, _, _⟩) (v := undef) rfl (by kernel_rfl) (by kernel_rfl) (by kernel_rfl) (fun _ _ _ h => h) (Or.inr ⟨by rfl, rfl⟩) (by assumption) ?_
    (try simp only [Act.put, List.setIfInBounds_toArray, List.set_cons_zero, List.set_cons_succ])
    refine wpAnyH_take (i := 23) (oi := ⟨some 56, _, _, _, _, _⟩) (v := undef) rfl (by kernel_rfl) (by kernel_rfl) (by kernel_rfl) (fun _ _ _ h => h) (Or.inr ⟨by rfl, rfl⟩) (by assumption) ?_
    (try simp only [Act.put, List.setIfInBounds_toArray, List.set_cons_zero, List.set_cons_succ])
    refine wpAnyH_take (i := 24) (oi := ⟨some 57, _, _, _, _, _⟩) (v := ?va24) rfl (by kernel_rfl) (by kernel_rfl) (by kernel_rfl) (fun _ _ _ h => h) (Or.inl ⟨by rfl, ?ha24⟩) (by assumption) ?ra24
    case ha24 => (intro w hSw; (try dsimp only at hSw); first | (go_simp; done) | (go_simp; with_reducible rfl))
    (try simp only [Act.put, List.setIfInBounds_toArray, List.set_cons_zero, List.set_cons_succ])
    refine wpAnyH_done (by kernel_rfl) ?_ _
    obtain ⟨w5, hw5⟩ : ∃ w5, w5 = w4.drew := ⟨_, rfl⟩
    rw [← hw5] at B4 K4 ⊢
    have B5 := B4
    have K5 := K4
    clear B4 K4 U4 HW4 hHeld hw5
    obtain ⟨c0, c1, c2⟩ := K5.out.cells
    go_wp2_with fail
    refine (HA.out _ B5.out).mono ?_
    rintro e w6 ⟨rfl, hb⟩
    have B6 := Lib.hid (B5.out.trans (hb.mono B5.out.size))
    have K6 := Lib.hid (K5.out.later hb)
    clear hb B5 K5 c0 c1 c2
    obtain ⟨c0, c1, c2⟩ := K6.out.cells
    go_wp2_with fail
    refine (HC.out _ B6.out).mono ?_
    rintro e w7 ⟨rfl, hb⟩
    have B7 := Lib.hid (B6.out.trans (hb.mono B6.out.size))
    have K7 := Lib.hid (K6.out.later hb)
    clear hb B6 K6 c0 c1 c2
    go_wp2_with fail
    go_ret
    exact ⟨rfl, B7.out⟩
  subst he
  obtain ⟨f1, f2, f3, f4, f5⟩ := hbk rfl
  obtain ⟨f6, f7⟩ := hft rfl
  rw [len_bytes] at f5 f7
  have HCu := Lib.hid (fun W (hb : Below w.heap.size w W) => S.check a b u W (HT.out W hb) f6 f2 (by rw [← len_bytes, hud]; omega))
  have HKu := Lib.hid (fun W (hb : Below w.heap.size w W) => S.key a b u W (HT.out W hb) f6 f2 (by rw [← len_bytes, hud]; omega))
  have g1 : scT a b u = (a, b, l) := by show (a, b, u.data.toList) = _; rw [hud]
  rw [g1, f1] at HCu
  rw [g1, f3] at HKu
  have g2 : (⟨(x.data.toList.take m).toArray⟩ : ByteArray) = x.extract 0 m := by apply bytes_eq.1; simp
  rw [g2] at HKu
  have HQ1 : Hid (decide (((m : Nat) : Int) < 1) = false) := by show _ = _; exact decide_eq_false (by omega)
  have HQ2 : Hid (decide (x.size < m) = false) := by show _ = _; exact decide_eq_false (by omega)
  have j3 : (0 : Int) ≤ (m : Nat) := by omega
  have j2 : ((m : Nat) : Int) ≤ x.size := by omega
  have hxx : ((x.extract 0 m).toList == (x.extract 0 m).toList) = true := beq_self_eq_true _
  clear f1 f2 f3 f4 f5 f6 f7 g1 g2 hud hxl hbk hft
  go_enter Try.func7, Try.ntmps7
  go_wp2_with fail
  rw [← HW.out, ← HX.out]
  refine (HL.out _ B0.out).mono ?_
  rintro e w1 ⟨rfl, hb⟩
  have B1 := Lib.hid (B0.out.trans (hb.mono B0.out.size))
  have K1 := Lib.hid (K0.out.later hb)
  clear hb B0 K0
  obtain ⟨c0, c1, c2⟩ := K1.out.cells
  go_wp2_with fail
  refine (HS.out _).mono ?_
  rintro e w2 ⟨rfl, hb⟩
  have B2 := Lib.hid (B1.out.trans (hb.mono B1.out.size))
  have K2 := Lib.hid (K1.out.later hb)
  clear hb B1 K1 c0 c1 c2
  go_wp2_with fail
  refine (HV.out _ B2.out).mono ?_
  rintro e w3 ⟨rfl, hb⟩
  obtain ⟨w4, hw4⟩ : ∃ w4, w4 = w3.alloc (.cells #[.int .i64 a, .int .i64 b, .string u] 23) := ⟨_, rfl⟩
  have B4 : Hid (Below w.heap.size w w4.drew) := by show Below _ _ _; rw [hw4]; exact Below.drewMany (Below.more (B2.out.trans (hb.mono B2.out.size)) _) 1
  have K4 : Hid (Bx X k n t w4.drew) := by have h := (K2.out.later hb).later (Below.newly' w3 (.cells #[.int .i64 a, .int .i64 b, .string u] 23)); rw [← hw4] at h; exact h
  have U4 : Hid (Bx w3.heap.size a b u w4.drew) := by have h := Bx.new a b u w3; rw [← hw4] at h; exact h
  have HW4 := Lib.hid hw4
  clear hb B2 K2 hw4
  go_wp2_with fail
  rw [← HW4.out]
  have q1 := HQ1.out
  have q2 := HQ2.out
  go_region_held3 (fun W => (W.cell? ⟨X, 0, none⟩ = some (.int .i64 k) ∧ W.cell? ⟨X, 1, none⟩ = some (.int .i64 n) ∧ W.cell? ⟨X, 2, none⟩ = some (.string t)) ∧ (W.cell? ⟨w3.heap.size, 0, none⟩ = some (.int .i64 a) ∧ W.cell? ⟨w3.heap.size, 1, none⟩ = some (.int .i64 b) ∧ W.cell? ⟨w3.heap.size, 2, none⟩ = some (.string u))) (first | exact ⟨K4.out.cells, U4.out.cells⟩ | exact ⟨K5.out.cells, U5.out.cells⟩ | exact ⟨K6.out.cells, U6.out.cells⟩)
    (first
      | (go_at_call 12; with_reducible refine (HCu.out _ B4.out).mono ?_; rintro e w5 ⟨rfl, hb⟩; have B5 := Lib.hid (B4.out.trans (hb.mono B4.out.size)); have K5 := Lib.hid (K4.out.later hb); have U5 := Lib.hid (U4.out.later hb); clear hb)
      | (go_at_call 14; with_reducible refine (HKu.out _ B5.out).mono ?_; rintro e w6 ⟨rfl, hb⟩; have B6 := Lib.hid (B5.out.trans (hb.mono B5.out.size)); have K6 := Lib.hid (K5.out.later hb); have U6 := Lib.hid (U5.out.later hb); clear hb))
  clear U4 U5 U6 q1 q2 j2 j3
  obtain ⟨c0, c1, c2⟩ := K6.out.cells
  go_wp2_with fail
  refine (HA.out _ B6.out).mono ?_
  rintro e w7 ⟨rfl, hb⟩
  have B7 := Lib.hid (B6.out.trans (hb.mono B6.out.size))
  have K7 := Lib.hid (K6.out.later hb)
  clear hb B6 K6 c0 c1 c2
  obtain ⟨c0, c1, c2⟩ := K7.out.cells
  go_wp2_with fail
  refine (HC.out _ B7.out).mono ?_
  rintro e w8 ⟨rfl, hb⟩
  have B8 := Lib.hid (B7.out.trans (hb.mono B7.out.size))
  have K8 := Lib.hid (K7.out.later hb)
  clear hb B7 K7 c0 c1 c2
  go_wp2_with fail
  go_ret
  exact ⟨rfl, B8.out⟩
end Go.Proofs.Ytjefaibnlhnaiaa
