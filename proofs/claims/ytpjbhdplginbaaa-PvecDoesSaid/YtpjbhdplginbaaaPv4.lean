/- Package pvec: node.keep. (written by tools/gen07/pv2.py) -/
import Derived.Test.YtpjbhdplginbaaaPv2
namespace Go.Proofs.Ytpjbhdplginbaaa
open Go.RowKit
set_option maxRecDepth 1000000
set_option linter.unusedSimpArgs false

/-- 'kids[:k]'. -/
theorem kids_cut (g cnt c k : Nat) (h1 : k ≤ c) (w : World) : (Instr.slice 25 (.slice (some ⟨g, 0, none⟩) cnt c) none (some (.int .i64 (k : Int))) none).run Try.prog w = .ok (.slice (some ⟨g, 0, none⟩) k c) w := by
  have hu : Try.prog.underlying 25 = some (.slice (Try.prog.elem 25)) := by kernel_rfl
  have hs : (sizeOf (Try.prog.elem 25)).run Try.prog w = .ok 2 w := by
    have e : Try.prog.elem 25 = 28 := by kernel_rfl
    rw [e]
    obtain ⟨i, hi, _, h1, _⟩ := info_parts node_info
    simp [sizeOf, typeInfo, hi, h1]
  rw [run_slice_h w _ _ _ _ hu _ _ (by omega) (by omega), hs]
  simp only [Result.andThen_ok, sliced, Int.toNat_natCast, Nat.sub_zero, Nat.zero_mul, Option.map_some, add_at, Nat.add_zero, ite_self]
theorem keep_fit {h i p n : Nat} (hp : p = i % 32 ^ (h + 2)) (hn : p < n) : ∃ k, k = i / 32 ^ (h + 1) % 32 ∧ p = k * 32 ^ (h + 1) + i % 32 ^ (h + 1) ∧ k < 32 ∧ k * 32 ^ (h + 1) < n ∧ i % 32 ^ (h + 1) < min (32 ^ (h + 1)) (n - k * 32 ^ (h + 1)) ∧ p + 1 ≤ 32 ^ (h + 2) ∧
    (p + 1 + 32 ^ (h + 1) - 1) / 32 ^ (h + 1) = k + 1 ∧ (∀ j, j * 32 ^ (h + 1) < p + 1 → j ≠ k → j * 32 ^ (h + 1) < n ∧ min (32 ^ (h + 1)) (p + 1 - j * 32 ^ (h + 1)) = min (32 ^ (h + 1)) (n - j * 32 ^ (h + 1))) ∧
    min (32 ^ (h + 1)) (p + 1 - k * 32 ^ (h + 1)) = i % 32 ^ (h + 1) + 1 := by
  have hsp := split_at h i
  have hB := pw_pos (h + 1)
  have hin : i % 32 ^ (h + 1) < 32 ^ (h + 1) := Nat.mod_lt _ hB
  have e2 : 32 ^ (h + 2) = 32 ^ (h + 1) * 32 := Nat.pow_succ _ _
  have hk : i / 32 ^ (h + 1) % 32 < 32 := Nat.mod_lt _ (by decide)
  rw [← hp] at hsp
  rw [e2]
  generalize i / 32 ^ (h + 1) % 32 = k at *
  generalize i % 32 ^ (h + 1) = r at *
  generalize 32 ^ (h + 1) = B at *
  have hc : ∀ x y, y * B < x → x ≤ (y + 1) * B → (x + B - 1) / B = y + 1 := fun x y h1 h2 => by
    have a1 := (cnt_of_lt (n := x) (k := y) hB).2 h1
    have a2 := mt (cnt_of_lt (n := x) (k := y + 1) hB).1 (by omega)
    omega
  have hkB : (k + 1) * B = k * B + B := by rw [Nat.add_mul, Nat.one_mul]
  have hk32 : (k + 1) * B ≤ B * 32 := by rw [Nat.mul_comm B 32]; exact Nat.mul_le_mul_right _ (by omega)
  refine ⟨k, rfl, hsp, hk, by omega, Nat.lt_min.2 ⟨hin, by omega⟩, by omega, hc _ _ (by omega) (by omega), fun j hj hne => ?_, by omega⟩
  have hjk : j < k := by
    rcases Nat.lt_or_ge j k with h1 | h1
    · exact h1
    · have := Nat.mul_le_mul_right B (show k + 1 ≤ j by omega)
      omega
  have := Nat.mul_le_mul_right B (show j + 1 ≤ k by omega)
  rw [Nat.add_mul, Nat.one_mul] at this
  omega
/-- What node.keep does at that height. -/
def KeepDoes (h : Nat) : Prop := ∀ (S : Nat → Prop) (W : World) (a b : Value) (f : Nat → Int) (n p i lv : Nat), lv = h + 1 → NodeAt S W h a b f n → p = i % 32 ^ (h + 1) → p < n → i % 32 = 31 →
    Calls Try.prog 43 #[.agg #[a, b], .int .i64 (lv : Int), .int .i64 (i : Int)] W fun e W' => ∃ a' b', e = .returned (.agg #[a', b']) ∧
      NodeAt (fun g => S g ∨ W.heap.size ≤ g) W' h a' b' f (p + 1) ∧ Below W.heap.size W W'
set_option maxHeartbeats 1000000 in
theorem pv_keep0 : KeepDoes 0 := by
  intro S W a b f n p i lv hlv hn hp hpn h32
  subst hlv
  have hp0 : p = 31 := by rw [hp]; simpa using h32
  have HN := Lib.hid hn.old
  have hn32 : n = 32 := hn.2.1
  have HONE := Lib.hid hn.one
  subst hp0 hn32
  obtain ⟨w2, hw2⟩ : ∃ w2, (W.alloc (.cells #[a, b] 28)).alloc (.cells #[.slice none 0 0, .slice none 0 0] 28) = w2 := ⟨_, rfl⟩
  obtain ⟨hb2, hx2, hy2, hs2⟩ := pair_new hw2
  have HB2 := Lib.hid hb2
  have HX2 := Lib.hid hx2
  have HY2 := Lib.hid hy2
  clear hb2 hx2 hy2 hs2 hn hp hpn h32
  go_enter Try.func43, Try.ntmps43
  go_upto_region 1 with fail
  clear hw2
  go_wp2_with (first
    | (refine ld_if rfl 28 _ rfl W.heap.size rfl 28 _ _ _ HX2.out Try.underlying28 rfl node_size ?_)
    | (refine st_agg rfl 28 _ _ rfl (W.heap.size + 1) #[a, b] rfl rfl 28 #[.slice none 0 0, .slice none 0 0] HY2.out node_size rfl (by simp [HONE.out.1, HONE.out.2]) ?_; intro w4 h4 k4))
  refine bodyPost_ret (results_cell_row rfl _ _ (W.heap.size + 1) 28 _ (0, 0) _ rfl h4 Try.underlying28 rfl node_size) rfl ⟨_, _, rfl, ?_, HB2.out.trans (k4.below (by omega))⟩
  exact ((HN.out.later HB2.out).kept k4.by_ (fun X e => by cases e; omega)).weak fun g hg => .inl hg.1
set_option maxHeartbeats 2000000 in
theorem pv_keepS (h : Nat) (hh : h + 1 ≤ 4) (ih : KeepDoes h) : KeepDoes (h + 1) := by
  intro S W a b f n p i lv hlv hn hp hpn h32
  obtain ⟨rfl, h0, hle, F, hr, hkid⟩ := hn
  have hB := pw_pos (h + 1)
  obtain ⟨k, hk, hsp, hk32, hkB, hpk, hfit2, hfit1, hold, hmin⟩ := keep_fit hp hpn
  have HWAY := Lib.hid (pv_way (h + 1) i hh)
  rw [← hk] at HWAY
  obtain ⟨cnt, hcnt⟩ : ∃ cnt, cnt = (n + 32 ^ (h + 1) - 1) / 32 ^ (h + 1) := ⟨_, rfl⟩
  have hkc : k < cnt := by rw [hcnt]; exact (cnt_of_lt hB).2 hkB
  rw [← hcnt] at hr
  obtain ⟨g, c, cs, fr, rfl, hc, hS, hg, hcs⟩ := hr.pos (by omega)
  have hone : ∀ j, j < k * 2 → (F j).oneCell' = true := fun j hj => by
    obtain ⟨h1, h2⟩ := (hkid (j / 2) ((cnt_of_lt hB).1 (by rw [← hcnt]; omega))).one
    rcases Nat.mod_two_eq_zero_or_one j with e | e
    · rw [show j = 2 * (j / 2) by omega]; exact h1
    · rw [show j = 2 * (j / 2) + 1 by omega]; exact h2
  have hpl : PlacesAt W 2 (.slice (some ⟨g, 0, none⟩) k c) F k := ⟨_, c, rfl, fun _ => ⟨_, rfl, fun j hj => by rw [add_at, Nat.zero_add]; exact cell_in hg (hcs j (by omega))⟩⟩
  have hrk := hkid k hkB
  obtain ⟨w2, hw2⟩ : ∃ w2, (W.alloc (.cells #[.slice (some ⟨g, 0, none⟩) cnt c, .slice none 0 0] 28)).alloc (.cells #[.slice none 0 0, .slice none 0 0] 28) = w2 := ⟨_, rfl⟩
  obtain ⟨hb2, hx2, hy2, hs2⟩ := pair_new hw2
  have hb2d : Below W.heap.size W w2.drew := hb2.trans ((drawn_below w2).mono hb2.size)
  have HB2 := Lib.hid hb2d
  have HY2 : Hid (w2.drew.heap[W.heap.size + 1]? = some (.cells #[.slice none 0 0, .slice none 0 0] 28 (0, 0))) := hy2
  have HS2 : Hid (w2.drew.heap.size = W.heap.size + 2) := hs2
  have HK2 : Hid (w2.drew.cell? ⟨W.heap.size, 0, none⟩ = some (.slice (some ⟨g, 0, none⟩) cnt c)) := cell_in (W := w2) hx2 rfl
  have HR2 : Hid (w2.drew.rangeAt g (k * 2) [F (2 * k), F (2 * k + 1)]) := range_later (kid_range hg hcs hkc) hb2d
  have HO := Lib.hid hone
  have HPL := Lib.hid hpl
  have HKID := Lib.hid hkid
  have HFIT := Lib.hid (And.intro hfit1 hfit2)
  have HOLD := Lib.hid hold
  have HMIN := Lib.hid hmin
  have hkc' : (k : Int) < cnt := by omega
  have hkcap : (k : Int) ≤ c := by omega
  have hk0 : 0 ≤ (k : Int) := by omega
  have hcut := kids_cut g cnt c k (by omega)
  have hlv2 : ((lv : Int) == 1) = false := beq_eq_false_iff_ne.2 (by omega)
  have hlv3 : (lv : Int) - 1 = ((h + 1 : Nat) : Int) := by omega
  obtain ⟨l2, hl2⟩ : ∃ l2, l2 = h + 1 := ⟨_, rfl⟩
  rw [← hl2] at hlv3
  have hlb : (lv : Int) ≤ 5 := by omega
  have hlb2 : IntKind.i64.wrap (l2 : Int) = (l2 : Int) := by rw [IntKind.wrap_i64]; omega
  have HREC := Lib.hid (ih (fun g => S g ∧ g < W.heap.size) w2.drew (F (2 * k)) (F (2 * k + 1)) _ _ _ i l2 hl2 (hrk.old.later hb2d) rfl hpk h32)
  have HKC : Hid (k < cnt ∧ k < 32) := (show _ ∧ _ from ⟨hkc, hk32⟩)
  rw [show h + 1 + 1 = lv from hlv.symm] at HWAY
  clear hlv hb2 hx2 hy2 hs2 hone hr hkid hsp hcnt hB hle h0 hrk hkc hg hcs hc hk hl2 hb2d hk32 hkB hpk hfit2 hfit1 hold hmin hpl hp hpn h32
  go_enter Try.func43, Try.ntmps43
  go_upto_region 4 with (go_at_call 39; refine (HWAY.out _).mono ?_; rintro e w1 ⟨rfl, hw1⟩; obtain rfl := hw1.symm)
  clear hw2
  refine wp_region_T (S := fun V => V.cell? ⟨W.heap.size, 0, none⟩ = some (.slice (some ⟨g, 0, none⟩) cnt c) ∧ V.rangeAt g (k * 2) [F (2 * k), F (2 * k + 1)]) [16] (by kernel_rfl) (by first | exact ⟨HK2.out, HR2.out⟩ | exact ⟨HK3.out, HR3.out⟩ | exact ⟨HK4.out, HR4.out⟩) (fun hHeld => ?_)
  refine wpAnyT_take (i := 0) (oi := ⟨some 14, _, _, _, _, _⟩) (v := ?vg4_0) rfl (by kernel_rfl) (by kernel_rfl) (by kernel_rfl) (by kernel_rfl) (fun _ _ _ h => h) (Or.inl ⟨by rfl, ?hg4_0⟩) (by assumption) ?rg4_0
  case hg4_0 => (intro w hSw; (try dsimp only at hSw); first | (go_simp; done) | (go_simp; with_reducible rfl))
  (try simp only [Act.put, List.setIfInBounds_toArray, List.set_cons_zero, List.set_cons_succ])
  refine wpAnyT_take (i := 1) (oi := ⟨some 15, _, _, _, _, _⟩) (v := ?vg4_1) rfl (by kernel_rfl) (by kernel_rfl) (by kernel_rfl) (by kernel_rfl) (fun _ _ _ h => h) (Or.inl ⟨by rfl, ?hg4_1⟩) (by assumption) ?rg4_1
  case hg4_1 => (intro w hSw; (try dsimp only at hSw); first | (go_simp; done) | (go_simp; with_reducible rfl))
  (try simp only [Act.put, List.setIfInBounds_toArray, List.set_cons_zero, List.set_cons_succ])
  refine wpAnyT_take (i := 2) (oi := ⟨some 16, _, _, _, _, _⟩) (v := ?vg4_2) rfl (by kernel_rfl) (by kernel_rfl) (by kernel_rfl) (by kernel_rfl) (fun _ _ _ h => h) (Or.inl ⟨by rfl, ?hg4_2⟩) (by assumption) ?rg4_2
  case hg4_2 => (intro w hSw; (try dsimp only at hSw); first | (go_simp; done) | (go_simp; with_reducible rfl))
  (try simp only [Act.put, List.setIfInBounds_toArray, List.set_cons_zero, List.set_cons_succ])
  refine wpAnyT_take (i := 3) (oi := ⟨some 17, _, _, _, _, _⟩) (v := ?vg4_3) rfl (by kernel_rfl) (by kernel_rfl) (by kernel_rfl) (by kernel_rfl) (fun _ _ _ h => h) (Or.inl ⟨by rfl, ?hg4_3⟩) (by assumption) ?rg4_3
  case hg4_3 => (intro w hSw; (try dsimp only at hSw); first | (go_simp; done) | (go_simp; with_reducible rfl))
  (try simp only [Act.put, List.setIfInBounds_toArray, List.set_cons_zero, List.set_cons_succ])
  refine wpAnyT_take (i := 4) (oi := ⟨some 18, _, _, _, _, _⟩) (v := ?vg4_4) rfl (by kernel_rfl) (by kernel_rfl) (by kernel_rfl) (by kernel_rfl) (fun _ _ _ h => h) (Or.inl ⟨by rfl, ?hg4_4⟩) (by assumption) ?rg4_4
  case hg4_4 => (intro w hSw; (try dsimp only at hSw); first | (go_simp; done) | (go_simp; with_reducible rfl))
  (try simp only [Act.put, List.setIfInBounds_toArray, List.set_cons_zero, List.set_cons_succ])
  refine wpAnyT_take (i := 5) (oi := ⟨some 19, _, _, _, _, _⟩) (v := ?vg4_5) rfl (by kernel_rfl) (by kernel_rfl) (by kernel_rfl) (by kernel_rfl) (fun _ _ _ h => h) (Or.inl ⟨by rfl, ?hg4_5⟩) (by assumption) ?rg4_5
  case hg4_5 => (intro w hSw; (try dsimp only at hSw); first | (go_simp; done) | (go_simp; with_reducible rfl))
  (try simp only [Act.put, List.setIfInBounds_toArray, List.set_cons_zero, List.set_cons_succ])
  refine wpAnyT_take (i := 6) (oi := ⟨some 20, _, _, _, _, _⟩) (v := ?vg4_6) rfl (by kernel_rfl) (by kernel_rfl) (by kernel_rfl) (by kernel_rfl) (fun _ _ _ h => h) (Or.inl ⟨by rfl, ?hg4_6⟩) (by assumption) ?rg4_6
  case hg4_6 => (intro w hSw; (try dsimp only at hSw); first | (go_simp; done) | (go_simp; with_reducible rfl))
  (try simp only [Act.put, List.setIfInBounds_toArray, List.set_cons_zero, List.set_cons_succ])
  refine wpAnyT_take (i := 7) (oi := ⟨some 21, _, _, _, _, _⟩) (v := ?vg4_7) rfl (by kernel_rfl) (by kernel_rfl) (by kernel_rfl) (by kernel_rfl) (fun _ _ _ h => h) (Or.inl ⟨by rfl, ?hg4_7⟩) (by assumption) ?rg4_7
  case hg4_7 => (intro w hSw; (try dsimp only at hSw); first | (go_simp; done) | (go_simp; with_reducible rfl))
  (try simp only [Act.put, List.setIfInBounds_toArray, List.set_cons_zero, List.set_cons_succ])
  refine wpAnyT_take (i := 8) (oi := ⟨some 22, _, _, _, _, _⟩) (v := ?vg4_8) rfl (by kernel_rfl) (by kernel_rfl) (by kernel_rfl) (by kernel_rfl) (fun _ _ _ h => h) (Or.inl ⟨by rfl, ?hg4_8⟩) (by assumption) ?rg4_8
  case hg4_8 => (intro w hSw; (try dsimp only at hSw); first | (go_simp; done) | (go_simp; with_reducible rfl))
  (try simp only [Act.put, List.setIfInBounds_toArray, List.set_cons_zero, List.set_cons_succ])
  refine wpAnyT_take (i := 9) (oi := ⟨some 23, _, _, _, _, _⟩) (v := _) rfl (by kernel_rfl) (by kernel_rfl) (by kernel_rfl) (by kernel_rfl) (fun _ _ _ h => h) (yieldsIf_load_mid (by rfl) 28 _ rfl g (k * 2) rfl [F (2 * k), F (2 * k + 1)] _ (fun w hw => hw.2) Try.underlying28 rfl node_size) (by assumption) ?_
  (try simp only [Act.put, List.setIfInBounds_toArray, List.set_cons_zero, List.set_cons_succ])
  refine wpAnyT_take (i := 10) (oi := ⟨some 24, _, _, _, _, _⟩) (v := ?vg4_10) rfl (by kernel_rfl) (by kernel_rfl) (by kernel_rfl) (by kernel_rfl) (fun _ _ _ h => h) (Or.inl ⟨by rfl, ?hg4_10⟩) (by assumption) ?rg4_10
  case hg4_10 => (intro w hSw; (try dsimp only at hSw); first | (go_simp; done) | (go_simp; with_reducible rfl))
  (try simp only [Act.put, List.setIfInBounds_toArray, List.set_cons_zero, List.set_cons_succ])
  refine wpAnyT_take (i := 11) (oi := ⟨some 25, _, _, _, _, _⟩) (v := ?vg4_11) rfl (by kernel_rfl) (by kernel_rfl) (by kernel_rfl) (by kernel_rfl) (fun _ _ _ h => h) (Or.inl ⟨by rfl, ?hg4_11⟩) (by assumption) ?rg4_11
  case hg4_11 => (intro w hSw; (try dsimp only at hSw); first | (go_simp; done) | (go_simp; with_reducible rfl))
  (try simp only [Act.put, List.setIfInBounds_toArray, List.set_cons_zero, List.set_cons_succ])
  refine wpAnyT_take (i := 12) (oi := ⟨some 26, _, _, _, _, _⟩) (v := ?vg4_12) rfl (by kernel_rfl) (by kernel_rfl) (by kernel_rfl) (by kernel_rfl) (fun _ _ _ h => h) (Or.inl ⟨by rfl, ?hg4_12⟩) (by assumption) ?rg4_12
  case hg4_12 => (intro w hSw; (try dsimp only at hSw); first | (go_simp; done) | (go_simp; with_reducible rfl))
  (try simp only [Act.put, List.setIfInBounds_toArray, List.set_cons_zero, List.set_cons_succ])
  refine wpAnyT_one (i := 13) (o := ⟨some 27, _, _, _, _, _⟩) (by kernel_rfl) rfl (fun K hK => ?_)
  go_simp
  go_at_call 43
  refine HREC.out.mono ?_
  rintro e w3 ⟨a3, b3, rfl, hn3, hb3⟩
  have HK3 := Lib.hid (((hb3).cell (p := ⟨W.heap.size, 0, none⟩) (World.block_lt_of_cell? _ _ HK2.out)).trans HK2.out)
  have HR3 := Lib.hid (range_later HR2.out hb3)
  have HY3 := Lib.hid (((hb3).block _ (Array.getElem?_eq_some_iff.1 HY2.out).1).trans HY2.out)
  have HB3 := Lib.hid (HB2.out.trans (hb3.mono HB2.out.size))
  have HN3 := Lib.hid hn3
  have HB23 := Lib.hid hb3
  clear hb3 hn3
  dsimp only
  refine hK.out _ _ (by first | exact ⟨HK2.out, HR2.out⟩ | exact ⟨HK3.out, HR3.out⟩ | exact ⟨HK4.out, HR4.out⟩) (fun hHeld => ?_)
  clear hK K
  (try simp only [Act.put, List.setIfInBounds_toArray, List.set_cons_zero, List.set_cons_succ])
  refine wpAnyT_one (i := 14) (o := ⟨some 28, _, _, _, _, _⟩) (by kernel_rfl) rfl (fun K hK => ?_)
  go_simp
  go_at_call 42
  refine (pv_with_node w3 _ F k k a3 b3 (HPL.out.later HB3.out) HO.out HN3.out.one.1 HN3.out.one.2 (by have := HKC.out; omega) (Nat.le_refl _)).mono ?_
  rintro e w4 ⟨m, v4, hm, rfl, hr4, hb4⟩
  obtain ⟨ap4, cp4, rfl, _⟩ := hr4.shape
  have HK4 := Lib.hid (((hb4).cell (p := ⟨W.heap.size, 0, none⟩) (World.block_lt_of_cell? _ _ HK3.out)).trans HK3.out)
  have HR4 := Lib.hid (range_later HR3.out hb4)
  have HY4 := Lib.hid (((hb4).block _ (Array.getElem?_eq_some_iff.1 HY3.out).1).trans HY3.out)
  have HB4 := Lib.hid (HB3.out.trans (hb4.mono HB3.out.size))
  have HR4' := Lib.hid hr4
  have HN4 := Lib.hid (HN3.out.later hb4)
  have HM := Lib.hid hm
  clear hb4 hr4 hm
  dsimp only
  refine hK.out _ _ (by first | exact ⟨HK2.out, HR2.out⟩ | exact ⟨HK3.out, HR3.out⟩ | exact ⟨HK4.out, HR4.out⟩) (fun hHeld => ?_)
  clear hK K
  (try simp only [Act.put, List.setIfInBounds_toArray, List.set_cons_zero, List.set_cons_succ])
  refine wpAnyT_take (i := 15) (oi := ⟨some 29, _, _, _, _, _⟩) (v := ?vg4_15) rfl (by kernel_rfl) (by kernel_rfl) (by kernel_rfl) (by kernel_rfl) (fun _ _ _ h => h) (Or.inl ⟨by rfl, ?hg4_15⟩) (by assumption) ?rg4_15
  case hg4_15 => (intro w hSw; (try dsimp only at hSw); first | (go_simp; done) | (go_simp; with_reducible rfl))
  (try simp only [Act.put, List.setIfInBounds_toArray, List.set_cons_zero, List.set_cons_succ])
  refine wpAnyT_last (i := 16) (o := ⟨none, _, _, _, _, _⟩) (by kernel_rfl) (by decide) rfl (fun K hK => ?_)
  refine st_agg_wp 28 _ _ rfl (W.heap.size + 1) #[.slice ap4 m cp4, .slice none 0 0] rfl rfl 28 #[.slice none 0 0, .slice none 0 0] HY4.out node_size rfl (by simp [Value.oneCell']) ?_
  intro w6 h6 k6
  refine hK.out _ _ ?_
  clear hK K
  (try simp only [Act.put, List.setIfInBounds_toArray, List.set_cons_zero, List.set_cons_succ])
  refine wpAnyT_done (by kernel_rfl) ?_ _
  go_wp2_with fail
  refine bodyPost_ret (results_cell_row rfl _ _ (W.heap.size + 1) 28 _ (0, 0) _ rfl h6 Try.underlying28 rfl node_size) rfl ⟨_, _, rfl, ⟨rfl, by omega, HFIT.out.2, updN F k a3 b3, ?_, fun j hj => ?_⟩, HB4.out.trans (k6.below (by omega))⟩
  · have hm : m = (p + 1 + 32 ^ (h + 1) - 1) / 32 ^ (h + 1) := by rw [HFIT.out.1]; have := HM.out; omega
    rw [← hm]
    exact (HR4'.out.kept k6.by_ (fun X e => by cases e; have := HB23.out.size; have := HS2.out; omega)).weak fun g hg => .inr (by have := HB23.out.size; have := HS2.out; omega)
  · rw [updN_l, updN_r]
    by_cases e : j = k
    · subst e
      rw [if_pos rfl, if_pos rfl, HMIN.out]
      refine ((HN4.out.kept k6.by_ (fun X e => ?_)).weak (fun g hg => ?_))
      · cases e
        have h5 := HS2.out
        rintro (⟨_, h⟩ | h)
        · omega
        · omega
      · rcases hg with ⟨hg, _⟩ | hg
        · exact .inl hg
        · exact .inr (by have := HS2.out; omega)
    · rw [if_neg e, if_neg e]
      have hj2 := HOLD.out j hj e
      rw [hj2.2]
      exact (((HKID.out j hj2.1).old.later HB4.out).kept k6.by_ (fun X e => by cases e; omega)).weak (fun g hg => .inl hg.1)
theorem pv_keep : ∀ (h : Nat), h ≤ 4 → KeepDoes h
  | 0, _ => pv_keep0
  | h + 1, hh => pv_keepS h hh (pv_keep h (by omega))
end Go.Proofs.Ytpjbhdplginbaaa
