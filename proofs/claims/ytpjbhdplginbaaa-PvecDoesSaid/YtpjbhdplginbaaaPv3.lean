/- Package pvec: node.push. (written by tools/gen07/pv2.py) -/
import Derived.Test.YtpjbhdplginbaaaPv2
namespace Go.Proofs.Ytpjbhdplginbaaa
open Go.RowKit
set_option maxRecDepth 1000000
set_option linter.unusedSimpArgs false

/-- How many kids there are behind a leaf more, and what each of them holds. -/
theorem push_fit {h i p : Nat} (hp : p = i % 32 ^ (h + 2)) (h32 : i % 32 = 0) : ∃ k, k = i / 32 ^ (h + 1) % 32 ∧ p = k * 32 ^ (h + 1) + i % 32 ^ (h + 1) ∧ i % 32 ^ (h + 1) + 32 ≤ 32 ^ (h + 1) ∧ k < 32 ∧ p + 32 ≤ 32 ^ (h + 2) ∧
    (p + 32 + 32 ^ (h + 1) - 1) / 32 ^ (h + 1) = k + 1 ∧ ((i % 32 ^ (h + 1) = 0 ∧ (p + 32 ^ (h + 1) - 1) / 32 ^ (h + 1) = k) ∨ (0 < i % 32 ^ (h + 1) ∧ (p + 32 ^ (h + 1) - 1) / 32 ^ (h + 1) = k + 1)) ∧
    (∀ j, j * 32 ^ (h + 1) < p + 32 → j ≠ k → j * 32 ^ (h + 1) < p ∧ min (32 ^ (h + 1)) (p + 32 - j * 32 ^ (h + 1)) = min (32 ^ (h + 1)) (p - j * 32 ^ (h + 1))) ∧
    min (32 ^ (h + 1)) (p + 32 - k * 32 ^ (h + 1)) = i % 32 ^ (h + 1) + 32 ∧ min (32 ^ (h + 1)) (p - k * 32 ^ (h + 1)) = i % 32 ^ (h + 1) := by
  have hsp := split_at h i
  have hB := pw_pos (h + 1)
  have hin : i % 32 ^ (h + 1) < 32 ^ (h + 1) := Nat.mod_lt _ hB
  have e2 : 32 ^ (h + 2) = 32 ^ (h + 1) * 32 := Nat.pow_succ _ _
  have hd : 32 ^ (h + 1) % 32 = 0 := by rw [Nat.pow_succ]; exact Nat.mul_mod_left _ _
  have hd2 : i % 32 ^ (h + 1) % 32 = 0 := by
    rw [show 32 ^ (h + 1) = 32 * 32 ^ h by rw [Nat.pow_succ, Nat.mul_comm], Nat.mod_mul_right_mod]
    exact h32
  have hk : i / 32 ^ (h + 1) % 32 < 32 := Nat.mod_lt _ (by decide)
  rw [← hp] at hsp
  rw [e2]
  generalize i / 32 ^ (h + 1) % 32 = k at *
  generalize i % 32 ^ (h + 1) = r at *
  generalize 32 ^ (h + 1) = B at *
  have hr : r + 32 ≤ B := by omega
  have hc : ∀ x y, y * B < x → x ≤ (y + 1) * B → (x + B - 1) / B = y + 1 := fun x y h1 h2 => by
    have a1 := (cnt_of_lt (n := x) (k := y) hB).2 h1
    have a2 := mt (cnt_of_lt (n := x) (k := y + 1) hB).1 (by omega)
    omega
  have hkB : (k + 1) * B = k * B + B := by rw [Nat.add_mul, Nat.one_mul]
  have hk32 : (k + 1) * B ≤ B * 32 := by rw [Nat.mul_comm B 32]; exact Nat.mul_le_mul_right _ (by omega)
  refine ⟨k, rfl, hsp, hr, hk, by omega, hc _ _ (by omega) (by omega), ?_, fun j hj hne => ?_, by omega, by omega⟩
  · by_cases h0 : r = 0
    · refine .inl ⟨h0, ?_⟩
      cases k with
      | zero => exact Nat.div_eq_of_lt (by omega)
      | succ k' => exact hc _ _ (by rw [Nat.add_mul, Nat.one_mul] at hsp; omega) (by omega)
    · exact .inr ⟨by omega, hc _ _ (by omega) (by omega)⟩
  · have hjk : j < k := by
      rcases Nat.lt_or_ge j k with h1 | h1
      · exact h1
      · have := Nat.mul_le_mul_right B (show k + 1 ≤ j by omega)
        omega
    have := Nat.mul_le_mul_right B (show j + 1 ≤ k by omega)
    rw [Nat.add_mul, Nat.one_mul] at this
    omega
theorem three_new {W : World} {c d u : Array Value} {T T' T'' : TypeId} {w3 : World} (e : ((W.alloc (.cells c T)).alloc (.cells d T')).alloc (.cells u T'') = w3) :
    Below W.heap.size W w3 ∧ w3.heap[W.heap.size]? = some (.cells c T (0, 0)) ∧ w3.heap[W.heap.size + 1]? = some (.cells d T' (0, 0)) ∧ w3.heap[W.heap.size + 1 + 1]? = some (.cells u T'' (0, 0)) ∧ w3.heap.size = W.heap.size + 3 := by
  subst e
  obtain ⟨h1, h2, h3, h4⟩ := pair_new (W := W) (c := c) (d := d) (T := T) (T' := T') rfl
  have hb := Below.newly' ((W.alloc (.cells c T)).alloc (.cells d T')) (.cells u T'')
  refine ⟨Below.more h1 _, (hb.block _ (by omega)).trans h2, (hb.block _ (by omega)).trans h3, ?_, by simp⟩
  have h := heap_alloc_last ((W.alloc (.cells c T)).alloc (.cells d T')) (.cells u T'')
  rwa [h4] at h
/-- What node.push does at that height: f has the leaf's things already. -/
def PushDoes (h : Nat) : Prop := ∀ (S : Nat → Prop) (W : World) (a b v : Value) (f : Nat → Int) (p i lv : Nat), lv = h + 1 → p = i % 32 ^ (h + 1) → i % 32 = 0 →
    ((p = 0 ∧ a = .slice none 0 0 ∧ b = .slice none 0 0) ∨ NodeAt S W h a b f p) → RunAt S W 3 1 v (fi fun j => f (p + j)) 32 →
    Calls Try.prog 40 #[.agg #[a, b], .int .i64 (lv : Int), .int .i64 (i : Int), v] W fun e W' => ∃ a' b', e = .returned (.agg #[a', b']) ∧
      NodeAt (fun g => S g ∨ W.heap.size ≤ g) W' h a' b' f (p + 32) ∧ Below W.heap.size W W'
set_option maxHeartbeats 1000000 in
theorem pv_push0 : PushDoes 0 := by
  intro S W a b v f p i lv hlv hp h32 hn hv
  subst hlv
  have hp0 : p = 0 := by rw [hp]; simpa using h32
  have hab : a = .slice none 0 0 ∧ b = .slice none 0 0 := by
    rcases hn with ⟨_, h1, h2⟩ | ⟨_, h2, _⟩
    · exact ⟨h1, h2⟩
    · omega
  obtain ⟨rfl, rfl⟩ := hab
  clear hp h32 hn
  subst hp0
  have HV := Lib.hid hv.old
  obtain ⟨av, cv, rfl, _⟩ := hv.shape
  obtain ⟨w2, hw2⟩ : ∃ w2, (W.alloc (.cells #[.slice none 0 0, .slice none 0 0] 28)).alloc (.cells #[.slice none 0 0, .slice none 0 0] 28) = w2 := ⟨_, rfl⟩
  obtain ⟨hb2, hx2, hy2, hs2⟩ := pair_new hw2
  have HB2 := Lib.hid hb2
  have HY2 := Lib.hid hy2
  clear hb2 hx2 hy2 hs2 hv
  go_enter Try.func40, Try.ntmps40
  go_upto_region 1 with fail
  clear hw2
  go_wp2_with (refine st_agg rfl 28 _ _ rfl (W.heap.size + 1) #[.slice none 0 0, .slice av 32 cv] rfl rfl 28 #[.slice none 0 0, .slice none 0 0] HY2.out node_size rfl (by simp [Value.oneCell']) ?_; intro w4 h4 k4)
  refine bodyPost_ret (results_cell_row rfl _ _ (W.heap.size + 1) 28 _ (0, 0) _ rfl h4 Try.underlying28 rfl node_size) rfl ⟨_, _, rfl, ⟨rfl, rfl, ?_⟩, HB2.out.trans (k4.below (by omega))⟩
  refine (((HV.out.later HB2.out).kept k4.by_ (fun X e => by cases e; omega)).weak fun g hg => .inl hg.1).congr fun j _ => ?_
  simp [fi]
set_option maxHeartbeats 2000000 in
theorem pv_pushS (h : Nat) (hh : h + 1 ≤ 4) (ih : PushDoes h) : PushDoes (h + 1) := by
  intro S W a b v f p i lv hlv hp h32 hn hv
  have hu : b = .slice none 0 0 ∧ ∃ F, RunAt S W 28 2 a F ((p + 32 ^ (h + 1) - 1) / 32 ^ (h + 1)) ∧
      ∀ j, j * 32 ^ (h + 1) < p → NodeAt S W h (F (2 * j)) (F (2 * j + 1)) (fun i => f (j * 32 ^ (h + 1) + i)) (min (32 ^ (h + 1)) (p - j * 32 ^ (h + 1))) := by
    rcases hn with ⟨rfl, rfl, rfl⟩ | ⟨rfl, _, _, F, hr, hk⟩
    · refine ⟨rfl, fun _ => undef, .inl ⟨Nat.div_eq_of_lt (by have := pw_pos (h + 1); omega), rfl⟩, fun j hj => absurd hj (by omega)⟩
    · exact ⟨rfl, F, hr, hk⟩
  obtain ⟨rfl, F, hr, hkid⟩ := hu
  have hB := pw_pos (h + 1)
  obtain ⟨k, hk, hsp, hin, hk32, hfit2, hfit1, hways, hold, hmin, hmin0⟩ := push_fit hp h32
  have HWAY := Lib.hid (pv_way (h + 1) i hh)
  rw [← hk] at HWAY
  obtain ⟨cnt, hcnt⟩ : ∃ cnt, cnt = (p + 32 ^ (h + 1) - 1) / 32 ^ (h + 1) := ⟨_, rfl⟩
  rw [← hcnt] at hr hways
  have hone : ∀ j, j < cnt * 2 → (F j).oneCell' = true := fun j hj => by
    obtain ⟨h1, h2⟩ := (hkid (j / 2) ((cnt_of_lt hB).1 (by rw [← hcnt]; omega))).one
    rcases Nat.mod_two_eq_zero_or_one j with e | e
    · rw [show j = 2 * (j / 2) by omega]; exact h1
    · rw [show j = 2 * (j / 2) + 1 by omega]; exact h2
  obtain ⟨w3, hw3⟩ : ∃ w3, ((W.alloc (.cells #[a, .slice none 0 0] 28)).alloc (.cells #[.slice none 0 0, .slice none 0 0] 28)).alloc (.cells #[.slice none 0 0, .slice none 0 0] 28) = w3 := ⟨_, rfl⟩
  obtain ⟨hb3, hx3, hy3, hz3, hs3⟩ := three_new hw3
  obtain ⟨ap, cp, rfl, hcp⟩ := hr.shape
  obtain ⟨av, cv, rfl, _⟩ := hv.shape
  have HB3 := Lib.hid hb3
  have HY3 := Lib.hid hy3
  have HX3 := Lib.hid hx3
  have HZ3 := Lib.hid hz3
  have HS3 := Lib.hid hs3
  have c3 : w3.cell? ⟨W.heap.size, 0, none⟩ = some (.slice ap cnt cp) := cell_in hx3 rfl
  have HO := Lib.hid hone
  have HRUN := Lib.hid hr.old
  have HKID := Lib.hid hkid
  have HFIT := Lib.hid (And.intro hfit1 hfit2)
  have HOLD := Lib.hid hold
  have HMIN := Lib.hid hmin
  have hlv1 : ((lv : Int) == 1) = false := beq_eq_false_iff_ne.2 (by omega)
  have hlv3 : (lv : Int) - 1 = ((h + 1 : Nat) : Int) := by omega
  obtain ⟨l2, hl2⟩ : ∃ l2, l2 = h + 1 := ⟨_, rfl⟩
  rw [← hl2] at hlv3
  have hlb : (lv : Int) ≤ 5 := by omega
  have hlb2 : IntKind.i64.wrap (l2 : Int) = (l2 : Int) := by rw [IntKind.wrap_i64]; omega
  have hk0 : 0 ≤ (k : Int) := by omega
  rw [show h + 1 + 1 = lv from hlv.symm] at HWAY
  have hv3 := hv.old
  have hfe : ∀ x, f (k * 32 ^ (h + 1) + x) = f (k * 32 ^ (h + 1) + x) := fun _ => rfl
  have HVV : Hid (RunAt (fun g => S g ∧ g < W.heap.size) W 3 1 (.slice av 32 cv) (fi fun j => f (k * 32 ^ (h + 1) + (i % 32 ^ (h + 1) + j))) 32) := hv3.congr fun j _ => by
    show Value.int .i64 (f (p + j)) = Value.int .i64 (f (k * 32 ^ (h + 1) + (i % 32 ^ (h + 1) + j)))
    rw [hsp, Nat.add_assoc]
  have HP := Lib.hid hp
  rcases hways with ⟨hz, hck⟩ | ⟨hz, hck⟩
  · subst hck
    have hb5 : Below W.heap.size W w3.drew := hb3.trans ((drawn_below w3).mono hb3.size)
    have HREC := Lib.hid (ih (fun g => S g ∧ g < W.heap.size) w3.drew (.slice none 0 0) (.slice none 0 0) (.slice av 32 cv) (fun x => f (cnt * 32 ^ (h + 1) + x)) _ i l2 hl2 rfl h32 (.inl ⟨hz, rfl, rfl⟩) (HVV.out.later hb5))
    have HB5 := Lib.hid hb5
    have HK5 : Hid (w3.drew.cell? ⟨W.heap.size, 0, none⟩ = some (.slice ap cnt cp)) := c3
    have HZ5 : Hid (w3.drew.heap[W.heap.size + 1 + 1]? = some (.cells #[.slice none 0 0, .slice none 0 0] 28 (0, 0))) := HZ3.out
    have HY5 : Hid (w3.drew.heap[W.heap.size + 1]? = some (.cells #[.slice none 0 0, .slice none 0 0] 28 (0, 0))) := HY3.out
    have HKC : Hid (cnt ≤ cnt ∧ cnt ≤ 32 ∧ cnt ≤ cnt + 1) := (show _ ∧ _ ∧ _ from ⟨Nat.le_refl _, by omega, by omega⟩)
    have hlt : ¬ ((cnt : Int) < cnt) := by omega
    clear hlv hb3 hx3 hy3 hz3 hs3 hone hr hkid hsp hin hcnt hB hk32 hfit1 hfit2 hold hmin hmin0 hk hl2 hv hv3 hn hp h32 hz hb5 hcp hfe HVV
    go_enter Try.func40, Try.ntmps40
    go_upto_region 7 with (go_at_call 39; refine (HWAY.out _).mono ?_; rintro e w1 ⟨rfl, hw1⟩; obtain rfl := hw1.symm)
    clear hw3
    refine wp_region_T (S := fun V => V.cell? ⟨W.heap.size, 0, none⟩ = some (.slice ap cnt cp) ∧ V.heap[W.heap.size + 1 + 1]? = some (.cells #[.slice none 0 0, .slice none 0 0] 28 (0, 0))) [11] (by kernel_rfl) (by first | exact ⟨HK5.out, HZ5.out⟩ | exact ⟨HK6.out, HZ6.out⟩ | exact ⟨HK7.out, HZ7.out⟩) (fun hHeld => ?_)
    refine wpAnyT_take (i := 0) (oi := ⟨some 28, _, _, _, _, _⟩) (v := ?vg2_0) rfl (by kernel_rfl) (by kernel_rfl) (by kernel_rfl) (by kernel_rfl) (fun _ _ _ h => h) (Or.inl ⟨by rfl, ?hg2_0⟩) (by assumption) ?rg2_0
    case hg2_0 => (intro w hSw; (try dsimp only at hSw); first | (go_simp; done) | (go_simp; with_reducible rfl))
    (try simp only [Act.put, List.setIfInBounds_toArray, List.set_cons_zero, List.set_cons_succ])
    refine wpAnyT_take (i := 1) (oi := ⟨some 29, _, _, _, _, _⟩) (v := ?vg2_1) rfl (by kernel_rfl) (by kernel_rfl) (by kernel_rfl) (by kernel_rfl) (fun _ _ _ h => h) (Or.inl ⟨by rfl, ?hg2_1⟩) (by assumption) ?rg2_1
    case hg2_1 => (intro w hSw; (try dsimp only at hSw); first | (go_simp; done) | (go_simp; with_reducible rfl))
    (try simp only [Act.put, List.setIfInBounds_toArray, List.set_cons_zero, List.set_cons_succ])
    refine wpAnyT_take (i := 2) (oi := ⟨some 30, _, _, _, _, _⟩) (v := ?vg2_2) rfl (by kernel_rfl) (by kernel_rfl) (by kernel_rfl) (by kernel_rfl) (fun _ _ _ h => h) (Or.inl ⟨by rfl, ?hg2_2⟩) (by assumption) ?rg2_2
    case hg2_2 => (intro w hSw; (try dsimp only at hSw); first | (go_simp; done) | (go_simp; with_reducible rfl))
    (try simp only [Act.put, List.setIfInBounds_toArray, List.set_cons_zero, List.set_cons_succ])
    refine wpAnyT_take (i := 3) (oi := ⟨some 31, _, _, _, _, _⟩) (v := _) rfl (by kernel_rfl) (by kernel_rfl) (by kernel_rfl) (by kernel_rfl) (fun _ _ _ h => h) (yieldsIf_load_row (by rfl) 28 _ rfl (W.heap.size + 1 + 1) rfl #[.slice none 0 0, .slice none 0 0] 28 (0, 0) _ (fun w hw => hw.2) Try.underlying28 rfl (by exact node_size)) (by assumption) ?_
    (try simp only [Act.put, List.setIfInBounds_toArray, List.set_cons_zero, List.set_cons_succ])
    refine wpAnyT_take (i := 4) (oi := ⟨some 32, _, _, _, _, _⟩) (v := ?vg2_4) rfl (by kernel_rfl) (by kernel_rfl) (by kernel_rfl) (by kernel_rfl) (fun _ _ _ h => h) (Or.inl ⟨by rfl, ?hg2_4⟩) (by assumption) ?rg2_4
    case hg2_4 => (intro w hSw; (try dsimp only at hSw); first | (go_simp; done) | (go_simp; with_reducible rfl))
    (try simp only [Act.put, List.setIfInBounds_toArray, List.set_cons_zero, List.set_cons_succ])
    refine wpAnyT_take (i := 5) (oi := ⟨some 33, _, _, _, _, _⟩) (v := ?vg2_5) rfl (by kernel_rfl) (by kernel_rfl) (by kernel_rfl) (by kernel_rfl) (fun _ _ _ h => h) (Or.inl ⟨by rfl, ?hg2_5⟩) (by assumption) ?rg2_5
    case hg2_5 => (intro w hSw; (try dsimp only at hSw); first | (go_simp; done) | (go_simp; with_reducible rfl))
    (try simp only [Act.put, List.setIfInBounds_toArray, List.set_cons_zero, List.set_cons_succ])
    refine wpAnyT_take (i := 6) (oi := ⟨some 34, _, _, _, _, _⟩) (v := ?vg2_6) rfl (by kernel_rfl) (by kernel_rfl) (by kernel_rfl) (by kernel_rfl) (fun _ _ _ h => h) (Or.inl ⟨by rfl, ?hg2_6⟩) (by assumption) ?rg2_6
    case hg2_6 => (intro w hSw; (try dsimp only at hSw); first | (go_simp; done) | (go_simp; with_reducible rfl))
    (try simp only [Act.put, List.setIfInBounds_toArray, List.set_cons_zero, List.set_cons_succ])
    refine wpAnyT_take (i := 7) (oi := ⟨some 35, _, _, _, _, _⟩) (v := ?vg2_7) rfl (by kernel_rfl) (by kernel_rfl) (by kernel_rfl) (by kernel_rfl) (fun _ _ _ h => h) (Or.inl ⟨by rfl, ?hg2_7⟩) (by assumption) ?rg2_7
    case hg2_7 => (intro w hSw; (try dsimp only at hSw); first | (go_simp; done) | (go_simp; with_reducible rfl))
    (try simp only [Act.put, List.setIfInBounds_toArray, List.set_cons_zero, List.set_cons_succ])
    refine wpAnyT_one (i := 8) (o := ⟨some 36, _, _, _, _, _⟩) (by kernel_rfl) rfl (fun K hK => ?_)
    go_simp
    go_at_call 40
    refine HREC.out.mono ?_
    rintro e w6 ⟨a3, b3, rfl, hn3, hb3⟩
    have HK6 := Lib.hid (((hb3).cell (p := ⟨W.heap.size, 0, none⟩) (World.block_lt_of_cell? _ _ HK5.out)).trans HK5.out)
    have HZ6 := Lib.hid (((hb3).block _ (Array.getElem?_eq_some_iff.1 HZ5.out).1).trans HZ5.out)
    have HY6 := Lib.hid (((hb3).block _ (Array.getElem?_eq_some_iff.1 HY5.out).1).trans HY5.out)
    have HB6 := Lib.hid (HB5.out.trans (hb3.mono HB5.out.size))
    have HN6 := Lib.hid hn3
    have HB56 := Lib.hid hb3
    clear hb3 hn3
    dsimp only
    refine hK.out _ _ (by first | exact ⟨HK5.out, HZ5.out⟩ | exact ⟨HK6.out, HZ6.out⟩ | exact ⟨HK7.out, HZ7.out⟩) (fun hHeld => ?_)
    clear hK K
    (try simp only [Act.put, List.setIfInBounds_toArray, List.set_cons_zero, List.set_cons_succ])
    refine wpAnyT_one (i := 9) (o := ⟨some 37, _, _, _, _, _⟩) (by kernel_rfl) rfl (fun K hK => ?_)
    go_simp
    go_at_call 42
    refine (pv_with_node w6 _ F cnt cnt a3 b3 (HRUN.out.later HB6.out).places HO.out HN6.out.one.1 HN6.out.one.2 (by have := HKC.out; omega) (by have := HKC.out; omega)).mono ?_
    rintro e w7 ⟨m, v4, hm, rfl, hr4, hb4⟩
    obtain ⟨ap4, cp4, rfl, _⟩ := hr4.shape
    have HK7 := Lib.hid (((hb4).cell (p := ⟨W.heap.size, 0, none⟩) (World.block_lt_of_cell? _ _ HK6.out)).trans HK6.out)
    have HZ7 := Lib.hid (((hb4).block _ (Array.getElem?_eq_some_iff.1 HZ6.out).1).trans HZ6.out)
    have HY7 := Lib.hid (((hb4).block _ (Array.getElem?_eq_some_iff.1 HY6.out).1).trans HY6.out)
    have HB7 := Lib.hid (HB6.out.trans (hb4.mono HB6.out.size))
    have HR7 := Lib.hid hr4
    have HN7 := Lib.hid (HN6.out.later hb4)
    have HM := Lib.hid hm
    clear hb4 hr4 hm
    dsimp only
    refine hK.out _ _ (by first | exact ⟨HK5.out, HZ5.out⟩ | exact ⟨HK6.out, HZ6.out⟩ | exact ⟨HK7.out, HZ7.out⟩) (fun hHeld => ?_)
    clear hK K
    (try simp only [Act.put, List.setIfInBounds_toArray, List.set_cons_zero, List.set_cons_succ])
    refine wpAnyT_take (i := 10) (oi := ⟨some 38, _, _, _, _, _⟩) (v := ?vg2_10) rfl (by kernel_rfl) (by kernel_rfl) (by kernel_rfl) (by kernel_rfl) (fun _ _ _ h => h) (Or.inl ⟨by rfl, ?hg2_10⟩) (by assumption) ?rg2_10
    case hg2_10 => (intro w hSw; (try dsimp only at hSw); first | (go_simp; done) | (go_simp; with_reducible rfl))
    (try simp only [Act.put, List.setIfInBounds_toArray, List.set_cons_zero, List.set_cons_succ])
    refine wpAnyT_last (i := 11) (o := ⟨none, _, _, _, _, _⟩) (by kernel_rfl) (by decide) rfl (fun K hK => ?_)
    refine st_agg_wp 28 _ _ rfl (W.heap.size + 1) #[.slice ap4 m cp4, .slice none 0 0] rfl rfl 28 #[.slice none 0 0, .slice none 0 0] HY7.out node_size rfl (by simp [Value.oneCell']) ?_
    intro w8 h8 k8
    refine hK.out _ _ ?_
    clear hK K
    (try simp only [Act.put, List.setIfInBounds_toArray, List.set_cons_zero, List.set_cons_succ])
    refine wpAnyT_done (by kernel_rfl) ?_ _
    go_wp2_with fail
    refine bodyPost_ret (results_cell_row rfl _ _ (W.heap.size + 1) 28 _ (0, 0) _ rfl h8 Try.underlying28 rfl node_size) rfl ⟨_, _, rfl, ⟨rfl, by omega, HFIT.out.2, updN F cnt a3 b3, ?_, fun j hj => ?_⟩, HB7.out.trans (k8.below (by omega))⟩
    · have hm : m = (p + 32 + 32 ^ (h + 1) - 1) / 32 ^ (h + 1) := by rw [HFIT.out.1]; have := HM.out; have := HKC.out; omega
      rw [← hm]
      exact (HR7.out.kept k8.by_ (fun X e => by cases e; have := (Array.getElem?_eq_some_iff.1 HY6.out).1; omega)).weak fun g hg => .inr (by have := (Array.getElem?_eq_some_iff.1 HY6.out).1; omega)
    · rw [updN_l, updN_r]
      by_cases e : j = cnt
      · subst e
        rw [if_pos rfl, if_pos rfl]
        have hmin := HMIN.out
        rw [hmin]
        refine ((HN7.out.kept k8.by_ (fun X e => ?_)).weak (fun g hg => ?_))
        · cases e
          have h5 := (Array.getElem?_eq_some_iff.1 HY5.out).1
          rintro (⟨_, h⟩ | h)
          · omega
          · omega
        · rcases hg with ⟨hg, _⟩ | hg
          · exact .inl hg
          · exact .inr (by have := (Array.getElem?_eq_some_iff.1 HY5.out).1; omega)
      · rw [if_neg e, if_neg e]
        have hj2 := HOLD.out j hj e
        rw [hj2.2]
        exact (((HKID.out j hj2.1).old.later HB7.out).kept k8.by_ (fun X e => by cases e; omega)).weak (fun g hg => .inl hg.1)
  · obtain rfl : cnt = k + 1 := hck
    have hlt : (k : Int) < ((k + 1 : Nat) : Int) := by omega
    have hkB : k * 32 ^ (h + 1) < p := by omega
    have hrk := hkid k hkB
    rw [hmin0] at hrk
    obtain ⟨g, c, cs, fr, hap, hc, hS, hg, hcs⟩ := hr.pos (by omega)
    simp only [Value.slice.injEq, true_and] at hap
    obtain ⟨rfl, rfl⟩ := hap
    have HR3 := Lib.hid (range_later (kid_range hg hcs (show k < k + 1 by omega)) hb3)
    have HNK := Lib.hid hrk.old
    have HKC : Hid (k ≤ k + 1 ∧ k + 1 ≤ 32 ∧ k + 1 ≤ k + 1) := (show _ ∧ _ ∧ _ from ⟨by omega, by omega, by omega⟩)
    have HONE := Lib.hid hrk.one
    obtain ⟨cnt, hcnt2⟩ : ∃ cnt, cnt = k + 1 := ⟨_, rfl⟩
    replace HKC : Hid (k ≤ cnt ∧ cnt ≤ 32 ∧ cnt ≤ k + 1) := by rw [hcnt2]; exact HKC
    rw [← hcnt2] at hlt HO HRUN c3 hw3 HX3 ⊢
    clear hlv hb3 hx3 hy3 hz3 hs3 hone hr hkid hsp hin hcnt hB hk32 hfit1 hfit2 hold hmin hmin0 hk hv hv3 hn hcp hfe hkB hrk hg hcs hc hS hcnt2
    go_enter Try.func40, Try.ntmps40
    go_upto_region 7 with (first
      | (go_at_call 39; refine (HWAY.out _).mono ?_; rintro e w1 ⟨rfl, hw1⟩; obtain rfl := hw1.symm)
      | (refine wpList_load_mid rfl 28 _ rfl g (k * 2) rfl [F (2 * k), F (2 * k + 1)] _ HR3.out Try.underlying28 rfl node_size ?_)
      | (refine st_agg rfl 28 _ _ rfl (W.heap.size + 1 + 1) #[F (2 * k), F (2 * k + 1)] rfl rfl 28 #[.slice none 0 0, .slice none 0 0] HZ3.out node_size rfl (by simp [HONE.out.1, HONE.out.2]) ?_; intro w4 h4 k4; have HZ4 := Lib.hid h4; have HK4 := Lib.hid k4; clear h4 k4))
    clear hw3
    have hs3 := HS3.out
    have hb5 : Below W.heap.size W w4.drew := (HB3.out.trans (HK4.out.below (by omega))).trans ((drawn_below w4).mono (by have := HK4.out.size; omega))
    have HREC := Lib.hid (ih (fun g => S g ∧ g < W.heap.size) w4.drew (F (2 * k)) (F (2 * k + 1)) (.slice av 32 cv) (fun x => f (k * 32 ^ (h + 1) + x)) _ i l2 hl2 rfl h32 (.inr (HNK.out.later hb5)) (HVV.out.later hb5))
    have HB5 := Lib.hid hb5
    have HK5 : Hid (w4.drew.cell? ⟨W.heap.size, 0, none⟩ = some (.slice (some ⟨g, 0, none⟩) cnt cp)) := cell_in (W := w4) (HK4.out.other HX3.out (by omega)) rfl
    have HZ5 : Hid (w4.drew.heap[W.heap.size + 1 + 1]? = some (.cells #[F (2 * k), F (2 * k + 1)] 28 (0, 0))) := HZ4.out
    have HY5 : Hid (w4.drew.heap[W.heap.size + 1]? = some (.cells #[.slice none 0 0, .slice none 0 0] 28 (0, 0))) := HK4.out.other HY3.out (by omega)
    clear hb5 hl2 h32 hz hp HVV hs3
    refine wp_region_T (S := fun V => V.cell? ⟨W.heap.size, 0, none⟩ = some (.slice (some ⟨g, 0, none⟩) cnt cp) ∧ V.heap[W.heap.size + 1 + 1]? = some (.cells #[F (2 * k), F (2 * k + 1)] 28 (0, 0))) [11] (by kernel_rfl) (by first | exact ⟨HK5.out, HZ5.out⟩ | exact ⟨HK6.out, HZ6.out⟩ | exact ⟨HK7.out, HZ7.out⟩) (fun hHeld => ?_)
    refine wpAnyT_take (i := 0) (oi := ⟨some 28, _, _, _, _, _⟩) (v := ?vg3_0) rfl (by kernel_rfl) (by kernel_rfl) (by kernel_rfl) (by kernel_rfl) (fun _ _ _ h => h) (Or.inl ⟨by rfl, ?hg3_0⟩) (by assumption) ?rg3_0
    case hg3_0 => (intro w hSw; (try dsimp only at hSw); first | (go_simp; done) | (go_simp; with_reducible rfl))
    (try simp only [Act.put, List.setIfInBounds_toArray, List.set_cons_zero, List.set_cons_succ])
    refine wpAnyT_take (i := 1) (oi := ⟨some 29, _, _, _, _, _⟩) (v := ?vg3_1) rfl (by kernel_rfl) (by kernel_rfl) (by kernel_rfl) (by kernel_rfl) (fun _ _ _ h => h) (Or.inl ⟨by rfl, ?hg3_1⟩) (by assumption) ?rg3_1
    case hg3_1 => (intro w hSw; (try dsimp only at hSw); first | (go_simp; done) | (go_simp; with_reducible rfl))
    (try simp only [Act.put, List.setIfInBounds_toArray, List.set_cons_zero, List.set_cons_succ])
    refine wpAnyT_take (i := 2) (oi := ⟨some 30, _, _, _, _, _⟩) (v := ?vg3_2) rfl (by kernel_rfl) (by kernel_rfl) (by kernel_rfl) (by kernel_rfl) (fun _ _ _ h => h) (Or.inl ⟨by rfl, ?hg3_2⟩) (by assumption) ?rg3_2
    case hg3_2 => (intro w hSw; (try dsimp only at hSw); first | (go_simp; done) | (go_simp; with_reducible rfl))
    (try simp only [Act.put, List.setIfInBounds_toArray, List.set_cons_zero, List.set_cons_succ])
    refine wpAnyT_take (i := 3) (oi := ⟨some 31, _, _, _, _, _⟩) (v := _) rfl (by kernel_rfl) (by kernel_rfl) (by kernel_rfl) (by kernel_rfl) (fun _ _ _ h => h) (yieldsIf_load_row (by rfl) 28 _ rfl (W.heap.size + 1 + 1) rfl #[F (2 * k), F (2 * k + 1)] 28 (0, 0) _ (fun w hw => hw.2) Try.underlying28 rfl (by exact node_size)) (by assumption) ?_
    (try simp only [Act.put, List.setIfInBounds_toArray, List.set_cons_zero, List.set_cons_succ])
    refine wpAnyT_take (i := 4) (oi := ⟨some 32, _, _, _, _, _⟩) (v := ?vg3_4) rfl (by kernel_rfl) (by kernel_rfl) (by kernel_rfl) (by kernel_rfl) (fun _ _ _ h => h) (Or.inl ⟨by rfl, ?hg3_4⟩) (by assumption) ?rg3_4
    case hg3_4 => (intro w hSw; (try dsimp only at hSw); first | (go_simp; done) | (go_simp; with_reducible rfl))
    (try simp only [Act.put, List.setIfInBounds_toArray, List.set_cons_zero, List.set_cons_succ])
    refine wpAnyT_take (i := 5) (oi := ⟨some 33, _, _, _, _, _⟩) (v := ?vg3_5) rfl (by kernel_rfl) (by kernel_rfl) (by kernel_rfl) (by kernel_rfl) (fun _ _ _ h => h) (Or.inl ⟨by rfl, ?hg3_5⟩) (by assumption) ?rg3_5
    case hg3_5 => (intro w hSw; (try dsimp only at hSw); first | (go_simp; done) | (go_simp; with_reducible rfl))
    (try simp only [Act.put, List.setIfInBounds_toArray, List.set_cons_zero, List.set_cons_succ])
    refine wpAnyT_take (i := 6) (oi := ⟨some 34, _, _, _, _, _⟩) (v := ?vg3_6) rfl (by kernel_rfl) (by kernel_rfl) (by kernel_rfl) (by kernel_rfl) (fun _ _ _ h => h) (Or.inl ⟨by rfl, ?hg3_6⟩) (by assumption) ?rg3_6
    case hg3_6 => (intro w hSw; (try dsimp only at hSw); first | (go_simp; done) | (go_simp; with_reducible rfl))
    (try simp only [Act.put, List.setIfInBounds_toArray, List.set_cons_zero, List.set_cons_succ])
    refine wpAnyT_take (i := 7) (oi := ⟨some 35, _, _, _, _, _⟩) (v := ?vg3_7) rfl (by kernel_rfl) (by kernel_rfl) (by kernel_rfl) (by kernel_rfl) (fun _ _ _ h => h) (Or.inl ⟨by rfl, ?hg3_7⟩) (by assumption) ?rg3_7
    case hg3_7 => (intro w hSw; (try dsimp only at hSw); first | (go_simp; done) | (go_simp; with_reducible rfl))
    (try simp only [Act.put, List.setIfInBounds_toArray, List.set_cons_zero, List.set_cons_succ])
    refine wpAnyT_one (i := 8) (o := ⟨some 36, _, _, _, _, _⟩) (by kernel_rfl) rfl (fun K hK => ?_)
    go_simp
    go_at_call 40
    refine HREC.out.mono ?_
    rintro e w6 ⟨a3, b3, rfl, hn3, hb3⟩
    have HK6 := Lib.hid (((hb3).cell (p := ⟨W.heap.size, 0, none⟩) (World.block_lt_of_cell? _ _ HK5.out)).trans HK5.out)
    have HZ6 := Lib.hid (((hb3).block _ (Array.getElem?_eq_some_iff.1 HZ5.out).1).trans HZ5.out)
    have HY6 := Lib.hid (((hb3).block _ (Array.getElem?_eq_some_iff.1 HY5.out).1).trans HY5.out)
    have HB6 := Lib.hid (HB5.out.trans (hb3.mono HB5.out.size))
    have HN6 := Lib.hid hn3
    have HB56 := Lib.hid hb3
    clear hb3 hn3
    dsimp only
    refine hK.out _ _ (by first | exact ⟨HK5.out, HZ5.out⟩ | exact ⟨HK6.out, HZ6.out⟩ | exact ⟨HK7.out, HZ7.out⟩) (fun hHeld => ?_)
    clear hK K
    (try simp only [Act.put, List.setIfInBounds_toArray, List.set_cons_zero, List.set_cons_succ])
    refine wpAnyT_one (i := 9) (o := ⟨some 37, _, _, _, _, _⟩) (by kernel_rfl) rfl (fun K hK => ?_)
    go_simp
    go_at_call 42
    refine (pv_with_node w6 _ F cnt k a3 b3 (HRUN.out.later HB6.out).places HO.out HN6.out.one.1 HN6.out.one.2 (by have := HKC.out; omega) (by have := HKC.out; omega)).mono ?_
    rintro e w7 ⟨m, v4, hm, rfl, hr4, hb4⟩
    obtain ⟨ap4, cp4, rfl, _⟩ := hr4.shape
    have HK7 := Lib.hid (((hb4).cell (p := ⟨W.heap.size, 0, none⟩) (World.block_lt_of_cell? _ _ HK6.out)).trans HK6.out)
    have HZ7 := Lib.hid (((hb4).block _ (Array.getElem?_eq_some_iff.1 HZ6.out).1).trans HZ6.out)
    have HY7 := Lib.hid (((hb4).block _ (Array.getElem?_eq_some_iff.1 HY6.out).1).trans HY6.out)
    have HB7 := Lib.hid (HB6.out.trans (hb4.mono HB6.out.size))
    have HR7 := Lib.hid hr4
    have HN7 := Lib.hid (HN6.out.later hb4)
    have HM := Lib.hid hm
    clear hb4 hr4 hm
    dsimp only
    refine hK.out _ _ (by first | exact ⟨HK5.out, HZ5.out⟩ | exact ⟨HK6.out, HZ6.out⟩ | exact ⟨HK7.out, HZ7.out⟩) (fun hHeld => ?_)
    clear hK K
    (try simp only [Act.put, List.setIfInBounds_toArray, List.set_cons_zero, List.set_cons_succ])
    refine wpAnyT_take (i := 10) (oi := ⟨some 38, _, _, _, _, _⟩) (v := ?vg3_10) rfl (by kernel_rfl) (by kernel_rfl) (by kernel_rfl) (by kernel_rfl) (fun _ _ _ h => h) (Or.inl ⟨by rfl, ?hg3_10⟩) (by assumption) ?rg3_10
    case hg3_10 => (intro w hSw; (try dsimp only at hSw); first | (go_simp; done) | (go_simp; with_reducible rfl))
    (try simp only [Act.put, List.setIfInBounds_toArray, List.set_cons_zero, List.set_cons_succ])
    refine wpAnyT_last (i := 11) (o := ⟨none, _, _, _, _, _⟩) (by kernel_rfl) (by decide) rfl (fun K hK => ?_)
    refine st_agg_wp 28 _ _ rfl (W.heap.size + 1) #[.slice ap4 m cp4, .slice none 0 0] rfl rfl 28 #[.slice none 0 0, .slice none 0 0] HY7.out node_size rfl (by simp [Value.oneCell']) ?_
    intro w8 h8 k8
    refine hK.out _ _ ?_
    clear hK K
    (try simp only [Act.put, List.setIfInBounds_toArray, List.set_cons_zero, List.set_cons_succ])
    refine wpAnyT_done (by kernel_rfl) ?_ _
    go_wp2_with fail
    refine bodyPost_ret (results_cell_row rfl _ _ (W.heap.size + 1) 28 _ (0, 0) _ rfl h8 Try.underlying28 rfl node_size) rfl ⟨_, _, rfl, ⟨rfl, by omega, HFIT.out.2, updN F k a3 b3, ?_, fun j hj => ?_⟩, HB7.out.trans (k8.below (by omega))⟩
    · have hm : m = (p + 32 + 32 ^ (h + 1) - 1) / 32 ^ (h + 1) := by rw [HFIT.out.1]; have := HM.out; have := HKC.out; omega
      rw [← hm]
      exact (HR7.out.kept k8.by_ (fun X e => by cases e; have := (Array.getElem?_eq_some_iff.1 HY6.out).1; omega)).weak fun g hg => .inr (by have := (Array.getElem?_eq_some_iff.1 HY6.out).1; omega)
    · rw [updN_l, updN_r]
      by_cases e : j = k
      · subst e
        rw [if_pos rfl, if_pos rfl]
        have hmin := HMIN.out
        rw [hmin]
        refine ((HN7.out.kept k8.by_ (fun X e => ?_)).weak (fun g hg => ?_))
        · cases e
          have h5 := (Array.getElem?_eq_some_iff.1 HY5.out).1
          rintro (⟨_, h⟩ | h)
          · omega
          · omega
        · rcases hg with ⟨hg, _⟩ | hg
          · exact .inl hg
          · exact .inr (by have := (Array.getElem?_eq_some_iff.1 HY5.out).1; omega)
      · rw [if_neg e, if_neg e]
        have hj2 := HOLD.out j hj e
        rw [hj2.2]
        exact (((HKID.out j hj2.1).old.later HB7.out).kept k8.by_ (fun X e => by cases e; omega)).weak (fun g hg => .inl hg.1)
theorem pv_push : ∀ (h : Nat), h ≤ 4 → PushDoes h
  | 0, _ => pv_push0
  | h + 1, hh => pv_pushS h hh (pv_push h (by omega))
end Go.Proofs.Ytpjbhdplginbaaa
