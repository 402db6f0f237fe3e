/- Package pvec: node.set. (written by tools/gen07/pv2.py) -/
import Derived.Test.YtpjbhdplginbaaaPv1
import Derived.Test.YtpjbhdplginbaaaRegionY
import Derived.Deep.MidRow
namespace Go.Proofs.Ytpjbhdplginbaaa
open Go.RowKit
set_option maxRecDepth 1000000
set_option linter.unusedSimpArgs false

theorem updN_l (F : Nat → Value) (k j : Nat) (p q : Value) : updN F k p q (2 * j) = if j = k then p else F (2 * j) := by
  unfold updN
  by_cases e : j = k
  · subst e; rw [if_pos rfl, if_pos rfl]
  · rw [if_neg (by omega), if_neg (by omega), if_neg e]
theorem updN_r (F : Nat → Value) (k j : Nat) (p q : Value) : updN F k p q (2 * j + 1) = if j = k then q else F (2 * j + 1) := by
  unfold updN
  by_cases e : j = k
  · subst e; rw [if_neg (by omega), if_pos rfl, if_pos rfl]
  · rw [if_neg (by omega), if_neg (by omega), if_neg e]
/-- Where a place lies beneath a node: which kid, and where in that. -/
theorem split_at (h i : Nat) : i % 32 ^ (h + 2) = i / 32 ^ (h + 1) % 32 * 32 ^ (h + 1) + i % 32 ^ (h + 1) := by
  rw [show 32 ^ (h + 2) = 32 ^ (h + 1) * 32 from Nat.pow_succ _ _, Nat.mod_mul, Nat.add_comm, Nat.mul_comm]
theorem pw_pos (h : Nat) : 0 < 32 ^ h := Nat.pow_pos (by decide)
theorem cnt_of_lt {n k B : Nat} (hB : 0 < B) : k < (n + B - 1) / B ↔ k * B < n := by
  have h := Nat.le_div_iff_mul_le (x := k + 1) (y := n + B - 1) hB
  rw [Nat.add_mul] at h
  constructor
  · intro h1; have := h.1 h1; omega
  · intro h1; exact h.2 (by omega)
theorem at_inj {j k r s B : Nat} (hr : r < B) (hs : s < B) (e : j * B + r = k * B + s) : j = k := by
  have h1 : (j * B + r) / B = j := by rw [Nat.mul_comm, Nat.mul_add_div (by omega), Nat.div_eq_of_lt hr]; omega
  have h2 : (k * B + s) / B = k := by rw [Nat.mul_comm, Nat.mul_add_div (by omega), Nat.div_eq_of_lt hs]; omega
  rw [← h1, ← h2, e]
/-- The two cells of a kid. -/
theorem kid_range {W : World} {F : Nat → Value} {cs : Array Value} {g k n : Nat} {fr : Nat × Nat} (hg : W.heap[g]? = some (.cells cs 28 fr)) (hc : ∀ j, j < n * 2 → cs[j]? = some (F j)) (hk : k < n) : W.rangeAt g (k * 2) [F (2 * k), F (2 * k + 1)] := by
  intro j v hv
  match j, hv with
  | 0, hv =>
    obtain rfl := Option.some.inj hv
    exact cell_in hg (by rw [hc _ (by omega)]; congr 2; omega)
  | 1, hv =>
    obtain rfl := Option.some.inj hv
    exact cell_in hg (by rw [hc _ (by omega)]; congr 2; omega)
theorem range_later {W W' : World} {g o : Nat} {vs : List Value} (h : W.rangeAt g o vs) (hb : Below W.heap.size W W') : W'.rangeAt g o vs :=
  fun j v hv => (hb.cell (p := ⟨g, o + j, none⟩) (World.block_lt_of_cell? W _ (h j v hv))).trans (h j v hv)
theorem pair_new {W : World} {c d : Array Value} {T T' : TypeId} {w2 : World} (e : (W.alloc (.cells c T)).alloc (.cells d T') = w2) :
    Below W.heap.size W w2 ∧ w2.heap[W.heap.size]? = some (.cells c T (0, 0)) ∧ w2.heap[W.heap.size + 1]? = some (.cells d T' (0, 0)) ∧ w2.heap.size = W.heap.size + 2 := by
  subst e
  refine ⟨Below.more (Below.newly' _ _) _, ((Below.newly' _ _).block _ (by simp)).trans (heap_alloc_last _ _), ?_, by simp⟩
  have h := heap_alloc_last (W.alloc (.cells c T)) (.cells d T')
  rwa [World.size_alloc] at h
/-- What node.set does at that height. -/
def SetDoes (h : Nat) : Prop := ∀ (S : Nat → Prop) (W : World) (a b : Value) (f : Nat → Int) (n i lv : Nat) (x : Int), lv = h + 1 → NodeAt S W h a b f n → i % 32 ^ (h + 1) < n →
    Calls Try.prog 36 #[.agg #[a, b], .int .i64 (lv : Int), .int .i64 (i : Int), .int .i64 x] W fun e W' => ∃ a' b', e = .returned (.agg #[a', b']) ∧
      NodeAt (fun g => S g ∨ W.heap.size ≤ g) W' h a' b' (upd f (i % 32 ^ (h + 1)) x) n ∧ Below W.heap.size W W'
set_option maxHeartbeats 1000000 in
theorem pv_set0 : SetDoes 0 := by
    intro S W a b f n i lv x hlv hn hi
    subst hlv
    obtain ⟨rfl, rfl, hr⟩ := hn
    obtain ⟨g, c, cs, fr, rfl, hc, hS, hg, hcs⟩ := hr.pos (by omega)
    have HR := Lib.hid hr
    obtain ⟨w2, hw2⟩ : ∃ w2, (W.alloc (.cells #[.slice none 0 0, .slice (some ⟨g, 0, none⟩) 32 c] 28)).alloc (.cells #[.slice none 0 0, .slice none 0 0] 28) = w2 := ⟨_, rfl⟩
    obtain ⟨hb2, hx2, hy2, hs2⟩ := pair_new hw2
    have HB2 := Lib.hid hb2
    have HY2 := Lib.hid hy2
    have HS2 := Lib.hid hs2
    have c1 : w2.cell? ⟨W.heap.size, 1, none⟩ = some (.slice (some ⟨g, 0, none⟩) 32 c) := cell_in hx2 rfl
    obtain ⟨p, hp⟩ : ∃ p, p = i % 32 := ⟨_, rfl⟩
    have HP := Lib.hid hp
    have hp2 : (i : Int) % 32 = (p : Int) := by omega
    have HPL : Hid (p < 32) := (by show _ < _; omega)
    have HW := Lib.hid (pv_with_int w2 _ f 32 p x (hr.later hb2).places (by omega) (by have := HPL.out; omega))
    clear hb2 hy2 hs2 hx2 hr hcs hg hc hi hp
    go_enter Try.func36, Try.ntmps36
    go_upto_region 1 with fail
    clear hw2
    go_wp2_with (first
      | (go_at_call 37; refine HW.out.mono ?_; rintro e w3 ⟨m, hm, rfl, hr3, hb3⟩; have HM := Lib.hid hm; have HR3 := Lib.hid hr3; have HY3 := Lib.hid ((hb3.block _ (by have := HS2.out; omega)).trans HY2.out); have HB3 := Lib.hid hb3; clear hm hr3 hb3)
      | (refine st_agg rfl 28 _ _ rfl (W.heap.size + 1) #[.slice none 0 0, .slice (some ⟨w2.heap.size, 0, none⟩) m m] rfl rfl 28 #[.slice none 0 0, .slice none 0 0] HY3.out node_size rfl (by simp [Value.oneCell']) ?_; intro w4 h4 k4))
    refine bodyPost_ret (results_cell_row rfl _ _ (W.heap.size + 1) 28 _ (0, 0) _ rfl h4 Try.underlying28 rfl node_size) rfl ⟨_, _, rfl, ⟨rfl, rfl, ?_⟩, (HB2.out.trans (HB3.out.mono HB2.out.size)).trans (k4.below (by omega))⟩
    have hm : m = 32 := by have := HM.out; have := HPL.out; omega
    subst hm
    have hr4 := HR3.out.kept k4.by_ (fun X e => by cases e; have := HS2.out; omega)
    rw [HP.out] at hr4
    exact hr4.weak fun g hg => .inr (by have := HS2.out; omega)
set_option maxHeartbeats 1000000 in
theorem pv_setS (h : Nat) (hh : h + 1 ≤ 4) (ih : SetDoes h) : SetDoes (h + 1) := by
    intro S W a b f n i lv x hlv hn hi
    obtain ⟨rfl, h0, hle, F, hr, hkid⟩ := hn
    have hB := pw_pos (h + 1)
    have hsp := split_at h i
    have HWAY := Lib.hid (pv_way (h + 1) i hh)
    obtain ⟨k, hk⟩ : ∃ k, k = i / 32 ^ (h + 1) % 32 := ⟨_, rfl⟩
    rw [← hk] at hsp HWAY
    have hin : i % 32 ^ (h + 1) < 32 ^ (h + 1) := Nat.mod_lt _ hB
    have hkB : k * 32 ^ (h + 1) < n := by rw [show h + 1 + 1 = h + 2 from rfl, hsp] at hi; omega
    obtain ⟨cnt, hcnt⟩ : ∃ cnt, cnt = (n + 32 ^ (h + 1) - 1) / 32 ^ (h + 1) := ⟨_, rfl⟩
    have hkc : k < cnt := by rw [hcnt]; exact (cnt_of_lt hB).2 hkB
    have hcl : cnt ≤ 32 := by
      have : ¬ 32 < cnt := by
        rw [hcnt, cnt_of_lt hB]
        have := hle
        rw [show 32 ^ (h + 2) = 32 ^ (h + 1) * 32 from Nat.pow_succ _ _] at this
        omega
      omega
    rw [← hcnt] at hr
    obtain ⟨g, c, cs, fr, rfl, hc, hS, hg, hcs⟩ := hr.pos (by omega)
    have hone : ∀ j, j < cnt * 2 → (F j).oneCell' = true := fun j hj => by
      obtain ⟨h1, h2⟩ := (hkid (j / 2) ((cnt_of_lt hB).1 (by rw [← hcnt]; omega))).one
      rcases Nat.mod_two_eq_zero_or_one j with e | e
      · rw [show j = 2 * (j / 2) by omega]; exact h1
      · rw [show j = 2 * (j / 2) + 1 by omega]; exact h2
    have hrk := hkid k hkB
    obtain ⟨w2, hw2⟩ : ∃ w2, (W.alloc (.cells #[.slice (some ⟨g, 0, none⟩) cnt c, .slice none 0 0] 28)).alloc (.cells #[.slice none 0 0, .slice none 0 0] 28) = w2 := ⟨_, rfl⟩
    obtain ⟨hb2, hx2, hy2, hs2⟩ := pair_new hw2
    have HB2 := Lib.hid hb2
    have HY2 := Lib.hid hy2
    have HS2 := Lib.hid hs2
    have HK2 : Hid (w2.drew.cell? ⟨W.heap.size, 0, none⟩ = some (.slice (some ⟨g, 0, none⟩) cnt c)) := cell_in (W := w2) hx2 rfl
    have HR2 : Hid (w2.drew.rangeAt g (k * 2) [F (2 * k), F (2 * k + 1)]) := range_later (kid_range hg hcs hkc) (hb2.trans ((drawn_below w2).mono hb2.size))
    have HO := Lib.hid hone
    have HRUN := Lib.hid hr.old
    have HKID := Lib.hid hkid
    have HSP := Lib.hid hsp
    have HIN := Lib.hid hin
    have HCN := Lib.hid hcnt
    have HBP := Lib.hid hB
    have HKB := Lib.hid hkB
    have HI := Lib.hid hi
    have HLE := Lib.hid hle
    have H0 := Lib.hid h0
    have hkc' : (k : Int) < cnt := by omega
    have hk0 : 0 ≤ (k : Int) := by omega
    have hlv1 : ¬ ((lv : Int) = 1) := by omega
    have hlv2 : ((lv : Int) == 1) = false := beq_eq_false_iff_ne.2 hlv1
    have hlv3 : (lv : Int) - 1 = ((h + 1 : Nat) : Int) := by omega
    obtain ⟨l2, hl2⟩ : ∃ l2, l2 = h + 1 := ⟨_, rfl⟩
    rw [← hl2] at hlv3
    have hlb : (lv : Int) ≤ 5 := by omega
    have hlb2 : IntKind.i64.wrap (l2 : Int) = (l2 : Int) := by rw [IntKind.wrap_i64]; omega
    have HREC := Lib.hid (ih (fun g => S g ∧ g < W.heap.size) w2.drew (F (2 * k)) (F (2 * k + 1)) _ _ i l2 x hl2 ((hrk.old).later (hb2.trans ((drawn_below w2).mono hb2.size))) (by rw [hsp] at hi; exact Nat.lt_min.2 ⟨hin, by omega⟩))
    have HKC : Hid (k < cnt ∧ cnt ≤ 32) := ⟨hkc, hcl⟩
    rw [show h + 1 + 1 = lv from hlv.symm] at HWAY
    clear hlv hb2 hx2 hy2 hs2 hone hr hkid hsp hin hcnt hB hkB hi hle h0 hrk hkc hcl hg hcs hc hk hl2 hlv1
    go_enter Try.func36, Try.ntmps36
    go_upto_region 4 with (go_at_call 39; refine (HWAY.out _).mono ?_; rintro e w1 ⟨rfl, hw1⟩; obtain rfl := hw1.symm)
    clear hw2
    refine wp_region_T (S := fun V => V.cell? ⟨W.heap.size, 0, none⟩ = some (.slice (some ⟨g, 0, none⟩) cnt c) ∧ V.rangeAt g (k * 2) [F (2 * k), F (2 * k + 1)]) [15] (by kernel_rfl) (by first | exact ⟨HK2.out, HR2.out⟩ | exact ⟨HK3.out, HR3.out⟩ | exact ⟨HK4.out, HR4.out⟩) (fun hHeld => ?_)
    refine wpAnyT_take (i := 0) (oi := ⟨some 22, _, _, _, _, _⟩) (v := ?vg1_0) rfl (by kernel_rfl) (by kernel_rfl) (by kernel_rfl) (by kernel_rfl) (fun _ _ _ h => h) (Or.inl ⟨by rfl, ?hg1_0⟩) (by assumption) ?rg1_0
    case hg1_0 => (intro w hSw; (try dsimp only at hSw); first | (go_simp; done) | (go_simp; with_reducible rfl))
    (try simp only [Act.put, List.setIfInBounds_toArray, List.set_cons_zero, List.set_cons_succ])
    refine wpAnyT_take (i := 1) (oi := ⟨some 23, _, _, _, _, _⟩) (v := ?vg1_1) rfl (by kernel_rfl) (by kernel_rfl) (by kernel_rfl) (by kernel_rfl) (fun _ _ _ h => h) (Or.inl ⟨by rfl, ?hg1_1⟩) (by assumption) ?rg1_1
    case hg1_1 => (intro w hSw; (try dsimp only at hSw); first | (go_simp; done) | (go_simp; with_reducible rfl))
    (try simp only [Act.put, List.setIfInBounds_toArray, List.set_cons_zero, List.set_cons_succ])
    refine wpAnyT_take (i := 2) (oi := ⟨some 24, _, _, _, _, _⟩) (v := ?vg1_2) rfl (by kernel_rfl) (by kernel_rfl) (by kernel_rfl) (by kernel_rfl) (fun _ _ _ h => h) (Or.inl ⟨by rfl, ?hg1_2⟩) (by assumption) ?rg1_2
    case hg1_2 => (intro w hSw; (try dsimp only at hSw); first | (go_simp; done) | (go_simp; with_reducible rfl))
    (try simp only [Act.put, List.setIfInBounds_toArray, List.set_cons_zero, List.set_cons_succ])
    refine wpAnyT_take (i := 3) (oi := ⟨some 25, _, _, _, _, _⟩) (v := ?vg1_3) rfl (by kernel_rfl) (by kernel_rfl) (by kernel_rfl) (by kernel_rfl) (fun _ _ _ h => h) (Or.inl ⟨by rfl, ?hg1_3⟩) (by assumption) ?rg1_3
    case hg1_3 => (intro w hSw; (try dsimp only at hSw); first | (go_simp; done) | (go_simp; with_reducible rfl))
    (try simp only [Act.put, List.setIfInBounds_toArray, List.set_cons_zero, List.set_cons_succ])
    refine wpAnyT_take (i := 4) (oi := ⟨some 26, _, _, _, _, _⟩) (v := ?vg1_4) rfl (by kernel_rfl) (by kernel_rfl) (by kernel_rfl) (by kernel_rfl) (fun _ _ _ h => h) (Or.inl ⟨by rfl, ?hg1_4⟩) (by assumption) ?rg1_4
    case hg1_4 => (intro w hSw; (try dsimp only at hSw); first | (go_simp; done) | (go_simp; with_reducible rfl))
    (try simp only [Act.put, List.setIfInBounds_toArray, List.set_cons_zero, List.set_cons_succ])
    refine wpAnyT_take (i := 5) (oi := ⟨some 27, _, _, _, _, _⟩) (v := ?vg1_5) rfl (by kernel_rfl) (by kernel_rfl) (by kernel_rfl) (by kernel_rfl) (fun _ _ _ h => h) (Or.inl ⟨by rfl, ?hg1_5⟩) (by assumption) ?rg1_5
    case hg1_5 => (intro w hSw; (try dsimp only at hSw); first | (go_simp; done) | (go_simp; with_reducible rfl))
    (try simp only [Act.put, List.setIfInBounds_toArray, List.set_cons_zero, List.set_cons_succ])
    refine wpAnyT_take (i := 6) (oi := ⟨some 28, _, _, _, _, _⟩) (v := ?vg1_6) rfl (by kernel_rfl) (by kernel_rfl) (by kernel_rfl) (by kernel_rfl) (fun _ _ _ h => h) (Or.inl ⟨by rfl, ?hg1_6⟩) (by assumption) ?rg1_6
    case hg1_6 => (intro w hSw; (try dsimp only at hSw); first | (go_simp; done) | (go_simp; with_reducible rfl))
    (try simp only [Act.put, List.setIfInBounds_toArray, List.set_cons_zero, List.set_cons_succ])
    refine wpAnyT_take (i := 7) (oi := ⟨some 29, _, _, _, _, _⟩) (v := _) rfl (by kernel_rfl) (by kernel_rfl) (by kernel_rfl) (by kernel_rfl) (fun _ _ _ h => h) (yieldsIf_load_mid (by rfl) 28 _ rfl g (k * 2) rfl [F (2 * k), F (2 * k + 1)] _ (fun w hw => hw.2) Try.underlying28 rfl node_size) (by assumption) ?_
    (try simp only [Act.put, List.setIfInBounds_toArray, List.set_cons_zero, List.set_cons_succ])
    refine wpAnyT_take (i := 8) (oi := ⟨some 30, _, _, _, _, _⟩) (v := ?vg1_8) rfl (by kernel_rfl) (by kernel_rfl) (by kernel_rfl) (by kernel_rfl) (fun _ _ _ h => h) (Or.inl ⟨by rfl, ?hg1_8⟩) (by assumption) ?rg1_8
    case hg1_8 => (intro w hSw; (try dsimp only at hSw); first | (go_simp; done) | (go_simp; with_reducible rfl))
    (try simp only [Act.put, List.setIfInBounds_toArray, List.set_cons_zero, List.set_cons_succ])
    refine wpAnyT_take (i := 9) (oi := ⟨some 31, _, _, _, _, _⟩) (v := ?vg1_9) rfl (by kernel_rfl) (by kernel_rfl) (by kernel_rfl) (by kernel_rfl) (fun _ _ _ h => h) (Or.inl ⟨by rfl, ?hg1_9⟩) (by assumption) ?rg1_9
    case hg1_9 => (intro w hSw; (try dsimp only at hSw); first | (go_simp; done) | (go_simp; with_reducible rfl))
    (try simp only [Act.put, List.setIfInBounds_toArray, List.set_cons_zero, List.set_cons_succ])
    refine wpAnyT_take (i := 10) (oi := ⟨some 32, _, _, _, _, _⟩) (v := ?vg1_10) rfl (by kernel_rfl) (by kernel_rfl) (by kernel_rfl) (by kernel_rfl) (fun _ _ _ h => h) (Or.inl ⟨by rfl, ?hg1_10⟩) (by assumption) ?rg1_10
    case hg1_10 => (intro w hSw; (try dsimp only at hSw); first | (go_simp; done) | (go_simp; with_reducible rfl))
    (try simp only [Act.put, List.setIfInBounds_toArray, List.set_cons_zero, List.set_cons_succ])
    refine wpAnyT_take (i := 11) (oi := ⟨some 33, _, _, _, _, _⟩) (v := ?vg1_11) rfl (by kernel_rfl) (by kernel_rfl) (by kernel_rfl) (by kernel_rfl) (fun _ _ _ h => h) (Or.inl ⟨by rfl, ?hg1_11⟩) (by assumption) ?rg1_11
    case hg1_11 => (intro w hSw; (try dsimp only at hSw); first | (go_simp; done) | (go_simp; with_reducible rfl))
    (try simp only [Act.put, List.setIfInBounds_toArray, List.set_cons_zero, List.set_cons_succ])
    refine wpAnyT_one (i := 12) (o := ⟨some 34, _, _, _, _, _⟩) (by kernel_rfl) rfl (fun K hK => ?_)
    go_simp
    go_at_call 36
    refine HREC.out.mono ?_
    rintro e w3 ⟨a3, b3, rfl, hn3, hb3⟩
    have HK3 := Lib.hid (((hb3).cell (p := ⟨W.heap.size, 0, none⟩) (World.block_lt_of_cell? _ _ HK2.out)).trans HK2.out)
    have HR3 := Lib.hid (range_later HR2.out hb3)
    have HY3 := Lib.hid (((hb3).block _ (Array.getElem?_eq_some_iff.1 HY2.out).1).trans HY2.out)
    have HB3 := Lib.hid ((HB2.out.trans ((drawn_below w2).mono HB2.out.size)).trans (hb3.mono HB2.out.size))
    have HN3 := Lib.hid hn3
    have HB23 := Lib.hid hb3
    clear hb3 hn3
    dsimp only
    refine hK.out _ _ (by first | exact ⟨HK2.out, HR2.out⟩ | exact ⟨HK3.out, HR3.out⟩ | exact ⟨HK4.out, HR4.out⟩) (fun hHeld => ?_)
    clear hK K
    (try simp only [Act.put, List.setIfInBounds_toArray, List.set_cons_zero, List.set_cons_succ])
    refine wpAnyT_one (i := 13) (o := ⟨some 35, _, _, _, _, _⟩) (by kernel_rfl) rfl (fun K hK => ?_)
    go_simp
    go_at_call 42
    refine (pv_with_node w3 _ F cnt k a3 b3 ((HRUN.out.later (HB2.out.trans ((((drawn_below w2).mono HB2.out.size)).trans (HB23.out.mono HB2.out.size)))).places) HO.out HN3.out.one.1 HN3.out.one.2 (by have := HKC.out; omega) (by have := HKC.out; omega)).mono ?_
    rintro e w4 ⟨m, v4, hm, rfl, hr4, hb4⟩
    obtain ⟨ap4, cp4, rfl, _⟩ := hr4.shape
    have HK4 := Lib.hid (((hb4).cell (p := ⟨W.heap.size, 0, none⟩) (World.block_lt_of_cell? _ _ HK3.out)).trans HK3.out)
    have HR4 := Lib.hid (range_later HR3.out hb4)
    have HY4 := Lib.hid (((hb4).block _ (Array.getElem?_eq_some_iff.1 HY3.out).1).trans HY3.out)
    have HB4 := Lib.hid (HB3.out.trans (hb4.mono HB3.out.size))
    have HR4' := Lib.hid hr4
    have HN4 := Lib.hid (HN3.out.later hb4)
    have HM := Lib.hid hm
    have HB34 := Lib.hid hb4
    clear hb4 hr4 hm
    dsimp only
    refine hK.out _ _ (by first | exact ⟨HK2.out, HR2.out⟩ | exact ⟨HK3.out, HR3.out⟩ | exact ⟨HK4.out, HR4.out⟩) (fun hHeld => ?_)
    clear hK K
    (try simp only [Act.put, List.setIfInBounds_toArray, List.set_cons_zero, List.set_cons_succ])
    refine wpAnyT_take (i := 14) (oi := ⟨some 36, _, _, _, _, _⟩) (v := ?vg1_14) rfl (by kernel_rfl) (by kernel_rfl) (by kernel_rfl) (by kernel_rfl) (fun _ _ _ h => h) (Or.inl ⟨by rfl, ?hg1_14⟩) (by assumption) ?rg1_14
    case hg1_14 => (intro w hSw; (try dsimp only at hSw); first | (go_simp; done) | (go_simp; with_reducible rfl))
    (try simp only [Act.put, List.setIfInBounds_toArray, List.set_cons_zero, List.set_cons_succ])
    refine wpAnyT_last (i := 15) (o := ⟨none, _, _, _, _, _⟩) (by kernel_rfl) (by decide) rfl (fun K hK => ?_)
    refine st_agg_wp 28 _ _ rfl (W.heap.size + 1) #[.slice ap4 m cp4, .slice none 0 0] rfl rfl 28 #[.slice none 0 0, .slice none 0 0] HY4.out node_size rfl (by simp [Value.oneCell']) ?_
    intro w6 h6 k6
    refine hK.out _ _ ?_
    clear hK K
    (try simp only [Act.put, List.setIfInBounds_toArray, List.set_cons_zero, List.set_cons_succ])
    refine wpAnyT_done (by kernel_rfl) ?_ _
    go_wp2_with fail
    refine bodyPost_ret (results_cell_row rfl _ _ (W.heap.size + 1) 28 _ (0, 0) _ rfl h6 Try.underlying28 rfl node_size) rfl ⟨_, _, rfl, ⟨rfl, H0.out, HLE.out, updN F k a3 b3, ?_, fun j hj => ?_⟩, HB4.out.trans (k6.below (by omega))⟩
    · have hm : m = cnt := by have := HM.out; have := HKC.out; omega
      subst hm
      rw [← HCN.out]
      exact (HR4'.out.kept k6.by_ (fun X e => by cases e; have := (show w2.heap.size ≤ w3.heap.size from HB23.out.size); have := HS2.out; omega)).weak fun g hg => .inr (by have := (show w2.heap.size ≤ w3.heap.size from HB23.out.size); have := HS2.out; omega)
    · rw [updN_l, updN_r]
      by_cases e : j = k
      · subst e
        rw [if_pos rfl, if_pos rfl]
        refine ((HN4.out.kept k6.by_ (fun X e => ?_)).weak (fun g hg => ?_)).congr fun r hr => ?_
        · cases e; have := HS2.out; simp; omega
        · rcases hg with ⟨hg, _⟩ | hg
          · exact .inl hg
          · exact .inr (by have := HS2.out; simp at hg; omega)
        · have hsp := HSP.out
          unfold upd
          rw [show h + 1 + 1 = h + 2 from rfl, hsp]
          by_cases e2 : r = i % 32 ^ (h + 1)
          · rw [if_pos e2, if_pos (by omega)]
          · rw [if_neg e2, if_neg (by omega)]
      · rw [if_neg e, if_neg e]
        refine (((HKID.out j hj).old.later (HB4.out)).kept k6.by_ (fun X e => by cases e; omega)).weak (fun g hg => .inl hg.1) |>.congr fun r hr => ?_
        unfold upd
        rw [show h + 1 + 1 = h + 2 from rfl, HSP.out, if_neg (fun e3 => e (at_inj (Nat.lt_of_lt_of_le hr (Nat.min_le_left _ _)) HIN.out e3))]
theorem pv_set : ∀ (h : Nat), h ≤ 4 → SetDoes h
  | 0, _ => pv_set0
  | h + 1, hh => pv_setS h hh (pv_set h (by omega))
end Go.Proofs.Ytpjbhdplginbaaa
