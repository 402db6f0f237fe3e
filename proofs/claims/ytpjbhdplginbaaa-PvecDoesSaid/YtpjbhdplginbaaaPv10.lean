/- Package pvec: Keep, Pop. (written by tools/gen07/pv9.py) -/
import Derived.Test.YtpjbhdplginbaaaPv8
import Derived.Test.YtpjbhdplginbaaaResRow
namespace Go.Proofs.Ytpjbhdplginbaaa
open Go.RowKit
set_option maxRecDepth 1000000
set_option linter.unusedSimpArgs false

/-- 'l[:k]' of a list of numbers. -/
theorem ints_cut (ad : Addr) (n c k : Nat) (h1 : k ≤ c) (w : World) : (Instr.slice 26 (.slice (some ad) n c) none (some (.int .i64 (k : Int))) none).run Try.prog w = .ok (.slice (some ad) k c) w := by
  have hu : Try.prog.underlying 26 = some (.slice (Try.prog.elem 26)) := by kernel_rfl
  have hs : (sizeOf (Try.prog.elem 26)).run Try.prog w = .ok 1 w := by
    have e : Try.prog.elem 26 = 3 := by kernel_rfl
    rw [e]
    obtain ⟨i, hi, _, h1, _⟩ := info_parts int_info
    simp [sizeOf, typeInfo, hi, h1]
  rw [run_slice_h w _ _ _ _ hu _ _ (by omega) (by omega), hs]
  have e0 : ad.add 0 = ad := by unfold Addr.add; simp
  simp only [Result.andThen_ok, sliced, Int.toNat_natCast, Nat.sub_zero, Nat.zero_mul, Option.map_some, e0, ite_self]
theorem lsF_getD2 (f : Nat → Int) (n j : Nat) (h : j < n) : (lsF f n).getD j 0 = f j := by
  rw [List.getD_eq_getElem?_getD, lsF_at _ _ _ h]; rfl
theorem pv_joined1 (w : World) (v1 : Value) (f1 : Nat → Int) (n1 : Nat) (h1 : PlacesAt w 1 v1 (fi f1) n1) (h0 : 0 < n1) (hl : n1 ≤ 4000) :
    Calls Try.prog 33 #[.slice (some ⟨w.heap.size, 0, none⟩) 1 1] (w.alloc (.cells #[v1] 26)) fun e w' => ∃ v, e = .returned v ∧ RunAt (fun _ => True) w' 3 1 v (fi f1) n1 ∧ Below w.heap.size w w' := by
  have hb : Below w.heap.size w (w.alloc (.cells #[v1] 26)) := Below.newly' _ _
  have hB := heap_alloc_last w (.cells #[v1] 26)
  generalize (w.alloc (.cells #[v1] 26)) = W at hb hB
  have := pv_joined W w.heap.size [(v1, lsF f1 n1)] (fun k hk => by
      match k, hk with
      | 0, _ => exact cell_in hB rfl) (fun k hk => by
      match k, hk with
      | 0, _ => exact h1.seg.later hb) (by simp [catL, lsF_len]; omega) (by simp [catL, lsF_len]; omega) (by simp)
  refine (show Calls Try.prog 33 #[.slice (some ⟨w.heap.size, 0, none⟩) 1 1] W _ from this).mono ?_
  rintro e w' ⟨v, rfl, hr, hbw⟩
  have e1 : catL [(v1, lsF f1 n1)] [(v1, lsF f1 n1)].length = lsF f1 n1 := by simp [catL]
  rw [e1, lsF_len] at hr
  exact ⟨v, rfl, (hr.weak fun _ _ => trivial).congr fun j hj => by show Value.int .i64 ((lsF f1 n1).getD j 0) = _; rw [lsF_getD2 _ _ _ (by omega)]; rfl, hb.trans (hbw.mono hb.size)⟩
theorem pv_joined2 (w : World) (v1 v2 : Value) (f1 f2 : Nat → Int) (n1 n2 : Nat) (h1 : PlacesAt w 1 v1 (fi f1) n1) (h2 : PlacesAt w 1 v2 (fi f2) n2) (h0 : 0 < n2) (hl : n1 + n2 ≤ 4000) :
    Calls Try.prog 33 #[.slice (some ⟨w.heap.size, 0, none⟩) 2 2] (w.alloc (.cells #[v1, v2] 26)) fun e w' => ∃ v, e = .returned v ∧ RunAt (fun g => w.heap.size ≤ g) w' 3 1 v (fi fun i => if i < n1 then f1 i else f2 (i - n1)) (n1 + n2) ∧ Below w.heap.size w w' := by
  have hb : Below w.heap.size w (w.alloc (.cells #[v1, v2] 26)) := Below.newly' _ _
  have hB := heap_alloc_last w (.cells #[v1, v2] 26)
  generalize (w.alloc (.cells #[v1, v2] 26)) = W at hb hB
  have := pv_joined W w.heap.size [(v1, lsF f1 n1), (v2, lsF f2 n2)] (fun k hk => by
      match k, hk with
      | 0, _ => exact cell_in hB rfl
      | 1, _ => exact cell_in hB rfl) (fun k hk => by
      match k, hk with
      | 0, _ => exact h1.seg.later hb
      | 1, _ => exact h2.seg.later hb) (by simp [catL, lsF_len]; omega) (by simp [catL, lsF_len]; omega) (by simp)
  refine (show Calls Try.prog 33 #[.slice (some ⟨w.heap.size, 0, none⟩) 2 2] W _ from this).mono ?_
  rintro e w' ⟨v, rfl, hr, hbw⟩
  have e1 : catL [(v1, lsF f1 n1), (v2, lsF f2 n2)] [(v1, lsF f1 n1), (v2, lsF f2 n2)].length = lsF f1 n1 ++ lsF f2 n2 := by simp [catL]
  rw [e1, List.length_append, lsF_len, lsF_len] at hr
  refine ⟨v, rfl, (hr.weak fun g hg => Nat.le_trans hb.size hg).congr fun j hj => ?_, hb.trans (hbw.mono hb.size)⟩
  show Value.int .i64 ((lsF f1 n1 ++ lsF f2 n2).getD j 0) = .int .i64 (if j < n1 then f1 j else f2 (j - n1))
  congr 1
  rw [List.getD_eq_getElem?_getD]
  by_cases e : j < n1
  · rw [if_pos e, List.getElem?_append_left (by rw [lsF_len]; exact e), lsF_at _ _ _ e]; rfl
  · rw [if_neg e, List.getElem?_append_right (by rw [lsF_len]; omega), lsF_len, lsF_at _ _ _ (by omega)]; rfl
/-- How many things are kept. -/
def kept (n : Nat) (k : Int) : Nat := min n k.toNat
set_option maxHeartbeats 4000000 in
theorem pv_Keep {c : Array Value} {f : Nat → Int} {n : Nat} (W : World) (h : VecAt W c f n) (k : Int) : Calls Try.prog 27 #[.agg c, .int .i64 k] W fun e W' =>
    ∃ c', e = .returned (.agg c') ∧ VecAt W' c' f (kept n k) ∧ Below W.heap.size W W' := by
  have HV : Hid (VecG (fun _ => True) W c f n (n - othN n)) := h
  obtain ⟨t, ht⟩ : ∃ t, t = n - othN n := ⟨_, rfl⟩
  rw [← ht] at HV
  obtain ⟨a, b, v, cp, rfl, hc, h1, h2, h3, h4, h6, h7⟩ := HV.out.laid
  obtain ⟨w2, hw2⟩ : ∃ w2, (W.alloc (.cells #[.int .i64 (n : Int), a, b, .slice v t cp] 30)).alloc (.cells #[.int .i64 0, .slice none 0 0, .slice none 0 0, .slice none 0 0] 30) = w2 := ⟨_, rfl⟩
  obtain ⟨hb2, hx2, hy2, hs2⟩ := pair_new hw2
  have HB2 := Lib.hid hb2
  have HX2 := Lib.hid hx2
  have HY2 := Lib.hid hy2
  have HS2 := Lib.hid hs2
  clear hb2 hx2 hy2 hs2
  have HONE := Lib.hid h6.one
  have HTT := Lib.hid ht
  have q2 : w2.cell? ⟨W.heap.size, 0, none⟩ = some (.int .i64 (n : Int)) := cell_in HX2.out rfl
  by_cases hk : (n : Int) ≤ k
  · rw [show kept n k = n by unfold kept; omega]
    clear h h1 h2 h3 h4 h6 h7 hc ht
    go_enter Try.func27, Try.ntmps27
    go_upto_region 1 with fail
    clear hw2
    go_wp2_with (first
      | (refine ld_if rfl 30 _ rfl W.heap.size rfl 30 _ _ _ HX2.out Try.underlying30 rfl vec_size ?_)
      | (refine st_agg rfl 30 _ _ rfl (W.heap.size + 1) #[.int .i64 (n : Int), a, b, .slice v t cp] rfl rfl 30 #[.int .i64 0, .slice none 0 0, .slice none 0 0, .slice none 0 0] HY2.out vec_size rfl (by simp [HONE.out.1, HONE.out.2]; exact ⟨rfl, rfl⟩) ?_; intro w4 h4 k4))
    refine bodyPost_ret (results_cell_row rfl _ _ (W.heap.size + 1) 30 _ (0, 0) _ rfl h4 Try.underlying30 rfl vec_size) rfl ⟨_, rfl, ?_, HB2.out.trans (k4.below (by omega))⟩
    have := (HV.out.later HB2.out).but k4 HY2.out (by decide) (by decide)
    rw [HTT.out] at this ⊢
    exact this
  · by_cases hk0 : k ≤ 0
    · rw [show kept n k = 0 by unfold kept; omega]
      clear h h1 h2 h3 h4 h6 h7 hc ht
      go_enter Try.func27, Try.ntmps27
      go_upto_region 1 with fail
      clear hw2
      go_wp2_with (first
        | (refine st_agg rfl 30 _ _ rfl (W.heap.size + 1) #[.int .i64 0, .slice none 0 0, .slice none 0 0, .slice none 0 0] rfl rfl 30 #[.int .i64 0, .slice none 0 0, .slice none 0 0, .slice none 0 0] HY2.out vec_size rfl (by simp [Value.oneCell']) ?_; intro w4 h4 k4))
      exact bodyPost_ret (results_cell_row rfl _ _ (W.heap.size + 1) 30 _ (0, 0) _ rfl h4 Try.underlying30 rfl vec_size) rfl ⟨_, rfl, VecG.zero _ _ _, HB2.out.trans (k4.below (by omega))⟩
    · obtain ⟨m, rfl⟩ : ∃ m : Nat, k = (m : Int) := ⟨k.toNat, by omega⟩
      rw [show kept n (m : Int) = m by unfold kept; omega]
      obtain ⟨k1, hk1⟩ : ∃ k1, k1 = m - 1 := ⟨_, rfl⟩
      obtain ⟨r, hr⟩ : ∃ r, r = k1 % 32 := ⟨_, rfl⟩
      obtain ⟨o, ho⟩ : ∃ o, o = othN m := ⟨_, rfl⟩
      obtain ⟨d, hd⟩ : ∃ d, d = m - o := ⟨_, rfl⟩
      have hoe : o = k1 - r ∧ o < n ∧ o ≤ n - t ∧ o % 32 = 0 ∧ 0 < d ∧ d ≤ 32 ∧ o + d = m ∧ m < n ∧ o / 32 * 32 = o := by rw [ho] at hd ⊢; unfold othN at *; omega
      have e1 : (m : Int) - 1 = (k1 : Int) := by omega
      have e2 : (k1 : Int) % 32 = (r : Int) := by omega
      have e3 : (k1 : Int) - (r : Int) = (o : Int) := by omega
      have e4 : (m : Int) - (o : Int) = (d : Int) := by omega
      have e5 : IntKind.i64.wrap (d : Int) = (d : Int) := by rw [IntKind.wrap_i64]; omega
      have hk16 : (k1 : Int) ≤ 1000000 := by omega
      have hr32 : (r : Int) ≤ 32 := by omega
      have hm16 : (m : Int) ≤ 1000000 := by omega
      have HOE := Lib.hid hoe
      have HF := Lib.hid (show n ≤ 1000000 ∧ o = othN m ∧ d = m - o from ⟨h4, ho, hd⟩)
      have HTRIE := Lib.hid (fun w (hb : Below W.heap.size W w) => pv_trie w (HV.out.later hb) o hoe.2.2.1 hoe.2.2.2.1)
      have HPIECE := Lib.hid (fun w (hb : Below W.heap.size W w) => pv_piece w (HV.out.later hb) o hoe.2.1)
      rw [hoe.2.2.2.2.2.2.2.2] at HPIECE
      obtain ⟨cnt, hcnt⟩ : ∃ cnt, cnt = min 32 (n - o) := ⟨_, rfl⟩
      rw [← hcnt] at HPIECE
      have HCNT := Lib.hid (show d ≤ cnt ∧ 0 < cnt by omega)
      clear h h1 h2 h3 h4 h6 h7 hc ht hk1 hr ho hd hoe hcnt HTT
      go_enter Try.func27, Try.ntmps27
      go_upto_region 7 with fail
      clear hw2
      have HX3 : Hid (w2.drew.heap[W.heap.size]? = some (.cells #[.int .i64 (n : Int), a, b, .slice v t cp] 30 (0, 0))) := HX2.out
      have HY3 : Hid (w2.drew.heap[W.heap.size + 1]? = some (.cells #[.int .i64 0, .slice none 0 0, .slice none 0 0, .slice none 0 0] 30 (0, 0))) := HY2.out
      have HB3 := Lib.hid (HB2.out.trans ((drawn_below w2).mono HB2.out.size))
      refine wp_region_T (S := fun V => V.heap[W.heap.size]? = some (.cells #[.int .i64 (n : Int), a, b, .slice v t cp] 30 (0, 0))) [14] (by kernel_rfl) (by first | exact HX3.out | exact HX4.out | exact HX5.out | exact HX6.out | exact HX7.out) (fun hHeld => ?_)
      refine wpAnyT_take (i := 0) (oi := ⟨some 21, _, _, _, _, _⟩) (v := ?vg4_0) rfl (by kernel_rfl) (by kernel_rfl) (by kernel_rfl) (by kernel_rfl) (fun _ _ _ h => h) (Or.inl ⟨by rfl, ?hg4_0⟩) (by assumption) ?rg4_0
      case hg4_0 => (intro w hSw; (try dsimp only at hSw); first | (go_simp; done) | (go_simp; with_reducible rfl))
      (try simp only [Act.put, List.setIfInBounds_toArray, List.set_cons_zero, List.set_cons_succ])
      refine wpAnyT_take (i := 1) (oi := ⟨some 22, _, _, _, _, _⟩) (v := _) rfl (by kernel_rfl) (by kernel_rfl) (by kernel_rfl) (by kernel_rfl) (fun _ _ _ h => h) (yieldsIf_load_row (by rfl) 30 _ rfl W.heap.size rfl #[.int .i64 (n : Int), a, b, .slice v t cp] 30 (0, 0) _ (fun w hw => hw) Try.underlying30 rfl (by exact vec_size)) (by assumption) ?_
      (try simp only [Act.put, List.setIfInBounds_toArray, List.set_cons_zero, List.set_cons_succ])
      refine wpAnyT_take (i := 2) (oi := ⟨some 23, _, _, _, _, _⟩) (v := ?vg4_2) rfl (by kernel_rfl) (by kernel_rfl) (by kernel_rfl) (by kernel_rfl) (fun _ _ _ h => h) (Or.inl ⟨by rfl, ?hg4_2⟩) (by assumption) ?rg4_2
      case hg4_2 => (intro w hSw; (try dsimp only at hSw); first | (go_simp; done) | (go_simp; with_reducible rfl))
      (try simp only [Act.put, List.setIfInBounds_toArray, List.set_cons_zero, List.set_cons_succ])
      refine wpAnyT_take (i := 4) (oi := ⟨some 25, _, _, _, _, _⟩) (v := _) rfl (by kernel_rfl) (by kernel_rfl) (by kernel_rfl) (by kernel_rfl) (fun _ _ _ h => h) (yieldsIf_load_row (by rfl) 30 _ rfl W.heap.size rfl #[.int .i64 (n : Int), a, b, .slice v t cp] 30 (0, 0) _ (fun w hw => hw) Try.underlying30 rfl (by exact vec_size)) (by assumption) ?_
      (try simp only [Act.put, List.setIfInBounds_toArray, List.set_cons_zero, List.set_cons_succ])
      refine wpAnyT_take (i := 5) (oi := ⟨some 26, _, _, _, _, _⟩) (v := ?vg4_5) rfl (by kernel_rfl) (by kernel_rfl) (by kernel_rfl) (by kernel_rfl) (fun _ _ _ h => h) (Or.inl ⟨by rfl, ?hg4_5⟩) (by assumption) ?rg4_5
      case hg4_5 => (intro w hSw; (try dsimp only at hSw); first | (go_simp; done) | (go_simp; with_reducible rfl))
      (try simp only [Act.put, List.setIfInBounds_toArray, List.set_cons_zero, List.set_cons_succ])
      refine wpAnyT_take (i := 7) (oi := ⟨some 28, _, _, _, _, _⟩) (v := ?vg4_7) rfl (by kernel_rfl) (by kernel_rfl) (by kernel_rfl) (by kernel_rfl) (fun _ _ _ h => h) (Or.inl ⟨by rfl, ?hg4_7⟩) (by assumption) ?rg4_7
      case hg4_7 => (intro w hSw; (try dsimp only at hSw); first | (go_simp; done) | (go_simp; with_reducible rfl))
      (try simp only [Act.put, List.setIfInBounds_toArray, List.set_cons_zero, List.set_cons_succ])
      refine wpAnyT_take (i := 8) (oi := ⟨some 29, _, _, _, _, _⟩) (v := ?vg4_8) rfl (by kernel_rfl) (by kernel_rfl) (by kernel_rfl) (by kernel_rfl) (fun _ _ _ h => h) (Or.inl ⟨by rfl, ?hg4_8⟩) (by assumption) ?rg4_8
      case hg4_8 => (intro w hSw; (try dsimp only at hSw); first | (go_simp; done) | (go_simp; with_reducible rfl))
      (try simp only [Act.put, List.setIfInBounds_toArray, List.set_cons_zero, List.set_cons_succ])
      refine wpAnyT_take (i := 9) (oi := ⟨some 30, _, _, _, _, _⟩) (v := ?vg4_9) rfl (by kernel_rfl) (by kernel_rfl) (by kernel_rfl) (by kernel_rfl) (fun _ _ _ h => h) (Or.inl ⟨by rfl, ?hg4_9⟩) (by assumption) ?rg4_9
      case hg4_9 => (intro w hSw; (try dsimp only at hSw); first | (go_simp; done) | (go_simp; with_reducible rfl))
      (try simp only [Act.put, List.setIfInBounds_toArray, List.set_cons_zero, List.set_cons_succ])
      refine wpAnyT_one (i := 3) (o := ⟨some 24, _, _, _, _, _⟩) (by kernel_rfl) rfl (fun K hK => ?_)
      go_simp
      go_at_call 38
      with_reducible refine (HTRIE.out _ HB3.out).mono ?_
      rintro e w4 ⟨a4, b4, rfl, hn4, hb⟩
      have HX4 := Lib.hid (((hb).block _ (Array.getElem?_eq_some_iff.1 HX3.out).1).trans HX3.out); have HY4 := Lib.hid (((hb).block _ (Array.getElem?_eq_some_iff.1 HY3.out).1).trans HY3.out); have HB4 := Lib.hid (HB3.out.trans ((hb).mono HB3.out.size))
      have HN4 := Lib.hid hn4
      clear hb hn4
      dsimp only
      refine hK.out _ _ (by first | exact HX3.out | exact HX4.out | exact HX5.out | exact HX6.out | exact HX7.out) (fun hHeld => ?_)
      clear hK K
      (try simp only [Act.put, List.setIfInBounds_toArray, List.set_cons_zero, List.set_cons_succ])
      refine wpAnyT_one (i := 6) (o := ⟨some 27, _, _, _, _, _⟩) (by kernel_rfl) rfl (fun K hK => ?_)
      go_simp
      go_at_call 29
      with_reducible refine (HPIECE.out _ HB4.out).mono ?_
      rintro e w5 ⟨v5, rfl, hr5, hb⟩
      have HX5 := Lib.hid (((hb).block _ (Array.getElem?_eq_some_iff.1 HX4.out).1).trans HX4.out); have HY5 := Lib.hid (((hb).block _ (Array.getElem?_eq_some_iff.1 HY4.out).1).trans HY4.out); have HB5 := Lib.hid (HB4.out.trans ((hb).mono HB4.out.size))
      have HN5 := Lib.hid (HN4.out.later hb)
      have hcc := HCNT.out
      obtain ⟨g5, c5, cs5, fr5, rfl, hc5, _, hg5, hcs5⟩ := hr5.pos hcc.2
      have hcut := ints_cut ⟨g5, 0, none⟩ cnt c5 d (by omega)
      have HP5 : Hid (PlacesAt w5 1 (.slice (some ⟨g5, 0, none⟩) d c5) (fi fun j => f (o + j)) d) := ⟨_, c5, rfl, fun _ => ⟨_, rfl, fun j hj => by rw [add_at, Nat.zero_add]; exact cell_in hg5 (hcs5 j (by omega))⟩⟩
      clear hb hr5 hg5 hcs5 hc5 hcc
      dsimp only
      refine hK.out _ _ (by first | exact HX3.out | exact HX4.out | exact HX5.out | exact HX6.out | exact HX7.out) (fun hHeld => ?_)
      clear hK K
      (try simp only [Act.put, List.setIfInBounds_toArray, List.set_cons_zero, List.set_cons_succ])
      refine wpAnyT_take (i := 10) (oi := ⟨some 31, _, _, _, _, _⟩) (v := ?vg4_10) rfl (by kernel_rfl) (by kernel_rfl) (by kernel_rfl) (by kernel_rfl) (fun _ _ _ h => h) (Or.inl ⟨by rfl, ?hg4_10⟩) (by assumption) ?rg4_10
      case hg4_10 => (intro w hSw; (try dsimp only at hSw); first | (go_simp; done) | (go_simp; with_reducible rfl))
      (try simp only [Act.put, List.setIfInBounds_toArray, List.set_cons_zero, List.set_cons_succ])
      refine wpAnyT_one (i := 11) (o := ⟨some 32, _, _, _, _, _⟩) (by kernel_rfl) rfl (fun K hK => ?_)
      go_simp
      have HX6 := Lib.hid (((Below.newly' w5 (.cells #[.slice (some ⟨g5, 0, none⟩) d c5] 26)).block _ (Array.getElem?_eq_some_iff.1 HX5.out).1).trans HX5.out)
      refine hK.out _ _ (by first | exact HX3.out | exact HX4.out | exact HX5.out | exact HX6.out | exact HX7.out) (fun hHeld => ?_)
      clear hK K
      (try simp only [Act.put, List.setIfInBounds_toArray, List.set_cons_zero, List.set_cons_succ])
      refine wpAnyT_one (i := 12) (o := ⟨some 33, _, _, _, _, _⟩) (by kernel_rfl) rfl (fun K hK => ?_)
      go_simp
      go_at_call 33
      with_reducible refine (pv_joined1 w5 _ _ d HP5.out (by have := HOE.out; omega) (by have := HOE.out; omega)).mono ?_
      rintro e w7 ⟨v7, rfl, hr7, hb⟩
      have HX7 := Lib.hid (((hb).block _ (Array.getElem?_eq_some_iff.1 HX5.out).1).trans HX5.out); have HY7 := Lib.hid (((hb).block _ (Array.getElem?_eq_some_iff.1 HY5.out).1).trans HY5.out); have HB7 := Lib.hid (HB5.out.trans ((hb).mono HB5.out.size))
      have HN7 := Lib.hid (HN5.out.later hb)
      have HR7 := Lib.hid hr7
      obtain ⟨a7, c7, rfl, _⟩ := hr7.shape
      have HONE7 := Lib.hid HN7.out.one
      clear hb hr7
      dsimp only
      refine hK.out _ _ (by first | exact HX3.out | exact HX4.out | exact HX5.out | exact HX6.out | exact HX7.out) (fun hHeld => ?_)
      clear hK K
      (try simp only [Act.put, List.setIfInBounds_toArray, List.set_cons_zero, List.set_cons_succ])
      refine wpAnyT_take (i := 13) (oi := ⟨some 34, _, _, _, _, _⟩) (v := ?vg4_13) rfl (by kernel_rfl) (by kernel_rfl) (by kernel_rfl) (by kernel_rfl) (fun _ _ _ h => h) (Or.inl ⟨by rfl, ?hg4_13⟩) (by assumption) ?rg4_13
      case hg4_13 => (intro w hSw; (try dsimp only at hSw); first | (go_simp; done) | (go_simp; with_reducible rfl))
      (try simp only [Act.put, List.setIfInBounds_toArray, List.set_cons_zero, List.set_cons_succ])
      refine wpAnyT_last (i := 14) (o := ⟨none, _, _, _, _, _⟩) (by kernel_rfl) (by decide) rfl (fun K hK => ?_)
      refine st_agg_wp 30 _ _ rfl (W.heap.size + 1) #[.int .i64 (m : Int), a4, b4, .slice a7 d c7] rfl rfl 30 #[.int .i64 0, .slice none 0 0, .slice none 0 0, .slice none 0 0] HY7.out vec_size rfl (by simp [HONE7.out.1, HONE7.out.2]; exact ⟨rfl, rfl⟩) ?_
      intro w8 h8 k8
      refine hK.out _ _ ?_
      clear hK K
      (try simp only [Act.put, List.setIfInBounds_toArray, List.set_cons_zero, List.set_cons_succ])
      refine wpAnyT_done (by kernel_rfl) ?_ _
      go_wp2_with fail
      have hf := HF.out
      have ho := HOE.out
      refine bodyPost_ret (results_cell_row rfl _ _ (W.heap.size + 1) 30 _ (0, 0) _ rfl h8 Try.underlying30 rfl vec_size) rfl ⟨_, rfl, ?_, HB7.out.trans (k8.below (by omega))⟩
      unfold VecAt
      rw [← hf.2.1, ← hf.2.2]
      refine ⟨by omega, by omega, by omega, by omega, _, _, _, rfl, ?_, ?_⟩
      · rw [show m - d = o by omega]
        exact HN7.out.keptT k8.by_ (fun X e => by cases e; exact ⟨_, HY7.out, fun cs fr => ⟨fun e => (by simp only [Obj.cells.injEq] at e; exact absurd e.2.1 (by decide)), fun e => (by simp only [Obj.cells.injEq] at e; exact absurd e.2.1 (by decide))⟩⟩)
      · rw [show m - d = o by omega]
        exact HR7.out.keptT k8.by_ (fun X e => by cases e; exact ⟨_, HY7.out, fun cs fr e => (by simp only [Obj.cells.injEq] at e; exact absurd e.2.1 (by decide))⟩)
set_option maxHeartbeats 2000000 in
theorem pv_Pop {c : Array Value} {f : Nat → Int} {n : Nat} (W : World) (h : VecAt W c f n) : Calls Try.prog 20 #[.agg c] W fun e W' =>
    ∃ c', e = .returned (.tuple #[.agg c', .int .i64 (getF f n ((n : Int) - 1)).1, .bool (getF f n ((n : Int) - 1)).2]) ∧ VecAt W' c' f (n - 1) ∧ Below W.heap.size W W' := by
  have HV := Lib.hid h
  have HS := Lib.hid h.size
  have HG := Lib.hid (fun w (hb : Below W.heap.size W w) => pv_Get w (VecG.later h hb) ((n : Int) - 1))
  have HK := Lib.hid (fun w (hb : Below W.heap.size W w) => pv_Keep w (VecG.later h hb : VecAt w c f n) ((n : Int) - 1))
  rw [show kept n ((n : Int) - 1) = n - 1 by unfold kept; omega] at HK
  have HC0 : Hid (c[0]? = some (.int .i64 (n : Int))) := by
    obtain ⟨_, _, _, _, a, b, v, rfl, _⟩ := HV.out
    exact rfl
  obtain ⟨w2, hw2⟩ : ∃ w2, (W.alloc (.cells c 30)).alloc (.cells #[.int .i64 0, .slice none 0 0, .slice none 0 0, .slice none 0 0] 30) = w2 := ⟨_, rfl⟩
  obtain ⟨hb2, hx2, hy2, hs2⟩ := pair_new hw2
  have HB2 := Lib.hid hb2
  have HX2 := Lib.hid hx2
  have HY2 := Lib.hid hy2
  have q2 : w2.cell? ⟨W.heap.size, 0, none⟩ = some (.int .i64 (n : Int)) := cell_in hx2 HC0.out
  obtain ⟨⟨x, y⟩, hxy⟩ : ∃ p, p = getF f n ((n : Int) - 1) := ⟨_, rfl⟩
  rw [← hxy] at HG ⊢
  simp only at HG ⊢
  have hn6 : (n : Int) ≤ 1000000 := by obtain ⟨_, _, _, h4, _⟩ := h; omega
  have hn0 : 0 ≤ (n : Int) := by omega
  clear h hb2 hx2 hy2 hs2 hxy
  go_enter Try.func20, Try.ntmps20
  go_upto_region 1 with fail
  clear hw2
  go_wp2_with (first
    | (refine ld_if rfl 30 _ rfl W.heap.size rfl 30 _ _ _ HX2.out Try.underlying30 rfl (by rw [HS.out]; exact vec_size) ?_)
    | (go_at_call 11; with_reducible refine (HG.out _ HB2.out).mono ?_; rintro e w3 ⟨rfl, hb⟩; have HX3 := Lib.hid (((hb).block _ (Array.getElem?_eq_some_iff.1 HX2.out).1).trans HX2.out); have HY3 := Lib.hid (((hb).block _ (Array.getElem?_eq_some_iff.1 HY2.out).1).trans HY2.out); have HB3 := Lib.hid (HB2.out.trans ((hb).mono HB2.out.size)); have q3 : w3.cell? ⟨W.heap.size, 0, none⟩ = some (.int .i64 (n : Int)) := cell_in HX3.out HC0.out; clear hb)
    | (refine ld_if rfl 30 _ rfl W.heap.size rfl 30 _ _ _ HX3.out Try.underlying30 rfl (by rw [HS.out]; exact vec_size) ?_)
    | (go_at_call 27; with_reducible refine (HK.out _ HB3.out).mono ?_; rintro e w4 ⟨c4, rfl, hv4, hb⟩; have HX4 := Lib.hid (((hb).block _ (Array.getElem?_eq_some_iff.1 HX3.out).1).trans HX3.out); have HY4 := Lib.hid (((hb).block _ (Array.getElem?_eq_some_iff.1 HY3.out).1).trans HY3.out); have HB4 := Lib.hid (HB3.out.trans ((hb).mono HB3.out.size)); have HV4 := Lib.hid hv4; clear hb hv4)
    | (refine st_agg rfl 30 _ _ rfl (W.heap.size + 1) c4 rfl rfl 30 #[.int .i64 0, .slice none 0 0, .slice none 0 0, .slice none 0 0] HY4.out (by rw [VecG.size HV4.out]; exact vec_size) (by rw [VecG.size HV4.out]; rfl) (VecG.one HV4.out) ?_; intro w5 h5 k5))
  exact bodyPost_ret (results_cell_row2 rfl _ _ (W.heap.size + 1) 30 _ (0, 0) _ rfl h5 Try.underlying30 rfl (by rw [VecG.size HV4.out]; exact vec_size)) rfl ⟨_, rfl, VecG.but HV4.out k5 HY4.out (by decide) (by decide), HB4.out.trans (k5.below (by omega))⟩
end Go.Proofs.Ytpjbhdplginbaaa
