/- Layer 8's laws: one operation: Slice, Of, anything else. (written by tools/gen08/one8b.py) -/
import Derived.Test.YtldemoflgahdgaaLaw08One
namespace Go.Proofs.Ytldemoflgahdgaa
open Go.RowKit
set_option maxRecDepth 1000000
set_option linter.unusedSimpArgs false

theorem Fr8.but {n0 X : Nat} {w0 w w' : World} {c s : Array Value} {o : Op8} (h : Fr8 n0 w0 c o s w) (k : Only X w w') (hX : n0 + 4 ≤ X) : Fr8 n0 w0 c o s w' :=
  ⟨k.other h.box (by omega), k.other h.op (by omega), k.other h.out (by omega), k.other h.var (by omega), h.bel.trans (k.below (by omega)), by rw [k.size]; exact h.siz⟩
theorem Lst.old8 {S : Nat → Prop} {W : World} {v : Value} {l : List Int} (h : Lst S W v l) : Lst (fun g => S g ∧ g < W.heap.size) W v l := by
  obtain ⟨a, c, h1, h2, h3⟩ := h
  refine ⟨a, c, h1, h2, h3.imp_right ?_⟩
  rintro ⟨g, cs, fr, e, hS, hg, hc⟩
  exact ⟨g, cs, fr, e, ⟨hS, (Array.getElem?_eq_some_iff.1 hg).1⟩, hg, hc⟩
set_option maxHeartbeats 4000000 in
theorem one_else (w : World) (c : Array Value) (v : Value) (l : List Int) (D I J X K N : Int) (hr : RL w c l) (hl : Lst (fun _ => True) w v l) (h0 : ¬ D = 0) (h1 : ¬ D = 1) (h2 : ¬ D = 2) (h3 : ¬ D = 3) (h6 : ¬ D = 6) : One8 w c v (D, I, J, X, K, N) l := by
  unfold One8
  obtain ⟨w4, hw4⟩ : ∃ w4, (((w.alloc (.cells c 35)).alloc (.cells (op8C (D, I, J, X, K, N)) 57)).alloc (.cells zeroR 35)).alloc (.cells zeroR 35) = w4 := ⟨_, rfl⟩
  have H4 := Lib.hid (fr8_new w c (D, I, J, X, K, N) hw4)
  have HS := Lib.hid hr.size
  have HR4 := Lib.hid (hr.later (hb := by subst hw4; exact Below.more (Below.more (Below.more (Below.newly' _ _) _) _) _) : RL w4 c l)
  have HONE := Lib.hid hr.one
  have e0 : (D == 0) = false := beq_eq_false_iff_ne.2 h0
  have e1 : (D == 1) = false := beq_eq_false_iff_ne.2 h1
  have e2 : (D == 2) = false := beq_eq_false_iff_ne.2 h2
  have e3 : (D == 3) = false := beq_eq_false_iff_ne.2 h3
  have e6 : (D == 6) = false := beq_eq_false_iff_ne.2 h6
  have HI := Lib.hid (hl.later H4.out.bel)
  obtain ⟨a, cp, rfl, _⟩ := hl.shape
  obtain ⟨n, hn⟩ : ∃ n, n = l.length := ⟨_, rfl⟩
  rw [← hn] at HI ⊢
  have q0 : w4.cell? ⟨w.heap.size + 1, 0, none⟩ = some (.int .i64 D) := cell_in H4.out.op rfl
  clear hr hl hn
  go_enter Try.func26, Try.ntmps26
  go_upto_region 4 with fail
  simp only [zeroR] at hw4
  rw [hw4]
  clear hw4
  go_wp2_with (first
    | (refine ld_if (by rfl) 35 _ rfl w.heap.size rfl 35 _ _ _ H4.out.box Try.underlying35 rfl (by rw [HS.out]; exact rope_size) ?_)
    | (refine st_agg rfl 35 _ _ rfl (w.heap.size + 1 + 1) c rfl rfl 35 _ H4.out.out (by rw [HS.out]; exact rope_size) (by rw [HS.out]; rfl) HONE.out ?_; intro wz hz kz))
  refine bodyPost_ret (results_cell_row2 rfl _ _ (w.heap.size + 1 + 1) 35 _ (0, 0) _ rfl hz Try.underlying35 rfl (by rw [HS.out]; exact rope_size)) rfl ⟨_, _, rfl, ?_, ?_, ?_⟩
  · exact HR4.out.but kz H4.out.out (by decide) (by decide)
  · exact HI.out.but kz H4.out.out (by decide)
  · exact H4.out.bel.trans (kz.below (by omega))
set_option maxHeartbeats 4000000 in
theorem one_slice (w : World) (c : Array Value) (v : Value) (l : List Int) (I J X K N : Int) (hr : RL w c l) (hl : Lst (fun _ => True) w v l) (hI : InR I) (hJ : InR J) (hN : l.length ≤ 40000) : One8 w c v (3, I, J, X, K, N) (cutL l I J) := by
  unfold One8
  obtain ⟨w4, hw4⟩ : ∃ w4, (((w.alloc (.cells c 35)).alloc (.cells (op8C (3, I, J, X, K, N)) 57)).alloc (.cells zeroR 35)).alloc (.cells zeroR 35) = w4 := ⟨_, rfl⟩
  have H4 := Lib.hid (fr8_new w c (3, I, J, X, K, N) hw4)
  have HS := Lib.hid hr.size
  have HR4 := Lib.hid (hr.later (hb := by subst hw4; exact Below.more (Below.more (Below.more (Below.newly' _ _) _) _) _) : RL w4 c l)
  obtain ⟨w5, hw5⟩ : ∃ w5, w5 = w4.drew := ⟨_, rfl⟩
  have hd5 : Below w4.heap.size w4 w5 := by rw [hw5]; exact drawn_below w4
  have H5 := Lib.hid (H4.out.later hd5)
  have K5 := Lib.hid (And.intro H5.out.box (And.intro (cell_in (j := 1) (v := .int .i64 I) H5.out.op rfl) (cell_in (j := 2) (v := .int .i64 J) H5.out.op rfl)))
  have HC1 := Lib.hid (rp_Slice w5 (HR4.out.later hd5) I J hI hJ (by omega))
  have HC2 := Lib.hid (fun V (h : Below w.heap.size w V) => ref_Slice v l I J V (hl.later h).cutI hI hJ (by omega))
  obtain ⟨a, cp, rfl, _⟩ := hl.shape
  obtain ⟨l', hl'⟩ : ∃ l', l' = cutL l I J := ⟨_, rfl⟩
  rw [← hl'] at HC1 HC2 ⊢
  have q0 : w4.cell? ⟨w.heap.size + 1, 0, none⟩ = some (.int .i64 3) := cell_in H4.out.op rfl
  clear hr hl hI hJ hN hl' hd5
  go_enter Try.func26, Try.ntmps26
  go_upto_region 4 with fail
  simp only [zeroR] at hw4
  rw [hw4]
  clear hw4
  go_upto_region 16 with fail
  refine wp_region_T (S := fun V => V.heap[w.heap.size]? = some (.cells c 35 (0, 0)) ∧ V.cell? ⟨w.heap.size + 1, 1, none⟩ = some (.int .i64 I) ∧ V.cell? ⟨w.heap.size + 1, 2, none⟩ = some (.int .i64 J)) [12, 13] (by kernel_rfl) (by rw [← hw5]; exact K5.out) (fun hHeld => ?_)
  rw [← hw5] at hHeld ⊢
  clear hw5
  refine wpAnyT_take (i := 0) (oi := ⟨some 77, _, _, _, _, _⟩) (v := _) rfl (by kernel_rfl) (by kernel_rfl) (by kernel_rfl) (by kernel_rfl) (fun _ _ _ h => h) (yieldsIf_load_row (by rfl) 35 _ rfl w.heap.size rfl c 35 (0, 0) _ (fun w hw => hw.1) Try.underlying35 rfl (by rw [HS.out]; exact rope_size)) (by assumption) ?_
  (try simp only [Act.put, List.setIfInBounds_toArray, List.set_cons_zero, List.set_cons_succ])
  refine wpAnyT_take (i := 1) (oi := ⟨some 78, _, _, _, _, _⟩) (v := ?vg4_1) rfl (by kernel_rfl) (by kernel_rfl) (by kernel_rfl) (by kernel_rfl) (fun _ _ _ h => h) (Or.inl ⟨by rfl, ?hg4_1⟩) (by assumption) ?rg4_1
  case hg4_1 => (intro w hSw; (try dsimp only at hSw); first | (go_simp; done) | (go_simp; with_reducible rfl))
  (try simp only [Act.put, List.setIfInBounds_toArray, List.set_cons_zero, List.set_cons_succ])
  refine wpAnyT_take (i := 2) (oi := ⟨some 79, _, _, _, _, _⟩) (v := ?vg4_2) rfl (by kernel_rfl) (by kernel_rfl) (by kernel_rfl) (by kernel_rfl) (fun _ _ _ h => h) (Or.inl ⟨by rfl, ?hg4_2⟩) (by assumption) ?rg4_2
  case hg4_2 => (intro w hSw; (try dsimp only at hSw); first | (go_simp; done) | (go_simp; with_reducible rfl))
  (try simp only [Act.put, List.setIfInBounds_toArray, List.set_cons_zero, List.set_cons_succ])
  refine wpAnyT_take (i := 3) (oi := ⟨some 80, _, _, _, _, _⟩) (v := ?vg4_3) rfl (by kernel_rfl) (by kernel_rfl) (by kernel_rfl) (by kernel_rfl) (fun _ _ _ h => h) (Or.inl ⟨by rfl, ?hg4_3⟩) (by assumption) ?rg4_3
  case hg4_3 => (intro w hSw; (try dsimp only at hSw); first | (go_simp; done) | (go_simp; with_reducible rfl))
  (try simp only [Act.put, List.setIfInBounds_toArray, List.set_cons_zero, List.set_cons_succ])
  refine wpAnyT_take (i := 4) (oi := ⟨some 81, _, _, _, _, _⟩) (v := ?vg4_4) rfl (by kernel_rfl) (by kernel_rfl) (by kernel_rfl) (by kernel_rfl) (fun _ _ _ h => h) (Or.inl ⟨by rfl, ?hg4_4⟩) (by assumption) ?rg4_4
  case hg4_4 => (intro w hSw; (try dsimp only at hSw); first | (go_simp; done) | (go_simp; with_reducible rfl))
  (try simp only [Act.put, List.setIfInBounds_toArray, List.set_cons_zero, List.set_cons_succ])
  refine wpAnyT_take (i := 6) (oi := ⟨some 83, _, _, _, _, _⟩) (v := ?vg4_6) rfl (by kernel_rfl) (by kernel_rfl) (by kernel_rfl) (by kernel_rfl) (fun _ _ _ h => h) (Or.inl ⟨by rfl, ?hg4_6⟩) (by assumption) ?rg4_6
  case hg4_6 => (intro w hSw; (try dsimp only at hSw); first | (go_simp; done) | (go_simp; with_reducible rfl))
  (try simp only [Act.put, List.setIfInBounds_toArray, List.set_cons_zero, List.set_cons_succ])
  refine wpAnyT_take (i := 7) (oi := ⟨some 84, _, _, _, _, _⟩) (v := ?vg4_7) rfl (by kernel_rfl) (by kernel_rfl) (by kernel_rfl) (by kernel_rfl) (fun _ _ _ h => h) (Or.inl ⟨by rfl, ?hg4_7⟩) (by assumption) ?rg4_7
  case hg4_7 => (intro w hSw; (try dsimp only at hSw); first | (go_simp; done) | (go_simp; with_reducible rfl))
  (try simp only [Act.put, List.setIfInBounds_toArray, List.set_cons_zero, List.set_cons_succ])
  refine wpAnyT_take (i := 8) (oi := ⟨some 85, _, _, _, _, _⟩) (v := ?vg4_8) rfl (by kernel_rfl) (by kernel_rfl) (by kernel_rfl) (by kernel_rfl) (fun _ _ _ h => h) (Or.inl ⟨by rfl, ?hg4_8⟩) (by assumption) ?rg4_8
  case hg4_8 => (intro w hSw; (try dsimp only at hSw); first | (go_simp; done) | (go_simp; with_reducible rfl))
  (try simp only [Act.put, List.setIfInBounds_toArray, List.set_cons_zero, List.set_cons_succ])
  refine wpAnyT_take (i := 9) (oi := ⟨some 86, _, _, _, _, _⟩) (v := ?vg4_9) rfl (by kernel_rfl) (by kernel_rfl) (by kernel_rfl) (by kernel_rfl) (fun _ _ _ h => h) (Or.inl ⟨by rfl, ?hg4_9⟩) (by assumption) ?rg4_9
  case hg4_9 => (intro w hSw; (try dsimp only at hSw); first | (go_simp; done) | (go_simp; with_reducible rfl))
  (try simp only [Act.put, List.setIfInBounds_toArray, List.set_cons_zero, List.set_cons_succ])
  refine wpAnyT_take (i := 10) (oi := ⟨some 87, _, _, _, _, _⟩) (v := ?vg4_10) rfl (by kernel_rfl) (by kernel_rfl) (by kernel_rfl) (by kernel_rfl) (fun _ _ _ h => h) (Or.inl ⟨by rfl, ?hg4_10⟩) (by assumption) ?rg4_10
  case hg4_10 => (intro w hSw; (try dsimp only at hSw); first | (go_simp; done) | (go_simp; with_reducible rfl))
  (try simp only [Act.put, List.setIfInBounds_toArray, List.set_cons_zero, List.set_cons_succ])
  refine wpAnyT_one (i := 5) (o := ⟨some 82, _, _, _, _, _⟩) (by kernel_rfl) rfl (fun K hK => ?_)
  go_simp
  go_at_call 22
  refine HC1.out.mono ?_
  rintro e w6 ⟨c6, rfl, hr6, hb6⟩
  have H6 := Lib.hid (H5.out.later hb6)
  have R6 := Lib.hid hr6.rl
  have K6 := Lib.hid (And.intro H6.out.box (And.intro (cell_in (j := 1) (v := .int .i64 I) H6.out.op rfl) (cell_in (j := 2) (v := .int .i64 J) H6.out.op rfl)))
  clear hr6 hb6
  (try dsimp only)
  refine hK.out _ _ (by first | exact K7.out | exact K6.out | exact K5.out) (fun hHeld => ?_)
  clear hK K
  (try simp only [Act.put, List.setIfInBounds_toArray, List.set_cons_zero, List.set_cons_succ])
  refine wpAnyT_one (i := 11) (o := ⟨some 88, _, _, _, _, _⟩) (by kernel_rfl) rfl (fun K hK => ?_)
  go_simp
  go_at_call 43
  refine (HC2.out w6 H6.out.bel).mono ?_
  rintro e w7 ⟨v7, rfl, hi7, hb7⟩
  have H7 := Lib.hid (H6.out.later hb7)
  have R7 := Lib.hid (R6.out.later hb7)
  have I7 := Lib.hid hi7.any
  have K7 := Lib.hid (And.intro H7.out.box (And.intro (cell_in (j := 1) (v := .int .i64 I) H7.out.op rfl) (cell_in (j := 2) (v := .int .i64 J) H7.out.op rfl)))
  clear hi7 hb7
  (try dsimp only)
  refine hK.out _ _ (by first | exact K7.out | exact K6.out | exact K5.out) (fun hHeld => ?_)
  clear hK K
  (try simp only [Act.put, List.setIfInBounds_toArray, List.set_cons_zero, List.set_cons_succ])
  refine wpAnyT_last (i := 12) (o := ⟨none, _, _, _, _, _⟩) (by kernel_rfl) (by decide) rfl (fun K hK => ?_)
  refine st_agg_wp 35 _ _ rfl (w.heap.size + 1 + 1 + 1) c6 rfl rfl 35 _ H7.out.var (by rw [R6.out.size]; exact rope_size) (by rw [R6.out.size]; rfl) R6.out.one ?_
  intro w8 h8 k8
  have H8 := Lib.hid (H7.out.put k8 h8)
  have R8 := Lib.hid (R7.out.but k8 H7.out.var (by decide) (by decide))
  have I8 := Lib.hid (I7.out.but k8 H7.out.var (by decide))
  clear h8 k8
  refine hK.out _ _ ?_
  clear hK K
  (try simp only [Act.put, List.setIfInBounds_toArray, List.set_cons_zero, List.set_cons_succ])
  refine wpAnyT_last (i := 13) (o := ⟨some 10, _, _, _, _, _⟩) (by kernel_rfl) (by decide) rfl (fun K hK => ?_)
  go_simp
  refine hK.out _ _ ?_
  clear hK K
  (try simp only [Act.put, List.setIfInBounds_toArray, List.set_cons_zero, List.set_cons_succ])
  refine wpAnyT_done (by kernel_rfl) ?_ _
  go_wp2_with (first
    | (refine ld_if (by rfl) 35 _ rfl (w.heap.size + 1 + 1 + 1) rfl 35 _ _ _ H8.out.var Try.underlying35 rfl (by rw [R6.out.size]; exact rope_size) ?_)
    | (refine st_agg rfl 35 _ _ rfl (w.heap.size + 1 + 1) c6 rfl rfl 35 _ H8.out.out (by rw [R6.out.size]; exact rope_size) (by rw [R6.out.size]; rfl) R6.out.one ?_; intro wz hz kz))
  refine bodyPost_ret (results_cell_row2 rfl _ _ (w.heap.size + 1 + 1) 35 _ (0, 0) _ rfl hz Try.underlying35 rfl (by rw [R6.out.size]; exact rope_size)) rfl ⟨_, _, rfl, ?_, ?_, ?_⟩
  · exact R8.out.but kz H8.out.out (by decide) (by decide)
  · exact I8.out.but kz H8.out.out (by decide)
  · exact H8.out.bel.trans (kz.below (by omega))
set_option maxHeartbeats 4000000 in
theorem one_of (w : World) (c : Array Value) (v : Value) (l : List Int) (I J X K N : Int) (hr : RL w c l) (hl : Lst (fun _ => True) w v l) (hn : N ≤ 1000) : One8 w c v (6, I, J, X, K, N) (runL X N.toNat) := by
  unfold One8
  obtain ⟨w4, hw4⟩ : ∃ w4, (((w.alloc (.cells c 35)).alloc (.cells (op8C (6, I, J, X, K, N)) 57)).alloc (.cells zeroR 35)).alloc (.cells zeroR 35) = w4 := ⟨_, rfl⟩
  have H4 := Lib.hid (fr8_new w c (6, I, J, X, K, N) hw4)
  have HS := Lib.hid hr.size
  have HR4 := Lib.hid (hr.later (hb := by subst hw4; exact Below.more (Below.more (Below.more (Below.newly' _ _) _) _) _) : RL w4 c l)
  have HRUN := Lib.hid (ref_Run X N (by omega) w4)
  obtain ⟨r, hr'⟩ : ∃ r, r = runL X N.toNat := ⟨_, rfl⟩
  rw [← hr'] at HRUN ⊢
  have HRL : Hid (r.length ≤ 1000) := by show _ ≤ _; rw [hr', runL_len]; omega
  obtain ⟨a, cp, rfl, _⟩ := hl.shape
  have q0 : w4.cell? ⟨w.heap.size + 1, 0, none⟩ = some (.int .i64 6) := cell_in H4.out.op rfl
  have q3 : w4.cell? ⟨w.heap.size + 1, 3, none⟩ = some (.int .i64 X) := cell_in H4.out.op rfl
  have q5 : w4.cell? ⟨w.heap.size + 1, 5, none⟩ = some (.int .i64 N) := cell_in H4.out.op rfl
  clear hr hl hn hr'
  go_enter Try.func26, Try.ntmps26
  go_upto_region 4 with fail
  simp only [zeroR] at hw4
  rw [hw4]
  clear hw4
  go_upto_region 21 with (first
    | (go_at_call 17; (with_reducible refine HRUN.out.mono ?_); rintro e w5 ⟨v5, rfl, hi5, hb5⟩; have H5 := Lib.hid (H4.out.later hb5); have M5 := Lib.hid hi5.lst.old8; have HCP := Lib.hid (ref_Copied v5 r w5 hi5.lst (by have := HRL.out; omega)); clear hb5 hi5)
    | (go_at_call 44; (with_reducible refine HCP.out.mono ?_); rintro e w6 ⟨v6, rfl, hi6, hb6⟩; have H6 := Lib.hid (H5.out.later hb6); have M6 := Lib.hid (M5.out.later hb6); have O6 := Lib.hid hi6; have HOF := Lib.hid (rp_Of w6 v6 r hi6.cutI (by have := HRL.out; omega)); clear hb6 hi6)
    | (go_at_call 16; (with_reducible refine HOF.out.mono ?_); rintro e w7 ⟨c7, rfl, hr7, hb7⟩; have H7 := Lib.hid (H6.out.later hb7); have M7 := Lib.hid (M6.out.later hb7); have O7 := Lib.hid (O6.out.later hb7); have R7 := Lib.hid hr7; clear hb7 hr7)
    | (refine st_agg rfl 35 _ _ rfl (w.heap.size + 1 + 1 + 1) c7 rfl rfl 35 _ H7.out.var (by rw [R7.out.size]; exact rope_size) (by rw [R7.out.size]; rfl) R7.out.one ?_; intro w8 h8 k8; have H8 := Lib.hid (H7.out.put k8 h8); have M8 := Lib.hid (M7.out.but k8 H7.out.var (by decide)); have O8 := Lib.hid (O7.out.grown k8.by_ (.inr (fun e => owns_not O7.out H7.out.var (by decide) e.symm))); have R8 := Lib.hid (R7.out.but k8 H7.out.var (by decide) (by decide)); clear h8 k8))
  obtain ⟨ao, co, rfl, _⟩ := O8.out.lst.shape
  have HGW : Hid (∀ g, (Value.slice ao r.length co).ownBlock = some g → w5.heap.size ≤ g ∧ g < w6.heap.size) := fun g hg => ⟨owns_low O6.out g hg.symm, by
    obtain ⟨⟨_, h2⟩, _⟩ := O6.out
    rcases h2 with ⟨e, _⟩ | ⟨g', cap, cur, e, hB, hgg, _⟩
    · rw [e] at hg; cases hg
    · rw [e] at hg
      obtain rfl : g' = g := by simpa [Value.ownBlock] using hg
      exact (Array.getElem?_eq_some_iff.1 hgg).1⟩
  have HXW : Hid (w.heap.size + 4 ≤ w5.heap.size) := H5.out.siz
  have HCS := Lib.hid (And.intro R7.out.size R7.out.one)
  clear H4 H5 H6 H7 M5 M6 M7 O6 O7 R7 HR4 HCP HOF HRUN q0 q3 q5
  go_wp2_with fail
  go_loopw [102] (fun iv wl => ∃ (k : Nat) (ls : List Int), iv = .int .i64 (k : Int) ∧ Hid (ls.length = r.length) ∧ Hid (Owns w5.heap.size (.slice ao r.length co) ls wl) ∧ Hid (Fr8 w.heap.size w c (6, I, J, X, K, N) c7 wl) ∧ Hid (RootR (fun g => w6.heap.size ≤ g) wl c7 r) ∧ Hid (Lst (fun g => w4.heap.size ≤ g ∧ g < w5.heap.size) wl v5 r)) (fun iv _ => r.length - (intOf iv).toNat)
  case atStart => exact ⟨0, r, rfl, rfl, O8.out, H8.out, R8.out, M8.out⟩
  case round =>
    clear O8 H8 R8 M8
    obtain ⟨k, ls, rfl, HLS, O9, H9, R9, M9⟩ := hrel
    have hr15 : (r.length : Int) ≤ 1000 := by have := HRL.out; omega
    by_cases hlt : (k : Int) < (r.length : Int)
    · have hls := HLS.out
      obtain ⟨g, c5, cs5, ev, hcap, hlow, hg, hsz, hcs⟩ := O9.out.pos (by omega)
      rw [hls] at ev
      simp only [Value.slice.injEq, true_and] at ev
      obtain ⟨rfl, rfl⟩ := ev
      have hgw := HGW.out g (by simp [Value.ownBlock])
      have hcell : wr.cell? ⟨g, k, none⟩ = some (.int .i64 (ls.getD k 0)) := cell_in hg (hcs k (by omega))
      obtain ⟨z, hz⟩ : ∃ z, z = ls.getD k 0 := ⟨_, rfl⟩
      rw [← hz] at hcell
      have HG := Lib.hid hg
      have HSZ := Lib.hid (show k < cs5.size by omega)
      have HGG := Lib.hid hgw
      have hk0 : 0 ≤ (k : Int) := by omega
      clear hg hcs hsz hcap hlow hz hls hgw
      go_wp2_with (refine st_cell rfl 3 _ _ rfl g k _ rfl rfl rfl 3 cs5 HG.out int_size HSZ.out ?_; intro w6' h6 k6)
      go_roundw
      case rel =>
        have hgg := HGG.out
        have hxw := HXW.out
        refine ⟨k + 1, ls.set k (wrap64 (z + 1)), by simp, ?_, ?_, ?_, ?_, ?_⟩
        · show _ = _
          rw [List.length_set]; exact HLS.out
        · exact O9.out.put (c := co) (by rw [HLS.out]) HG.out h6 k6
        · exact H9.out.but k6 (by omega)
        · exact R9.out.kept k6.by_ (fun X e => by cases e; omega)
        · exact M9.out.kept k6.by_ (fun X e => by cases e; omega)
      case measure => simp [intOf]; omega
    · obtain ⟨b5, d5, rfl, _⟩ := M9.out.shape
      go_wp2_with (first
        | (refine ld_if (by rfl) 35 _ rfl (w.heap.size + 1 + 1 + 1) rfl 35 _ _ _ H9.out.var Try.underlying35 rfl (by rw [HCS.out.1]; exact rope_size) ?_)
        | (refine st_agg rfl 35 _ _ rfl (w.heap.size + 1 + 1) c7 rfl rfl 35 _ H9.out.out (by rw [HCS.out.1]; exact rope_size) (by rw [HCS.out.1]; rfl) HCS.out.2 ?_; intro wz hz kz))
      refine bodyPost_ret (results_cell_row2 rfl _ _ (w.heap.size + 1 + 1) 35 _ (0, 0) _ rfl hz Try.underlying35 rfl (by rw [HCS.out.1]; exact rope_size)) rfl ⟨_, _, rfl, ?_, ?_, ?_⟩
      · exact RL.but R9.out.rl kz H9.out.out (by decide) (by decide)
      · exact (M9.out.but kz H9.out.out (by decide)).weak fun _ _ => trivial
      · exact H9.out.bel.trans (kz.below (by omega))
theorem one8 (w : World) (c : Array Value) (v : Value) (l : List Int) (o : Op8) (hr : RL w c l) (hl : Lst (fun _ => True) w v l) (hI : InR o.2.1) (hJ : InR o.2.2.1) (hn : o.2.2.2.2.2 ≤ 1000) (hN : l.length ≤ 40000) : One8 w c v o (do8 l o) := by
  obtain ⟨D, I, J, X, K, N⟩ := o
  simp only at hI hJ hn
  unfold do8
  simp only
  by_cases h0 : D = 0
  · subst h0
    rw [if_pos rfl]
    by_cases hi : 0 ≤ I ∧ I ≤ l.length
    · rw [if_pos hi]
      obtain ⟨i, rfl⟩ : ∃ i : Nat, I = (i : Int) := ⟨I.toNat, by omega⟩
      rw [Int.toNat_natCast]
      exact one_insert w c v l i J X K N hr hl (by omega) hN
    · rw [if_neg hi]
      exact one_insert_out w c v l I J X K N hr hl hi hN
  rw [if_neg h0]
  by_cases h1 : D = 1
  · subst h1
    rw [if_pos rfl]
    by_cases hi : 0 ≤ I ∧ I < l.length
    · rw [if_pos hi]
      obtain ⟨i, rfl⟩ : ∃ i : Nat, I = (i : Int) := ⟨I.toNat, by omega⟩
      rw [Int.toNat_natCast]
      exact one_set w c v l i J X K N hr hl (by omega) hN
    · rw [if_neg hi]
      exact one_set_out w c v l I J X K N hr hl hi hN
  rw [if_neg h1]
  by_cases h2 : D = 2
  · subst h2
    rw [if_pos rfl]
    by_cases hi : 0 ≤ I ∧ I < l.length
    · rw [if_pos hi]
      obtain ⟨i, rfl⟩ : ∃ i : Nat, I = (i : Int) := ⟨I.toNat, by omega⟩
      rw [Int.toNat_natCast]
      exact one_remove w c v l i J X K N hr hl (by omega) hN
    · rw [if_neg hi]
      exact one_remove_out w c v l I J X K N hr hl hi hN
  rw [if_neg h2]
  by_cases h3 : D = 3
  · subst h3
    rw [if_pos rfl]
    exact one_slice w c v l I J X K N hr hl hI hJ hN
  rw [if_neg h3]
  by_cases h6 : D = 6
  · subst h6
    rw [if_pos rfl]
    exact one_of w c v l I J X K N hr hl hn
  rw [if_neg h6]
  exact one_else w c v l D I J X K N hr hl h0 h1 h2 h3 h6
/-- How long the list is at most. -/
theorem do8_len (l : List Int) (o : Op8) (hn : o.2.2.2.2.2 ≤ 1000) : (do8 l o).length ≤ max (l.length + 1) 1000 := by
  obtain ⟨D, I, J, X, K, N⟩ := o
  simp only at hn
  unfold do8
  simp only
  split
  · split
    · unfold insL; rw [List.length_append, List.length_take, List.length_cons, List.length_drop]; omega
    · omega
  split
  · split
    · rw [List.length_set]; omega
    · omega
  split
  · split
    · unfold remL; rw [List.length_append, List.length_take, List.length_drop]; omega
    · omega
  split
  · obtain ⟨a, b, ha, hb, hab, hbn⟩ := cut_nat I J l.length
    unfold cutL
    rw [ha, hb, Int.toNat_natCast, Int.toNat_natCast, piece_len hbn]
    omega
  split
  · rw [runL_len]; omega
  · omega
end Go.Proofs.Ytldemoflgahdgaa
