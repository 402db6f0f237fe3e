/- Package rope: Set, Insert. -/
import Derived.Test.YtldemoflgahdgaaRp15
namespace Go.Proofs.Ytldemoflgahdgaa
open Go.RowKit
set_option maxRecDepth 1000000
set_option linter.unusedSimpArgs false

theorem rzero_of {S : Nat → Prop} {W : World} : RootR S W zeroR [] := .inl ⟨rfl, rfl⟩
/-- insert of whatever root. -/
theorem ins_root {S : Nat → Prop} {c : Array Value} {l : List Int} (W : World) (h : RootR S W c l) (i : Nat) (x : Int) (hi : i ≤ l.length) (hN : l.length ≤ 50000) :
    Calls Try.prog 38 #[.agg c, .int .i64 (i : Int), .int .i64 x] W fun e W' => ∃ v, e = .returned v ∧ ∃ (hh : Nat) (ks : List Kid), NodesR (fun g => S g ∨ W.heap.size ≤ g) W' hh v ks ∧ catK ks = insL l i x ∧ Wide hh ks ∧ Below W.heap.size W W' := by
  rcases h with ⟨rfl, rfl⟩ | ⟨h, p, rfl, rfl, h3, h4⟩
  · refine (ins_leaf 0 S W (.slice none 0 0) [] i x ⟨rfl, .inl ⟨rfl, rfl⟩⟩ (by simp) hi).mono ?_
    rintro e W' ⟨v, rfl, ks, h1, h2, h3, h4⟩
    exact ⟨v, rfl, 0, ks, h1.weak fun g hg => .inr hg, h2, fun p hp => ⟨(h3.2 p hp).1, fun _ => .inl rfl⟩, h4⟩
  · refine (rp_insert h S W p i x (min 2 p.k) h3 hi hN (by omega) (by omega)).mono ?_
    rintro e W' ⟨v, rfl, ks, h1, h2, h5, h6, h7⟩
    exact ⟨v, rfl, h, ks, h1, h2, fun y hy => ⟨(h6 y hy).2, fun _ => h4.imp_right fun h4 => by have := (h6 y hy).1; omega⟩, h7⟩
/-- slice of whatever root. -/
theorem sli_root {S : Nat → Prop} {c : Array Value} {l : List Int} (W : World) (h : RootR S W c l) (lo hi : Nat) (h1 : lo ≤ hi) (h2 : hi ≤ l.length) (hN : l.length ≤ 50000) :
    Calls Try.prog 35 #[.agg c, .int .i64 (lo : Int), .int .i64 (hi : Int)] W fun e W' => ∃ c', e = .returned (.agg c') ∧ RootR (fun g => S g ∨ W.heap.size ≤ g) W' c' (pieceL l lo hi) ∧ Below W.heap.size W W' := by
  rcases h with ⟨rfl, rfl⟩ | ⟨h, p, rfl, rfl, h3, h4⟩
  · obtain rfl : hi = 0 := by simpa using h2
    obtain rfl : lo = 0 := by omega
    rw [show pieceL [] 0 0 = [] from rfl]
    exact sli_none S W zeroR 0
  · exact rp_slice h S W p lo hi h3 h4 h1 h2 hN
set_option maxHeartbeats 2000000 in
theorem rp_Set {S : Nat → Prop} {c : Array Value} {l : List Int} (W : World) (h : RootR S W c l) (i : Nat) (x : Int) (hi : i < l.length) (hN : l.length ≤ 200000) :
    Calls Try.prog 40 #[.agg c, .int .i64 (i : Int), .int .i64 x] W fun e W' => ∃ c', e = .returned (.tuple #[.agg c', .int .i64 0]) ∧ RootR (fun g => S g ∨ W.heap.size ≤ g) W' c' (l.set i x) ∧ Below W.heap.size W W' := by
  obtain ⟨w2, hw2⟩ : ∃ w2, (W.alloc (.cells c 35)).alloc (.cells #[.int .i64 0, .int .i64 0, .slice none 0 0, .slice none 0 0] 35) = w2 := ⟨_, rfl⟩
  obtain ⟨hb2, hx2, hy2, hs2⟩ := two_new hw2
  have HX2 := Lib.hid hx2
  have HY2 := Lib.hid hy2
  have HB2 := Lib.hid hb2
  have HS2 := Lib.hid hs2
  have HS := Lib.hid h.size
  have HH := Lib.hid (rp_has w2 (h.later hb2) (i : Int))
  rw [show decide (0 ≤ (i : Int) ∧ (i : Int) < l.length) = true by simp; omega] at HH
  have HSET : Hid (∀ V, Below W.heap.size W V → Calls Try.prog 49 #[.agg c, .int .i64 (i : Int), .int .i64 x] V fun e W' => ∃ c', e = .returned (.agg c') ∧ RootR (fun g => (S g ∧ g < W.heap.size) ∨ V.heap.size ≤ g) W' c' (l.set i x) ∧ Below V.heap.size V W') := by
    intro V hV
    rcases h.old with ⟨rfl, rfl⟩ | ⟨hh, p, rfl, rfl, h3, h4⟩
    · simp at hi
    · refine (rp_set hh _ V p i x (h3.later hV) hi hN).mono ?_
      rintro e W' ⟨c', rfl, p', rfl, e1, e2, h5, h6⟩
      exact ⟨_, rfl, .inr ⟨hh, p', rfl, e1, h5, by rw [e2]; exact h4⟩, h6⟩
  obtain ⟨l', hl'⟩ : ∃ l', l' = l.set i x := ⟨_, rfl⟩
  rw [← hl'] at HSET ⊢
  clear hb2 hx2 hy2 hs2 h hi hN hl'
  go_enter Try.func40, Try.ntmps40
  go_upto_region 1 with fail
  clear hw2
  go_wp2_with (first
    | (refine ld_if rfl 35 _ rfl W.heap.size rfl 35 _ _ _ HX2.out Try.underlying35 rfl (by rw [HS.out]; exact rope_size) ?_)
    | (go_at_call 28
       refine HH.out.mono ?_
       rintro e w3 ⟨rfl, hb3⟩
       have HX3 := Lib.hid ((hb3.block W.heap.size (by have := HS2.out; omega)).trans HX2.out)
       have HY3 := Lib.hid ((hb3.block (W.heap.size + 1) (by have := HS2.out; omega)).trans HY2.out)
       have HB3 := Lib.hid (HB2.out.trans (hb3.mono HB2.out.size))
       have HS3 : Hid (W.heap.size + 2 ≤ w3.heap.size) := (by have h1 := HS2.out; have h2 := hb3.size; show _ ≤ _; omega)
       clear hb3)
    | (refine ld_if rfl 33 _ rfl W.heap.size rfl 35 _ _ _ HX3.out Try.underlying33 rfl (by rw [HS.out]; exact rnode_size) ?_)
    | (go_at_call 49
       refine (HSET.out _ HB3.out).mono ?_
       rintro e w4 ⟨c4, rfl, hr4, hb4⟩
       obtain ⟨y0, y1, q1, n1, c1, q2, n2, c2, rfl⟩ := hr4.four
       have HR4 := Lib.hid hr4
       have HY4 := Lib.hid ((hb4.block (W.heap.size + 1) (by have := HS3.out; omega)).trans HY3.out)
       have HB4 := Lib.hid hb4
       clear hr4 hb4)
    | (refine st_agg rfl 35 _ _ rfl (W.heap.size + 1) _ rfl rfl 35 _ HY4.out rope_size rfl (one4 rfl rfl rfl rfl) ?_; intro w5 h5 k5))
  refine bodyPost_ret (results_cell_row1 rfl _ _ (W.heap.size + 1) 35 _ (0, 0) _ rfl h5 Try.underlying35 rfl rope_size) rfl ⟨_, rfl, ?_, ?_⟩
  · have hs3 := HS3.out
    refine (HR4.out.kept k5.by_ (fun X e => by cases e; rintro (⟨_, h⟩ | h) <;> omega)).weak fun g hg => ?_
    rcases hg with hg | hg
    · exact .inl hg.1
    · exact .inr (by omega)
  · have hs3 := HS3.out
    exact (HB3.out.trans (HB4.out.mono (by omega))).trans (k5.below (by omega))
set_option maxHeartbeats 2000000 in
theorem rp_Set_out {S : Nat → Prop} {c : Array Value} {l : List Int} (W : World) (h : RootR S W c l) (i : Int) (x : Int) (hi : ¬ (0 ≤ i ∧ i < l.length)) :
    Calls Try.prog 40 #[.agg c, .int .i64 i, .int .i64 x] W fun e W' => e = .returned (.tuple #[.agg zeroR, .int .i64 4]) ∧ Below W.heap.size W W' := by
  obtain ⟨w2, hw2⟩ : ∃ w2, (W.alloc (.cells c 35)).alloc (.cells #[.int .i64 0, .int .i64 0, .slice none 0 0, .slice none 0 0] 35) = w2 := ⟨_, rfl⟩
  obtain ⟨hb2, hx2, hy2, hs2⟩ := two_new hw2
  have HX2 := Lib.hid hx2
  have HY2 := Lib.hid hy2
  have HB2 := Lib.hid hb2
  have HS2 := Lib.hid hs2
  have HS := Lib.hid h.size
  have HH := Lib.hid (rp_has w2 (h.later hb2) i)
  rw [show decide (0 ≤ i ∧ i < l.length) = false by simpa using hi] at HH
  clear hb2 hx2 hy2 hs2 h hi
  go_enter Try.func40, Try.ntmps40
  go_upto_region 1 with fail
  clear hw2
  go_wp2_with (first
    | (refine ld_if rfl 35 _ rfl W.heap.size rfl 35 _ _ _ HX2.out Try.underlying35 rfl (by rw [HS.out]; exact rope_size) ?_)
    | (go_at_call 28
       refine HH.out.mono ?_
       rintro e w3 ⟨rfl, hb3⟩
       have HY3 := Lib.hid ((hb3.block (W.heap.size + 1) (by have := HS2.out; omega)).trans HY2.out)
       have HB3 := Lib.hid (HB2.out.trans (hb3.mono HB2.out.size))
       clear hb3)
    | (refine st_agg rfl 35 _ _ rfl (W.heap.size + 1) zeroR rfl rfl 35 _ HY3.out rope_size rfl (one4 rfl rfl rfl rfl) ?_; intro w5 h5 k5))
  exact bodyPost_ret (results_cell_row1 rfl _ _ (W.heap.size + 1) 35 _ (0, 0) _ rfl h5 Try.underlying35 rfl rope_size) rfl ⟨rfl, HB3.out.trans (k5.below (by omega))⟩
set_option maxHeartbeats 2000000 in
theorem rp_Insert_mid {S : Nat → Prop} {c : Array Value} {l : List Int} (W : World) (h : RootR S W c l) (i : Nat) (x : Int) (hi : i < l.length) (hN : l.length ≤ 50000) :
    Calls Try.prog 24 #[.agg c, .int .i64 (i : Int), .int .i64 x] W fun e W' => ∃ c', e = .returned (.tuple #[.agg c', .int .i64 0]) ∧ RootR (fun g => S g ∨ W.heap.size ≤ g) W' c' (insL l i x) ∧ Below W.heap.size W W' := by
  obtain ⟨w2, hw2⟩ : ∃ w2, (W.alloc (.cells c 35)).alloc (.cells #[.int .i64 0, .int .i64 0, .slice none 0 0, .slice none 0 0] 35) = w2 := ⟨_, rfl⟩
  obtain ⟨hb2, hx2, hy2, hs2⟩ := two_new hw2
  have HX2 := Lib.hid hx2
  have HY2 := Lib.hid hy2
  have HB2 := Lib.hid hb2
  have HS2 := Lib.hid hs2
  have HS := Lib.hid h.size
  have HH := Lib.hid (rp_has w2 (h.later hb2) (i : Int))
  rw [show decide (0 ≤ (i : Int) ∧ (i : Int) < l.length) = true by simp; omega] at HH
  have HINS := Lib.hid (fun V (hV : Below W.heap.size W V) => ins_root V (h.old.later hV) i x (by omega) hN)
  have HLL : Hid ((insL l i x).length ≤ 100000) := by show _ ≤ _; unfold insL; rw [List.length_append, List.length_take, List.length_cons, List.length_drop]; omega
  obtain ⟨l', hl'⟩ : ∃ l', l' = insL l i x := ⟨_, rfl⟩
  rw [← hl'] at HINS HLL ⊢
  clear hb2 hx2 hy2 hs2 h hi hN hl'
  go_enter Try.func24, Try.ntmps24
  go_upto_region 1 with fail
  clear hw2
  go_wp2_with (first
    | (refine ld_if rfl 35 _ rfl W.heap.size rfl 35 _ _ _ HX2.out Try.underlying35 rfl (by rw [HS.out]; exact rope_size) ?_)
    | (go_at_call 28
       refine HH.out.mono ?_
       rintro e w3 ⟨rfl, hb3⟩
       have HX3 := Lib.hid ((hb3.block W.heap.size (by have := HS2.out; omega)).trans HX2.out)
       have HY3 := Lib.hid ((hb3.block (W.heap.size + 1) (by have := HS2.out; omega)).trans HY2.out)
       have HB3 := Lib.hid (HB2.out.trans (hb3.mono HB2.out.size))
       have HS3 : Hid (W.heap.size + 2 ≤ w3.heap.size) := (by have h1 := HS2.out; have h2 := hb3.size; show _ ≤ _; omega)
       clear hb3)
    | (refine ld_if rfl 33 _ rfl W.heap.size rfl 35 _ _ _ HX3.out Try.underlying33 rfl (by rw [HS.out]; exact rnode_size) ?_)
    | (go_at_call 38
       refine (HINS.out _ HB3.out).mono ?_
       rintro e w4 ⟨v4, rfl, hh4, ks, hn4, hc4, hf4, hb4⟩
       have HT := Lib.hid (rp_top w4 hh4 v4 ks hn4 hf4 (by rw [hc4]; exact HLL.out))
       rw [hc4] at HT
       obtain ⟨a4, cap4, rfl, _⟩ := hn4.1.shape
       have HY4 := Lib.hid ((hb4.block (W.heap.size + 1) (by have := HS3.out; omega)).trans HY3.out)
       have HB4 := Lib.hid hb4
       clear hn4 hc4 hf4 hb4)
    | (go_at_call 30
       refine HT.out.mono ?_
       rintro e w7 ⟨c7, rfl, hr7, hb7⟩
       obtain ⟨y0, y1, q1, n1, c1, q2, n2, c2, rfl⟩ := hr7.four
       have HR7 := Lib.hid hr7
       have HB7 := Lib.hid hb7
       have HY7 := Lib.hid ((hb7.block (W.heap.size + 1) (by have := HS3.out; have := HB4.out.size; omega)).trans HY4.out)
       clear hr7 hb7)
    | (refine st_agg rfl 35 _ _ rfl (W.heap.size + 1) _ rfl rfl 35 _ HY7.out rope_size rfl (one4 rfl rfl rfl rfl) ?_; intro w5 h5 k5))
  refine bodyPost_ret (results_cell_row1 rfl _ _ (W.heap.size + 1) 35 _ (0, 0) _ rfl h5 Try.underlying35 rfl rope_size) rfl ⟨_, rfl, ?_, ?_⟩
  · have hs3 := HS3.out
    have hs4 := HB4.out.size
    refine (HR7.out.kept k5.by_ (fun X e => by cases e; rintro ((⟨_, h⟩ | h) | h) <;> omega)).weak fun g hg => ?_
    rcases hg with (hg | hg) | hg
    · exact .inl hg.1
    · exact .inr (by omega)
    · exact .inr (by omega)
  · have hs3 := HS3.out
    have hs4 := HB4.out.size
    exact ((HB3.out.trans (HB4.out.mono (by omega))).trans (HB7.out.mono (by omega))).trans (k5.below (by omega))
set_option maxHeartbeats 2000000 in
theorem rp_Insert_end {S : Nat → Prop} {c : Array Value} {l : List Int} (W : World) (h : RootR S W c l) (i : Nat) (x : Int) (hi : i = l.length) (hN : l.length ≤ 50000) :
    Calls Try.prog 24 #[.agg c, .int .i64 (i : Int), .int .i64 x] W fun e W' => ∃ c', e = .returned (.tuple #[.agg c', .int .i64 0]) ∧ RootR (fun g => S g ∨ W.heap.size ≤ g) W' c' (insL l i x) ∧ Below W.heap.size W W' := by
  obtain ⟨w2, hw2⟩ : ∃ w2, (W.alloc (.cells c 35)).alloc (.cells #[.int .i64 0, .int .i64 0, .slice none 0 0, .slice none 0 0] 35) = w2 := ⟨_, rfl⟩
  obtain ⟨hb2, hx2, hy2, hs2⟩ := two_new hw2
  have HX2 := Lib.hid hx2
  have HY2 := Lib.hid hy2
  have HB2 := Lib.hid hb2
  have HS2 := Lib.hid hs2
  have HS := Lib.hid h.size
  have HH := Lib.hid (rp_has w2 (h.later hb2) (i : Int))
  rw [show decide (0 ≤ (i : Int) ∧ (i : Int) < l.length) = false by simp; omega] at HH
  have HLEN := Lib.hid (fun V (hV : Below W.heap.size W V) => rp_Len V (h.later hV))
  rw [← hi] at HLEN
  have HINS := Lib.hid (fun V (hV : Below W.heap.size W V) => ins_root V (h.old.later hV) i x (by omega) hN)
  have HLL : Hid ((insL l i x).length ≤ 100000) := by show _ ≤ _; unfold insL; rw [List.length_append, List.length_take, List.length_cons, List.length_drop]; omega
  obtain ⟨l', hl'⟩ : ∃ l', l' = insL l i x := ⟨_, rfl⟩
  rw [← hl'] at HINS HLL ⊢
  clear hb2 hx2 hy2 hs2 h hi hN hl'
  go_enter Try.func24, Try.ntmps24
  go_upto_region 1 with fail
  clear hw2
  go_wp2_with (first
    | (refine ld_if rfl 35 _ rfl W.heap.size rfl 35 _ _ _ HX2.out Try.underlying35 rfl (by rw [HS.out]; exact rope_size) ?_)
    | (go_at_call 28
       refine HH.out.mono ?_
       rintro e w3 ⟨rfl, hb3⟩
       have HX3 := Lib.hid ((hb3.block W.heap.size (by have := HS2.out; omega)).trans HX2.out)
       have HY3 := Lib.hid ((hb3.block (W.heap.size + 1) (by have := HS2.out; omega)).trans HY2.out)
       have HB3 := Lib.hid (HB2.out.trans (hb3.mono HB2.out.size))
       have HS3 : Hid (W.heap.size + 2 ≤ w3.heap.size) := (by have h1 := HS2.out; have h2 := hb3.size; show _ ≤ _; omega)
       clear hb3)
    | (refine ld_if rfl 35 _ rfl W.heap.size rfl 35 _ _ _ HX3.out Try.underlying35 rfl (by rw [HS.out]; exact rope_size) ?_)
    | (go_at_call 21
       refine (HLEN.out _ HB3.out).mono ?_
       rintro e w6 ⟨rfl, hw6⟩
       have HX6 : Hid (w6.heap[W.heap.size]? = some (.cells c 35 (0, 0))) := (by show _ = _; rw [hw6]; exact ((Below.newly' w3 _).block W.heap.size (by have := HS3.out; omega)).trans HX3.out)
       have HY6 : Hid (w6.heap[W.heap.size + 1]? = some (.cells #[.int .i64 0, .int .i64 0, .slice none 0 0, .slice none 0 0] 35 (0, 0))) := (by show _ = _; rw [hw6]; exact ((Below.newly' w3 _).block (W.heap.size + 1) (by have := HS3.out; omega)).trans HY3.out)
       have HB6 : Hid (Below W.heap.size W w6) := (by show Below _ _ _; rw [hw6]; exact HB3.out.trans ((Below.newly' w3 _).mono HB3.out.size))
       have HS6 : Hid (W.heap.size + 2 ≤ w6.heap.size) := (by have := HS3.out; show _ ≤ _; rw [hw6]; simp; omega)
       clear hw6)
    | (refine ld_if rfl 33 _ rfl W.heap.size rfl 35 _ _ _ HX6.out Try.underlying33 rfl (by rw [HS.out]; exact rnode_size) ?_)
    | (go_at_call 38
       refine (HINS.out _ HB6.out).mono ?_
       rintro e w4 ⟨v4, rfl, hh4, ks, hn4, hc4, hf4, hb4⟩
       have HT := Lib.hid (rp_top w4 hh4 v4 ks hn4 hf4 (by rw [hc4]; exact HLL.out))
       rw [hc4] at HT
       obtain ⟨a4, cap4, rfl, _⟩ := hn4.1.shape
       have HY4 := Lib.hid ((hb4.block (W.heap.size + 1) (by have := HS6.out; omega)).trans HY6.out)
       have HB4 := Lib.hid hb4
       clear hn4 hc4 hf4 hb4)
    | (go_at_call 30
       refine HT.out.mono ?_
       rintro e w7 ⟨c7, rfl, hr7, hb7⟩
       obtain ⟨y0, y1, q1, n1, c1, q2, n2, c2, rfl⟩ := hr7.four
       have HR7 := Lib.hid hr7
       have HB7 := Lib.hid hb7
       have HY7 := Lib.hid ((hb7.block (W.heap.size + 1) (by have := HS6.out; have := HB4.out.size; omega)).trans HY4.out)
       clear hr7 hb7)
    | (refine st_agg rfl 35 _ _ rfl (W.heap.size + 1) _ rfl rfl 35 _ HY7.out rope_size rfl (one4 rfl rfl rfl rfl) ?_; intro w5 h5 k5))
  refine bodyPost_ret (results_cell_row1 rfl _ _ (W.heap.size + 1) 35 _ (0, 0) _ rfl h5 Try.underlying35 rfl rope_size) rfl ⟨_, rfl, ?_, ?_⟩
  · have hs3 := HS6.out
    have hs4 := HB4.out.size
    refine (HR7.out.kept k5.by_ (fun X e => by cases e; rintro ((⟨_, h⟩ | h) | h) <;> omega)).weak fun g hg => ?_
    rcases hg with (hg | hg) | hg
    · exact .inl hg.1
    · exact .inr (by omega)
    · exact .inr (by omega)
  · have hs3 := HS6.out
    have hs4 := HB4.out.size
    exact ((HB6.out.trans (HB4.out.mono (by omega))).trans (HB7.out.mono (by omega))).trans (k5.below (by omega))
set_option maxHeartbeats 2000000 in
theorem rp_Insert_out {S : Nat → Prop} {c : Array Value} {l : List Int} (W : World) (h : RootR S W c l) (i : Int) (x : Int) (hi : ¬ (0 ≤ i ∧ i ≤ l.length)) :
    Calls Try.prog 24 #[.agg c, .int .i64 i, .int .i64 x] W fun e W' => e = .returned (.tuple #[.agg zeroR, .int .i64 4]) ∧ Below W.heap.size W W' := by
  obtain ⟨w2, hw2⟩ : ∃ w2, (W.alloc (.cells c 35)).alloc (.cells #[.int .i64 0, .int .i64 0, .slice none 0 0, .slice none 0 0] 35) = w2 := ⟨_, rfl⟩
  obtain ⟨hb2, hx2, hy2, hs2⟩ := two_new hw2
  have HX2 := Lib.hid hx2
  have HY2 := Lib.hid hy2
  have HB2 := Lib.hid hb2
  have HS2 := Lib.hid hs2
  have HS := Lib.hid h.size
  have HH := Lib.hid (rp_has w2 (h.later hb2) i)
  rw [show decide (0 ≤ i ∧ i < l.length) = false by simp; omega] at HH
  have HLEN := Lib.hid (fun V (hV : Below W.heap.size W V) => rp_Len V (h.later hV))
  obtain ⟨n, hn⟩ : ∃ n, n = l.length := ⟨_, rfl⟩
  rw [← hn] at HLEN hi
  have hne : (i == (n : Int)) = false := beq_eq_false_iff_ne.2 (by omega)
  have hne' : ¬ i = (n : Int) := by omega
  clear hb2 hx2 hy2 hs2 h hi hn
  go_enter Try.func24, Try.ntmps24
  go_upto_region 1 with fail
  clear hw2
  go_wp2_with (first
    | (refine ld_if rfl 35 _ rfl W.heap.size rfl 35 _ _ _ HX2.out Try.underlying35 rfl (by rw [HS.out]; exact rope_size) ?_)
    | (go_at_call 28
       refine HH.out.mono ?_
       rintro e w3 ⟨rfl, hb3⟩
       have HX3 := Lib.hid ((hb3.block W.heap.size (by have := HS2.out; omega)).trans HX2.out)
       have HY3 := Lib.hid ((hb3.block (W.heap.size + 1) (by have := HS2.out; omega)).trans HY2.out)
       have HB3 := Lib.hid (HB2.out.trans (hb3.mono HB2.out.size))
       have HS3 : Hid (W.heap.size + 2 ≤ w3.heap.size) := (by have h1 := HS2.out; have h2 := hb3.size; show _ ≤ _; omega)
       clear hb3)
    | (refine ld_if rfl 35 _ rfl W.heap.size rfl 35 _ _ _ HX3.out Try.underlying35 rfl (by rw [HS.out]; exact rope_size) ?_)
    | (go_at_call 21
       refine (HLEN.out _ HB3.out).mono ?_
       rintro e w6 ⟨rfl, hw6⟩
       have HX6 : Hid (w6.heap[W.heap.size]? = some (.cells c 35 (0, 0))) := (by show _ = _; rw [hw6]; exact ((Below.newly' w3 _).block W.heap.size (by have := HS3.out; omega)).trans HX3.out)
       have HY6 : Hid (w6.heap[W.heap.size + 1]? = some (.cells #[.int .i64 0, .int .i64 0, .slice none 0 0, .slice none 0 0] 35 (0, 0))) := (by show _ = _; rw [hw6]; exact ((Below.newly' w3 _).block (W.heap.size + 1) (by have := HS3.out; omega)).trans HY3.out)
       have HB6 : Hid (Below W.heap.size W w6) := (by show Below _ _ _; rw [hw6]; exact HB3.out.trans ((Below.newly' w3 _).mono HB3.out.size))
       have HS6 : Hid (W.heap.size + 2 ≤ w6.heap.size) := (by have := HS3.out; show _ ≤ _; rw [hw6]; simp; omega)
       clear hw6)
    | (refine st_agg rfl 35 _ _ rfl (W.heap.size + 1) zeroR rfl rfl 35 _ HY6.out rope_size rfl (one4 rfl rfl rfl rfl) ?_; intro w5 h5 k5))
  exact bodyPost_ret (results_cell_row1 rfl _ _ (W.heap.size + 1) 35 _ (0, 0) _ rfl h5 Try.underlying35 rfl rope_size) rfl ⟨rfl, HB6.out.trans (k5.below (by omega))⟩
theorem rp_Insert {S : Nat → Prop} {c : Array Value} {l : List Int} (W : World) (h : RootR S W c l) (i : Nat) (x : Int) (hi : i ≤ l.length) (hN : l.length ≤ 50000) :
    Calls Try.prog 24 #[.agg c, .int .i64 (i : Int), .int .i64 x] W fun e W' => ∃ c', e = .returned (.tuple #[.agg c', .int .i64 0]) ∧ RootR (fun g => S g ∨ W.heap.size ≤ g) W' c' (insL l i x) ∧ Below W.heap.size W W' := by
  rcases Nat.lt_or_ge i l.length with h1 | h1
  · exact rp_Insert_mid W h i x h1 hN
  · exact rp_Insert_end W h i x (by omega) hN
end Go.Proofs.Ytldemoflgahdgaa
