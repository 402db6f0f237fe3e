/- Package rope: has, Depth, Of, Concat, Set. -/
import Derived.Test.YtldemoflgahdgaaRp14
import Derived.Test.YtldemoflgahdgaaRp12
import Derived.Test.YtldemoflgahdgaaSpot
namespace Go.Proofs.Ytldemoflgahdgaa
open Go.RowKit
set_option maxRecDepth 1000000
set_option linter.unusedSimpArgs false

/-- A rope's box, and the box of what comes of it. -/
theorem box_new {W : World} {c : Array Value} {T : TypeId} {w1 : World} (e : W.alloc (.cells c T) = w1) : Below W.heap.size W w1 ∧ w1.heap[W.heap.size]? = some (.cells c T (0, 0)) ∧ w1.heap.size = W.heap.size + 1 := by
  subst e
  exact ⟨Below.newly' _ _, heap_alloc_last _ _, by simp⟩
/-- A rope's four cells, whatever they say. -/
theorem RootR.four {S : Nat → Prop} {W : World} {c : Array Value} {l : List Int} (h : RootR S W c l) : ∃ (x y : Int) (q1 : Option Addr) (n1 c1 : Nat) (q2 : Option Addr) (n2 c2 : Nat), c = #[.int .i64 x, .int .i64 y, .slice q1 n1 c1, .slice q2 n2 c2] := by
  obtain ⟨d, q1, n1, c1, q2, n2, c2, rfl, _⟩ := h.cells
  exact ⟨_, _, _, _, _, _, _, _, rfl⟩
set_option maxHeartbeats 1000000 in
theorem rp_has {S : Nat → Prop} {c : Array Value} {l : List Int} (w : World) (h : RootR S w c l) (i : Int) : Calls Try.prog 28 #[.agg c, .int .i64 i] w fun e w' => e = .returned (.bool (decide (0 ≤ i ∧ i < l.length))) ∧ Below w.heap.size w w' := by
  obtain ⟨w1, hw1⟩ : ∃ w1, w.alloc (.cells c 35) = w1 := ⟨_, rfl⟩
  obtain ⟨hb1, hx1, hs1⟩ := box_new hw1
  have HX1 := Lib.hid hx1
  have HB1 := Lib.hid hb1
  have HS := Lib.hid h.size
  have HLEN := Lib.hid (rp_Len w1 (h.later hb1))
  obtain ⟨n, hn⟩ : ∃ n, n = l.length := ⟨_, rfl⟩
  rw [← hn] at HLEN ⊢
  clear h hb1 hx1 hs1 hn
  by_cases h0 : 0 ≤ i
  · by_cases h1 : i < n
    · rw [show decide (0 ≤ i ∧ i < n) = true by simp [h0, h1]]
      go_enter Try.func28, Try.ntmps28
      go_upto_region 1 with fail
      clear hw1
      go_wp2_with (first
        | (refine ld_if rfl 35 _ rfl w.heap.size rfl 35 _ _ _ HX1.out Try.underlying35 rfl (by rw [HS.out]; exact rope_size) ?_)
        | (go_at_call 21; refine HLEN.out.mono ?_; rintro e w2 ⟨rfl, rfl⟩))
      go_ret
      exact ⟨rfl, HB1.out.trans ((Below.newly' _ _).mono HB1.out.size)⟩
    · rw [show decide (0 ≤ i ∧ i < n) = false by simp [h1]]
      go_enter Try.func28, Try.ntmps28
      go_upto_region 1 with fail
      clear hw1
      go_wp2_with (first
        | (refine ld_if rfl 35 _ rfl w.heap.size rfl 35 _ _ _ HX1.out Try.underlying35 rfl (by rw [HS.out]; exact rope_size) ?_)
        | (go_at_call 21; refine HLEN.out.mono ?_; rintro e w2 ⟨rfl, rfl⟩))
      go_ret
      exact ⟨by show Ending.returned (Value.bool (decide (i < (n : Int)))) = _; simp [h1], HB1.out.trans ((Below.newly' _ _).mono HB1.out.size)⟩
  · rw [show decide (0 ≤ i ∧ i < n) = false by simp [h0]]
    go_enter Try.func28, Try.ntmps28
    go_wp2_with fail
    go_ret
    exact ⟨rfl, HB1.out⟩
/-- How deep a rope of n things may be. -/
def DepthOk (d n : Nat) : Prop := d ≤ n ∧ (d = 0 ↔ n = 0) ∧ (2 ≤ d → 2 * 8 ^ (d - 1) ≤ n) ∧ n ≤ 16 ^ d
set_option maxHeartbeats 1000000 in
theorem rp_Depth {S : Nat → Prop} {c : Array Value} {l : List Int} (w : World) (h : RootR S w c l) : Calls Try.prog 15 #[.agg c] w fun e w' => ∃ v, e = .returned v ∧ ∃ d : Nat, v = .int .i64 (d : Int) ∧ DepthOk d l.length ∧ Below w.heap.size w w' := by
  obtain ⟨d, q1, n1, c1, q2, n2, c2, rfl, hd⟩ := h.cells
  have HD : Hid (DepthOk d l.length) := hd
  clear h hd
  go_enter Try.func15, Try.ntmps15
  go_wp2
  go_ret
  exact ⟨_, rfl, d, rfl, HD.out, Below.newly' _ _⟩
set_option maxHeartbeats 2000000 in
theorem rp_Concat (W : World) {S : Nat → Prop} {ca cb : Array Value} {la lb : List Int} (ha : RootR S W ca la) (hb : RootR S W cb lb) (hN : la.length + lb.length ≤ 100000) :
    Calls Try.prog 23 #[.agg ca, .agg cb] W fun e W' => ∃ c, e = .returned (.agg c) ∧ RootR (fun g => S g ∨ W.heap.size ≤ g) W' c (la ++ lb) ∧ Below W.heap.size W W' := by
  obtain ⟨w2, hw2⟩ : ∃ w2, (W.alloc (.cells ca 35)).alloc (.cells cb 35) = w2 := ⟨_, rfl⟩
  obtain ⟨hb2, hx2, hy2, hs2⟩ := two_new hw2
  obtain ⟨w3, hw3⟩ : ∃ w3, w2.alloc (.cells #[.int .i64 0, .int .i64 0, .slice none 0 0, .slice none 0 0] 35) = w3 := ⟨_, rfl⟩
  obtain ⟨hb3, hz3, hs3⟩ := box_new hw3
  rw [← hw2] at hw3
  rw [hs2] at hz3 hs3
  have hB3 := hb2.trans (hb3.mono hb2.size)
  have HX3 := Lib.hid ((hb3.block _ (by omega)).trans hx2)
  have HY3 := Lib.hid ((hb3.block _ (by omega)).trans hy2)
  have HZ3 := Lib.hid hz3
  have HB3 := Lib.hid hB3
  have HS3 := Lib.hid hs3
  have HAS := Lib.hid ha.size
  have HBS := Lib.hid hb.size
  have HC := Lib.hid (rp_concat w3 (ha.old.later hB3) (hb.old.later hB3) hN)
  clear hb2 hx2 hy2 hs2 hb3 hz3 hs3 hw2 hB3 hN ha hb
  go_enter Try.func23, Try.ntmps23
  go_upto_region 1 with fail
  clear hw3
  go_wp2_with (first
    | (refine ld_if rfl 33 _ rfl W.heap.size rfl 35 _ _ _ HX3.out Try.underlying33 rfl (by rw [HAS.out]; exact rnode_size) ?_)
    | (refine ld_if rfl 33 _ rfl (W.heap.size + 1) rfl 35 _ _ _ HY3.out Try.underlying33 rfl (by rw [HBS.out]; exact rnode_size) ?_)
    | (go_at_call 37
       refine HC.out.mono ?_
       rintro e w4 ⟨c4, rfl, hr4, hb4⟩
       obtain ⟨x, y, q1, n1, c1, q2, n2, c2, rfl⟩ := hr4.four
       have HR4 := Lib.hid hr4
       have HB4 := Lib.hid hb4
       have HZ4 := Lib.hid ((hb4.block (W.heap.size + 1 + 1) (by have := HS3.out; omega)).trans HZ3.out)
       clear hr4 hb4)
    | (refine st_agg rfl 35 _ _ rfl (W.heap.size + 1 + 1) _ rfl rfl 35 _ HZ4.out rope_size rfl (one4 rfl rfl rfl rfl) ?_; intro w5 h5 k5))
  refine bodyPost_ret (results_cell_row rfl _ _ (W.heap.size + 1 + 1) 35 _ (0, 0) _ rfl h5 Try.underlying35 rfl rope_size) rfl ⟨_, rfl, ?_, ?_⟩
  · have hs3 := HS3.out
    refine (HR4.out.kept k5.by_ (fun X e => by cases e; rintro (⟨_, h⟩ | h) <;> omega)).weak fun g hg => ?_
    rcases hg with hg | hg
    · exact .inl hg.1
    · exact .inr (by omega)
  · have hs3 := HS3.out
    exact (HB3.out.trans (HB4.out.mono (by omega))).trans (k5.below (by omega))
set_option maxHeartbeats 2000000 in
theorem rp_Of (W : World) {S : Nat → Prop} (v : Value) (l : List Int) (hv : CutAt S W 1 v (iv l) l.length) (hN : l.length ≤ 100000) :
    Calls Try.prog 16 #[v] W fun e W' => ∃ c, e = .returned (.agg c) ∧ RootR (fun g => W.heap.size ≤ g) W' c l ∧ Below W.heap.size W W' := by
  obtain ⟨w1, hw1⟩ : ∃ w1, W.alloc (.cells #[.int .i64 0, .int .i64 0, .slice none 0 0, .slice none 0 0] 35) = w1 := ⟨_, rfl⟩
  obtain ⟨hb1, hx1, hs1⟩ := box_new hw1
  have HX1 := Lib.hid hx1
  have HB1 := Lib.hid hb1
  have HS1 := Lib.hid hs1
  have HL := Lib.hid (leaves_new (S := S) w1 [(v, l)] (fun p hp => by simp only [List.mem_singleton] at hp; subst hp; exact hv.later hb1) l (by simp [catE]) hN (by simp))
  obtain ⟨a, cap, rfl, _⟩ := hv.shape
  have HN := Lib.hid hN
  clear hb1 hx1 hs1 hv hN
  go_enter Try.func16, Try.ntmps16
  go_upto_region 1 with fail
  clear hw1
  go_wp2_with (first
    | (go_at_call 31
       refine HL.out.mono ?_
       rintro e w4 ⟨v4, rfl, ks, hn4, hc4, hf4, hb4⟩
       have HT := Lib.hid (rp_top w4 0 v4 ks hn4 (fun p hp => ⟨fun h => (hf4.2 p hp).1 h, fun _ => .inl rfl⟩) (by rw [hc4]; exact HN.out))
       rw [hc4] at HT
       have HB4 := Lib.hid hb4
       have HX4 := Lib.hid ((hb4.block W.heap.size (by have := HS1.out; omega)).trans HX1.out)
       clear hn4 hc4 hf4 hb4)
    | (go_at_call 30
       refine HT.out.mono ?_
       rintro e w5 ⟨c5, rfl, hr5, hb5⟩
       obtain ⟨x, y, q1, n1, c1, q2, n2, c2, rfl⟩ := hr5.four
       have HR5 := Lib.hid hr5
       have HB5 := Lib.hid hb5
       have HX5 := Lib.hid ((hb5.block W.heap.size (by have := HS1.out; have := HB4.out.size; omega)).trans HX4.out)
       clear hr5 hb5)
    | (refine st_agg rfl 35 _ _ rfl W.heap.size _ rfl rfl 35 _ HX5.out rope_size rfl (one4 rfl rfl rfl rfl) ?_; intro w6 h6 k6))
  refine bodyPost_ret (results_cell_row rfl _ _ W.heap.size 35 _ (0, 0) _ rfl h6 Try.underlying35 rfl rope_size) rfl ⟨_, rfl, ?_, ?_⟩
  · have hs1 := HS1.out
    have hs4 := HB4.out.size
    refine (HR5.out.kept k6.by_ (fun X e => by cases e; rintro (h | h) <;> omega)).weak fun g hg => ?_
    rcases hg with hg | hg <;> omega
  · have hs1 := HS1.out
    have hs4 := HB4.out.size
    exact ((HB1.out.trans (HB4.out.mono (by omega))).trans (HB5.out.mono (by omega))).trans (k6.below (by omega))
end Go.Proofs.Ytldemoflgahdgaa
