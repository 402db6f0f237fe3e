/- Package rope: Rope.Slice. (written by tools/gen08/rope17.py) -/
import Derived.Test.YtldemoflgahdgaaRp16
import Derived.Test.YtldemoflgahdgaaNumWalks
import Derived.Test.YtldemoflgahdgaaRegionT
namespace Go.Proofs.Ytldemoflgahdgaa
open Go.RowKit
set_option maxRecDepth 1000000
set_option linter.unusedSimpArgs false

theorem cut_nat (lo hi : Int) (n : Nat) : ∃ a b : Nat, (cutS lo hi n).1 = (a : Int) ∧ (cutS lo hi n).2 = (b : Int) ∧ a ≤ b ∧ b ≤ n := by
  have h1 : 0 ≤ edS lo (max (n : Int) 0) ∧ edS lo (max (n : Int) 0) ≤ n := by unfold edS; split <;> omega
  have h2 : 0 ≤ edS hi (max (n : Int) 0) ∧ edS hi (max (n : Int) 0) ≤ n := by unfold edS; split <;> omega
  refine ⟨(cutS lo hi n).1.toNat, (cutS lo hi n).2.toNat, ?_, ?_, ?_, ?_⟩ <;> simp only [cutS] <;> omega
/-- The piece that lo and hi name. -/
def cutL (l : List Int) (lo hi : Int) : List Int := pieceL l (cutS lo hi l.length).1.toNat (cutS lo hi l.length).2.toNat
set_option maxHeartbeats 2000000 in
theorem rp_Slice {S : Nat → Prop} {c : Array Value} {l : List Int} (W : World) (h : RootR S W c l) (lo hi : Int) (hlo : InR lo) (hhi : InR hi) (hN : l.length ≤ 50000) :
    Calls Try.prog 22 #[.agg c, .int .i64 lo, .int .i64 hi] W fun e W' => ∃ c', e = .returned (.agg c') ∧ RootR (fun g => S g ∨ W.heap.size ≤ g) W' c' (cutL l lo hi) ∧ Below W.heap.size W W' := by
  obtain ⟨w2, hw2⟩ : ∃ w2, (W.alloc (.cells c 35)).alloc (.cells #[.int .i64 0, .int .i64 0, .slice none 0 0, .slice none 0 0] 35) = w2 := ⟨_, rfl⟩
  obtain ⟨hb2, hx2, hy2, hs2⟩ := two_new hw2
  obtain ⟨a, b, ha, hb, hab, hbn⟩ := cut_nat lo hi l.length
  have HCUT := Lib.hid (fun V => num_Cut lo hi l.length V hlo hhi (by unfold InR; omega))
  rw [ha, hb] at HCUT
  have HS := Lib.hid h.size
  have HLEN := Lib.hid (fun V (hV : Below W.heap.size W V) => rp_Len V (h.later hV))
  have HSLI := Lib.hid (fun V (hV : Below W.heap.size W V) => sli_root V (h.old.later hV) a b hab hbn hN)
  obtain ⟨l', hl'⟩ : ∃ l', l' = pieceL l a b := ⟨_, rfl⟩
  have HE : Hid (cutL l lo hi = l') := by show _ = _; unfold cutL; rw [ha, hb, hl']; rfl
  obtain ⟨n, hn⟩ : ∃ n, n = l.length := ⟨_, rfl⟩
  rw [← hl'] at HSLI
  rw [← hn] at HCUT HLEN
  rw [HE.out]
  obtain ⟨w3, hw3⟩ : ∃ w3, w3 = w2.drew := ⟨_, rfl⟩
  have hb3 : Below W.heap.size W w3 := by rw [hw3]; exact hb2.trans ((drawn_below w2).mono hb2.size)
  have HX3 : Hid (w3.heap[W.heap.size]? = some (.cells c 35 (0, 0))) := by show _ = _; rw [hw3]; exact hx2
  have HY3 : Hid (w3.heap[W.heap.size + 1]? = some (.cells #[.int .i64 0, .int .i64 0, .slice none 0 0, .slice none 0 0] 35 (0, 0))) := by show _ = _; rw [hw3]; exact hy2
  have HB3 := Lib.hid hb3
  have HS3 : Hid (W.heap.size + 2 ≤ w3.heap.size) := by show _ ≤ _; rw [hw3]; exact Nat.le_of_eq hs2.symm
  clear hb2 hx2 hy2 hs2 h hlo hhi hN hl' hn ha hb hab hbn hb3 HE
  go_enter Try.func22, Try.ntmps22
  go_upto_region 1 with fail
  clear hw2
  refine wp_region_T (S := fun V => V.heap[W.heap.size]? = some (.cells c 35 (0, 0))) [11] (by kernel_rfl) (by rw [← hw3]; exact HX3.out) (fun hHeld => ?_)
  rw [← hw3] at hHeld ⊢
  clear hw3
  refine wpAnyT_take (i := 0) (oi := ⟨some 7, _, _, _, _, _⟩) (v := ?vg1_0) rfl (by kernel_rfl) (by kernel_rfl) (by kernel_rfl) (by kernel_rfl) (fun _ _ _ h => h) (Or.inl ⟨by rfl, ?hg1_0⟩) (by assumption) ?rg1_0
  case hg1_0 => (intro w hSw; (try dsimp only at hSw); first | (go_simp; done) | (go_simp; with_reducible rfl))
  (try simp only [Act.put, List.setIfInBounds_toArray, List.set_cons_zero, List.set_cons_succ])
  refine wpAnyT_take (i := 1) (oi := ⟨some 8, _, _, _, _, _⟩) (v := _) rfl (by kernel_rfl) (by kernel_rfl) (by kernel_rfl) (by kernel_rfl) (fun _ _ _ h => h) (yieldsIf_load_row (by rfl) 33 _ rfl W.heap.size rfl c 35 (0, 0) _ (fun w hw => hw) Try.underlying33 rfl (by rw [HS.out]; exact rnode_size)) (by assumption) ?_
  (try simp only [Act.put, List.setIfInBounds_toArray, List.set_cons_zero, List.set_cons_succ])
  refine wpAnyT_take (i := 2) (oi := ⟨some 9, _, _, _, _, _⟩) (v := ?vg1_2) rfl (by kernel_rfl) (by kernel_rfl) (by kernel_rfl) (by kernel_rfl) (fun _ _ _ h => h) (Or.inl ⟨by rfl, ?hg1_2⟩) (by assumption) ?rg1_2
  case hg1_2 => (intro w hSw; (try dsimp only at hSw); first | (go_simp; done) | (go_simp; with_reducible rfl))
  (try simp only [Act.put, List.setIfInBounds_toArray, List.set_cons_zero, List.set_cons_succ])
  refine wpAnyT_take (i := 3) (oi := ⟨some 10, _, _, _, _, _⟩) (v := ?vg1_3) rfl (by kernel_rfl) (by kernel_rfl) (by kernel_rfl) (by kernel_rfl) (fun _ _ _ h => h) (Or.inl ⟨by rfl, ?hg1_3⟩) (by assumption) ?rg1_3
  case hg1_3 => (intro w hSw; (try dsimp only at hSw); first | (go_simp; done) | (go_simp; with_reducible rfl))
  (try simp only [Act.put, List.setIfInBounds_toArray, List.set_cons_zero, List.set_cons_succ])
  refine wpAnyT_take (i := 4) (oi := ⟨some 11, _, _, _, _, _⟩) (v := _) rfl (by kernel_rfl) (by kernel_rfl) (by kernel_rfl) (by kernel_rfl) (fun _ _ _ h => h) (yieldsIf_load_row (by rfl) 35 _ rfl W.heap.size rfl c 35 (0, 0) _ (fun w hw => hw) Try.underlying35 rfl (by rw [HS.out]; exact rope_size)) (by assumption) ?_
  (try simp only [Act.put, List.setIfInBounds_toArray, List.set_cons_zero, List.set_cons_succ])
  refine wpAnyT_one (i := 5) (o := ⟨some 12, _, _, _, _, _⟩) (by kernel_rfl) rfl (fun K hK => ?_)
  go_simp
  go_at_call 21
  refine (HLEN.out w3 HB3.out).mono ?_
  rintro e w4 ⟨rfl, hw4⟩
  have hb4 : Below w3.heap.size w3 w4 := by rw [hw4]; exact Below.newly' _ _
  have HX4 := Lib.hid ((hb4.block W.heap.size (by have := HS3.out; omega)).trans HX3.out)
  have HY4 := Lib.hid ((hb4.block (W.heap.size + 1) (by have := HS3.out; omega)).trans HY3.out)
  have HB4 := Lib.hid (HB3.out.trans (hb4.mono HB3.out.size))
  have HS4 : Hid (W.heap.size + 2 ≤ w4.heap.size) := by have h1 := HS3.out; have h2 := hb4.size; show _ ≤ _; omega
  clear hb4 hw4
  (try dsimp only)
  refine hK.out _ _ (by first | exact HX3.out | exact HX4.out | exact HX6.out) (fun hHeld => ?_)
  clear hK K
  (try simp only [Act.put, List.setIfInBounds_toArray, List.set_cons_zero, List.set_cons_succ])
  refine wpAnyT_one (i := 6) (o := ⟨some 13, _, _, _, _, _⟩) (by kernel_rfl) rfl (fun K hK => ?_)
  go_simp
  go_at_call 36
  refine (HCUT.out w4).mono ?_
  rintro e w5 ⟨rfl, rfl⟩
  (try dsimp only)
  refine hK.out _ _ (by first | exact HX3.out | exact HX4.out | exact HX6.out) (fun hHeld => ?_)
  clear hK K
  (try simp only [Act.put, List.setIfInBounds_toArray, List.set_cons_zero, List.set_cons_succ])
  refine wpAnyT_take (i := 7) (oi := ⟨some 14, _, _, _, _, _⟩) (v := ?vg1_7) rfl (by kernel_rfl) (by kernel_rfl) (by kernel_rfl) (by kernel_rfl) (fun _ _ _ h => h) (Or.inl ⟨by rfl, ?hg1_7⟩) (by assumption) ?rg1_7
  case hg1_7 => (intro w hSw; (try dsimp only at hSw); first | (go_simp; done) | (go_simp; with_reducible rfl))
  (try simp only [Act.put, List.setIfInBounds_toArray, List.set_cons_zero, List.set_cons_succ])
  refine wpAnyT_take (i := 8) (oi := ⟨some 15, _, _, _, _, _⟩) (v := ?vg1_8) rfl (by kernel_rfl) (by kernel_rfl) (by kernel_rfl) (by kernel_rfl) (fun _ _ _ h => h) (Or.inl ⟨by rfl, ?hg1_8⟩) (by assumption) ?rg1_8
  case hg1_8 => (intro w hSw; (try dsimp only at hSw); first | (go_simp; done) | (go_simp; with_reducible rfl))
  (try simp only [Act.put, List.setIfInBounds_toArray, List.set_cons_zero, List.set_cons_succ])
  refine wpAnyT_one (i := 9) (o := ⟨some 16, _, _, _, _, _⟩) (by kernel_rfl) rfl (fun K hK => ?_)
  go_simp
  go_at_call 35
  refine (HSLI.out w4 HB4.out).mono ?_
  rintro e w6 ⟨c6, rfl, hr6, hb6⟩
  obtain ⟨y0, y1, q1, n1, c1, q2, n2, c2, rfl⟩ := hr6.four
  have HR6 := Lib.hid hr6
  have HX6 := Lib.hid ((hb6.block W.heap.size (by have := HS4.out; omega)).trans HX4.out)
  have HY6 := Lib.hid ((hb6.block (W.heap.size + 1) (by have := HS4.out; omega)).trans HY4.out)
  have HB6 := Lib.hid (HB4.out.trans (hb6.mono HB4.out.size))
  clear hr6 hb6
  (try dsimp only)
  refine hK.out _ _ (by first | exact HX3.out | exact HX4.out | exact HX6.out) (fun hHeld => ?_)
  clear hK K
  (try simp only [Act.put, List.setIfInBounds_toArray, List.set_cons_zero, List.set_cons_succ])
  refine wpAnyT_take (i := 10) (oi := ⟨some 17, _, _, _, _, _⟩) (v := ?vg1_10) rfl (by kernel_rfl) (by kernel_rfl) (by kernel_rfl) (by kernel_rfl) (fun _ _ _ h => h) (Or.inl ⟨by rfl, ?hg1_10⟩) (by assumption) ?rg1_10
  case hg1_10 => (intro w hSw; (try dsimp only at hSw); first | (go_simp; done) | (go_simp; with_reducible rfl))
  (try simp only [Act.put, List.setIfInBounds_toArray, List.set_cons_zero, List.set_cons_succ])
  refine wpAnyT_last (i := 11) (o := ⟨none, _, _, _, _, _⟩) (by kernel_rfl) (by decide) rfl (fun K hK => ?_)
  refine st_agg_wp 35 _ _ rfl (W.heap.size + 1) _ rfl rfl 35 _ HY6.out rope_size rfl (one4 rfl rfl rfl rfl) ?_
  intro w7 h7 k7
  refine hK.out _ _ ?_
  clear hK K
  (try simp only [Act.put, List.setIfInBounds_toArray, List.set_cons_zero, List.set_cons_succ])
  refine wpAnyT_done (by kernel_rfl) ?_ _
  go_wp2_with fail
  refine bodyPost_ret (results_cell_row rfl _ _ (W.heap.size + 1) 35 _ (0, 0) _ rfl h7 Try.underlying35 rfl rope_size) rfl ⟨_, rfl, ?_, HB6.out.trans (k7.below (by omega))⟩
  have hs4 := HS4.out
  refine (HR6.out.kept k7.by_ (fun X e => by cases e; rintro (⟨_, h⟩ | h) <;> omega)).weak fun g hg => ?_
  rcases hg with hg | hg
  · exact .inl hg.1
  · exact .inr (by omega)
end Go.Proofs.Ytldemoflgahdgaa
