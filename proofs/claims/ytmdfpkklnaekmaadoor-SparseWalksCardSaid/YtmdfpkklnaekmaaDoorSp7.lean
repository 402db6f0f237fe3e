/- Package sparse: First. -/
import Derived.Test.YtmdfpkklnaekmaaDoorSp6
namespace Go.Proofs.YtmdfpkklnaekmaaDoor
open Go.RowKit Go.Shelf
set_option maxRecDepth 1000000
set_option linter.unusedSimpArgs false
attribute [local go_sem] Oper.semAt_some

theorem bx_kept {A B : World} {X : Nat} {t : TypeId} {v : Value} {row : Option Nat} (h : Boxed A X t v) (hg : A.grownBy B row) (hr : ∀ r, row = some r → ∃ o : Obj, A.heap[r]? = some o ∧ o.isCells = false) : Boxed B X t v :=
  boxed_own (β := Unit) X t (fun _ => v) () A B row h hg hr
set_option maxHeartbeats 2000000 in
theorem sp_First (w : World) (R : Rw) (c : Array Value) (h : At6 w R c) (hT : Tab6 w) : Calls Tryd.prog 26 #[.agg c] w fun e W' => e = .returned (.tuple #[.int .i64 (firstR R).1, .int .i64 (firstR R).2.1, .bool (firstR R).2.2]) ∧ Below w.heap.size w W' := by
  obtain ⟨_, v, rfl, h2⟩ := h
  obtain ⟨a, n, rfl, _⟩ := h2.shape
  refine (callsIn_wide (n := 5)).1 ?_
  refine callsIn_of_wp_marks Tryd.func26 rfl trivial ?_ rfl
  simp only [Tryd.ntmps26, List.size_toArray, List.length_cons, List.length_nil, Nat.reduceAdd, Nat.reduceSub, Array.replicate_succ, Array.replicate_zero, List.push_toArray, List.append_toArray, List.nil_append, List.cons_append]
  gi_wp2_with (refine ⟨trivial, ?_⟩; gi_at_call 15; refine (sp_All_in _ _ _ _).mono ?_; rintro e w' ⟨rfl, rfl⟩)
  have b2 := Boxed.new (w.alloc (.cells #[.int .u32 (bitsR R 32 : Nat), .slice a (lisR R).length n] 27)) 3 (.int .i64 0)
  have b3 := Boxed.new ((w.alloc (.cells #[.int .u32 (bitsR R 32 : Nat), .slice a (lisR R).length n] 27)).alloc (.cells #[.int .i64 0] 3)) 3 (.int .i64 0)
  have b4 := Boxed.new (((w.alloc (.cells #[.int .u32 (bitsR R 32 : Nat), .slice a (lisR R).length n] 27)).alloc (.cells #[.int .i64 0] 3)).alloc (.cells #[.int .i64 0] 3)) 4 (.bool false)
  have hb5 := heap_alloc_last ((((w.alloc (.cells #[.int .u32 (bitsR R 32 : Nat), .slice a (lisR R).length n] 27)).alloc (.cells #[.int .i64 0] 3)).alloc (.cells #[.int .i64 0] 3)).alloc (.cells #[.bool false] 4)) (.cells #[.int .u32 (bitsR R 32 : Nat), .slice a (lisR R).length n] 27)
  have b2' := ((b2.alloc (.cells #[.int .i64 0] 3)).alloc (.cells #[.bool false] 4)).alloc (.cells #[.int .u32 (bitsR R 32 : Nat), .slice a (lisR R).length n] 27)
  have b3' := (b3.alloc (.cells #[.bool false] 4)).alloc (.cells #[.int .u32 (bitsR R 32 : Nat), .slice a (lisR R).length n] 27)
  have b4' := b4.alloc (.cells #[.int .u32 (bitsR R 32 : Nat), .slice a (lisR R).length n] 27)
  simp only [World.size_alloc] at b2' b3' b4' hb5
  obtain ⟨W0, hW0⟩ : ∃ W0, ((((w.alloc (.cells #[.int .u32 (bitsR R 32 : Nat), .slice a (lisR R).length n] 27)).alloc (.cells #[.int .i64 0] 3)).alloc (.cells #[.int .i64 0] 3)).alloc (.cells #[.bool false] 4)).alloc (.cells #[.int .u32 (bitsR R 32 : Nat), .slice a (lisR R).length n] 27) = W0 := ⟨_, rfl⟩
  have hsz : W0.heap.size = w.heap.size + 5 := by rw [← hW0]; simp
  have hB0 : Below w.heap.size w W0 := by rw [← hW0]; exact Below.more (Below.more (Below.more (Below.more (Below.newly' _ _) _) _) _) _
  rw [hW0] at b2' b3' b4' hb5 ⊢
  clear b2 b3 b4 hW0
  have htl : 0 < w.heap.size := World.block_lt_of_cell? w _ (hT 0 (by decide))
  refine wpIn_rangeFunc_ownG (F := Fence.wide) rfl (by omega) (gf := 34) (lb := #[.pointer (some ⟨w.heap.size + 1 + 1 + 1 + 1, 0, none⟩)]) rfl trivial (enters_of Tryd.func34 (by kernel_rfl) rfl)
    (sp_all_stops 4 (by omega) (w.heap.size + 1 + 1 + 1 + 1) w.heap.size R _ W0 (by omega) (by omega) htl (cell_in hb5 rfl) (cell_in hb5 rfl) (h2.in_.below hB0) (hT.below hB0)) belowK_t (belowK_b (by omega)) (Below.refl _ _) (fun _ => rfl)
    (fun pre V => (pre = [] ∧ Boxed V (w.heap.size + 1) 3 (.int .i64 0) ∧ Boxed V (w.heap.size + 1 + 1) 3 (.int .i64 0) ∧ Boxed V (w.heap.size + 1 + 1 + 1) 4 (.bool false)) ∧ Below w.heap.size w V)
    (fun k pre V => (k = .ret ∧ ∃ x : Nat × Int, pre = [x] ∧ V.cell? ⟨w.heap.size + 1, 0, none⟩ = some (.int .i64 (x.1 : Int)) ∧ V.cell? ⟨w.heap.size + 1 + 1, 0, none⟩ = some (.int .i64 x.2) ∧ V.cell? ⟨w.heap.size + 1 + 1 + 1, 0, none⟩ = some (.bool true)) ∧ Below w.heap.size w V)
    (OwnFrom.and (Own.from (fun s A B row hs hg hr => ⟨hs.1, bx_kept hs.2.1 hg hr, bx_kept hs.2.2.1 hg hr, bx_kept hs.2.2.2 hg hr⟩) _) (ownFrom_below (Nat.le_refl _) (by omega)))
    (fun k => OwnFrom.and (Own.from (fun s A B row hs hg hr => by obtain ⟨hc, x, e1, e2, e3, e4⟩ := hs; exact ⟨hc, x, e1, cell_kept e2 hg hr, cell_kept e3 hg hr, cell_kept e4 hg hr⟩) _) (ownFrom_below (Nat.le_refl _) (by omega)))
    ⟨⟨rfl, b2', b3', b4'⟩, hB0⟩
    (fun x => { tmps := #[.agg #[.int .u32 (bitsR R 32 : Nat), .slice a (lisR R).length n], .pointer (some ⟨w.heap.size, 0, none⟩), .pointer (some ⟨w.heap.size + 1, 0, none⟩), .pointer (some ⟨w.heap.size + 1 + 1, 0, none⟩), .pointer (some ⟨w.heap.size + 1 + 1 + 1, 0, none⟩), .int .i64 (x.1 : Int), .int .i64 x.2, undef, .agg #[.int .u32 (bitsR R 32 : Nat), .slice a (lisR R).length n], .func (.func 34) #[] #[.pointer (some ⟨w.heap.size + 1 + 1 + 1 + 1, 0, none⟩)], .int .i64 (x.1 : Int), .int .i64 x.2, undef, undef, undef], defers := [] }) ?assign ?body ?done ?stop
  case assign =>
    intro l x W K hK
    gi_wp2
    exact hK
  case body =>
    rintro l pre x W ⟨⟨rfl, h2, h3, h4⟩, hB⟩ _
    have c2 := h2.cell
    have f2 := h2.frozen
    have c3 := h3.cell
    have f3 := h3.frozen
    have c4 := h4.cell
    have f4 := h4.frozen
    gi_wp2
    have g2 := ((h2.set (.int .i64 (x.1 : Int))).other (B' := w.heap.size + 1 + 1) (by omega) (.int .i64 x.2)).other (B' := w.heap.size + 1 + 1 + 1) (by omega) (.bool true)
    have g3 := ((h3.other (B' := w.heap.size + 1) (by omega) (.int .i64 (x.1 : Int))).set (.int .i64 x.2)).other (B' := w.heap.size + 1 + 1 + 1) (by omega) (.bool true)
    have g4 := ((h4.other (B' := w.heap.size + 1) (by omega) (.int .i64 (x.1 : Int))).other (B' := w.heap.size + 1 + 1) (by omega) (.int .i64 x.2)).set (.bool true)
    exact ⟨(((KeepsOthers.setCell W ⟨w.heap.size + 1, 0, none⟩ (.int .i64 (x.1 : Int))).trans (KeepsOthers.setCell _ ⟨w.heap.size + 1 + 1, 0, none⟩ (.int .i64 x.2))).trans (KeepsOthers.setCell _ ⟨w.heap.size + 1 + 1 + 1, 0, none⟩ (.bool true))).from _, ⟨rfl, x, rfl, g2.cell, g3.cell, g4.cell⟩, ((hB.setCell (p := ⟨w.heap.size + 1, 0, none⟩) (by simp) (.int .i64 (x.1 : Int))).setCell (p := ⟨w.heap.size + 1 + 1, 0, none⟩) (by simp; omega) (.int .i64 x.2)).setCell (p := ⟨w.heap.size + 1 + 1 + 1, 0, none⟩) (by simp; omega) (.bool true)⟩
  case done =>
    rintro D ys W hD rfl ⟨⟨hne, h2, h3, h4⟩, hB⟩ hK
    have c2 := h2.cell
    have f2 := h2.frozen
    have c3 := h3.cell
    have f3 := h3.frozen
    have c4 := h4.cell
    have f4 := h4.frozen
    gi_wp2
    have g2 := ((h2.set (.int .i64 0)).other (B' := w.heap.size + 1 + 1) (by omega) (.int .i64 0)).other (B' := w.heap.size + 1 + 1 + 1) (by omega) (.bool false)
    have g3 := ((h3.other (B' := w.heap.size + 1) (by omega) (.int .i64 0)).set (.int .i64 0)).other (B' := w.heap.size + 1 + 1 + 1) (by omega) (.bool false)
    have g4 := ((h4.other (B' := w.heap.size + 1) (by omega) (.int .i64 0)).other (B' := w.heap.size + 1 + 1) (by omega) (.int .i64 0)).set (.bool false)
    have hK' := (((KeepsOthers.setCell W ⟨w.heap.size + 1, 0, none⟩ (.int .i64 0)).trans (KeepsOthers.setCell _ ⟨w.heap.size + 1 + 1, 0, none⟩ (.int .i64 0))).trans (KeepsOthers.setCell _ ⟨w.heap.size + 1 + 1 + 1, 0, none⟩ (.bool false))).same D _ hK rfl
    have q2 := (bx_kept g2 (grownBy_putObj' _ D (.deferred none)) (fun r e => by cases e; exact ⟨_, hK', rfl⟩)).cell
    have q3 := (bx_kept g3 (grownBy_putObj' _ D (.deferred none)) (fun r e => by cases e; exact ⟨_, hK', rfl⟩)).cell
    have q4 := (bx_kept g4 (grownBy_putObj' _ D (.deferred none)) (fun r e => by cases e; exact ⟨_, hK', rfl⟩)).cell
    refine ⟨by simp, .inl ⟨_, _, rfl, run_takeDeferred hK', ?_⟩⟩
    refine ⟨.tuple #[.int .i64 0, .int .i64 0, .bool false], ?_, by rw [first_all, hne], (((hB.setCell (p := ⟨w.heap.size + 1, 0, none⟩) (by simp) (.int .i64 0)).setCell (p := ⟨w.heap.size + 1 + 1, 0, none⟩) (by simp; omega) (.int .i64 0)).setCell (p := ⟨w.heap.size + 1 + 1 + 1, 0, none⟩) (by simp; omega) (.bool false)).trans (belowK_b (w := w) (Nat.le_refl _) _ D _ _ (by omega) hK' rfl rfl)⟩
    simp [results, Tryd.f26, go_sem, q2, q3, q4]
  case stop =>
    rintro D k pre W hD ⟨m, hm, rfl⟩ ⟨⟨rfl, x, e1, e2, e3, e4⟩, hB⟩ hK
    gi_wp2
    have q2 := cell_kept e2 (grownBy_putObj' _ D (.deferred none)) (fun r e => by cases e; exact ⟨_, hK, rfl⟩)
    have q3 := cell_kept e3 (grownBy_putObj' _ D (.deferred none)) (fun r e => by cases e; exact ⟨_, hK, rfl⟩)
    have q4 := cell_kept e4 (grownBy_putObj' _ D (.deferred none)) (fun r e => by cases e; exact ⟨_, hK, rfl⟩)
    have hf : firstR R = ((x.1 : Int), x.2, true) := by
      rw [first_all]
      cases hr : allR R with
      | nil => rw [hr] at e1; simp at e1
      | cons p t =>
        rw [hr] at e1
        cases m with
        | zero => simp at e1
        | succ m =>
          rw [List.take_succ_cons] at e1
          obtain rfl : p = x := (List.cons.inj e1).1
          rfl
    refine ⟨by simp, .inl ⟨_, _, rfl, run_takeDeferred hK, ?_⟩⟩
    refine ⟨.tuple #[.int .i64 (x.1 : Int), .int .i64 x.2, .bool true], ?_, by rw [hf], hB.trans (belowK_b (w := w) (Nat.le_refl _) _ D _ _ (by omega) hK rfl rfl)⟩
    simp [results, Tryd.f26, go_sem, q2, q3, q4]
end Go.Proofs.YtmdfpkklnaekmaaDoor
