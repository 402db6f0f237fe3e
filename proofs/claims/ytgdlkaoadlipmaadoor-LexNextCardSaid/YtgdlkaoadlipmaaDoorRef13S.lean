/- Lists of tokens that are read; the document's Same of lex. (written by tools/gen13/ref13s.py) -/
import Derived.Test.YtgdlkaoadlipmaaDoorRef13A
import Derived.Test.YtgdlkaoadlipmaaDoorPkC
import Derived.Deep.QuietTactic
import Derived.BigQuiet
namespace Go.Proofs.YtgdlkaoadlipmaaDoor
open Go.RowKit
set_option maxRecDepth 1000000
set_option linter.unusedSimpArgs false

/-- v is a list that reads as these tokens: nil, or at the head of a block of the type T. -/
def TkL (T : TypeId) (w : World) (v : Value) (l : List Tok) : Prop := ∃ (a : Option Addr) (c : Nat), v = .slice a l.length c ∧ l.length ≤ maxLen ∧
  (0 < l.length → ∃ (g : Nat) (cs : Array Value) (fr : Nat × Nat), a = some ⟨g, 0, none⟩ ∧ w.heap[g]? = some (.cells cs T fr) ∧ ∀ j (h : j < l.length) (k : Nat) (u : Value), (tokC l[j])[k]? = some u → cs[j * 5 + k]? = some u)
section
variable {T : TypeId} {w w' : World} {v : Value} {l : List Tok}
theorem TkL.kept {row : Option Nat} (h : TkL T w v l) (hg : w.grownBy w' row) (hT : ∀ X, row = some X → ∀ cs fr, w.heap[X]? ≠ some (.cells cs T fr)) : TkL T w' v l := by
  obtain ⟨a, c, h1, h2, h3⟩ := h
  refine ⟨a, c, h1, h2, fun h0 => ?_⟩
  obtain ⟨g, cs, fr, h4, h5, h6⟩ := h3 h0
  exact ⟨g, cs, fr, h4, (hg.block g (Array.getElem?_eq_some_iff.1 h5).1 (fun e => hT g e.symm cs fr h5)).trans h5, h6⟩
theorem TkL.later (h : TkL T w v l) (hb : Below w.heap.size w w') : TkL T w' v l := h.kept (row := none) ⟨hb.os, hb.tape, hb.output, hb.size, fun k hk _ => hb.block k hk⟩ (fun X e => by cases e)
theorem TkL.but {X : Nat} {cs : Array Value} {U : TypeId} {fr : Nat × Nat} (h : TkL T w v l) (k : Only X w w') (hX : w.heap[X]? = some (.cells cs U fr)) (hT : U ≠ T) : TkL T w' v l := h.kept k.by_ (fun Y e cs' fr' h' => by
  cases e
  rw [hX] at h'
  simp only [Option.some.injEq, Obj.cells.injEq] at h'
  exact hT h'.2.1)
theorem TkL.shape (h : TkL T w v l) : ∃ a c, v = .slice a l.length c ∧ l.length ≤ maxLen := by
  obtain ⟨a, c, h1, h2, _⟩ := h
  exact ⟨a, c, h1, h2⟩
theorem TkL.row (h : TkL T w v l) {j : Nat} (hj : j < l.length) : ∃ g c, v = .slice (some ⟨g, 0, none⟩) l.length c ∧ w.rangeAt g (j * 5) (tokC l[j]).toList := by
  obtain ⟨a, c, h1, _, h3⟩ := h
  obtain ⟨g, cs, fr, rfl, h5, h6⟩ := h3 (by omega)
  refine ⟨g, c, h1, fun k u hu => cell_in h5 (h6 j hj k u ?_)⟩
  rw [← Array.getElem?_toList]
  exact hu
theorem TkL.nil (T : TypeId) (w : World) : TkL T w (.slice none 0 0) [] := ⟨none, 0, rfl, Nat.zero_le _, fun h => absurd h (by simp)⟩
theorem RowsOwn.tkl {B : Nat} (h : RowsOwn B T 5 v (l.map tokC) w) : TkL T w v l := by
  have hr := h
  obtain ⟨⟨_, h2⟩, _, _⟩ := h
  rw [List.length_map] at h2
  rcases h2 with ⟨rfl, h0⟩ | ⟨g, cap, cur, fz, rfl, _, hg, _, h3, h4, _, _⟩
  · exact ⟨none, 0, by rw [h0], by omega, fun h => by omega⟩
  · refine ⟨_, cap, rfl, by omega, fun _ => ⟨g, cur, fz, rfl, hg, fun j hj k u hu => ?_⟩⟩
    have h := hr.read rfl (i := j) (c := tokC l[j]) (by rw [List.getElem?_map, List.getElem?_eq_getElem hj]; rfl) k u (by rw [Array.getElem?_toList]; exact hu)
    rw [cell_of_row w g _ cur T fz hg] at h
    exact h
end
theorem neq_tok (c : Tok) (w : World) : (binOp .neq 24 (.agg (tokC c)) (.agg (tokC c))).run Tryd.prog w = .ok (.bool false) w := by
  have hu : Tryd.prog.underlying 24 = some (.struct (Tryd.prog.fieldsOf 24)) := by kernel_rfl
  have hp : Tryd.prog.stoodInHeld 24 = false := by kernel_rfl
  rw [run_neq_struct, run_equalIn_agg w 9999 _ _ _ hu hp]
  simp [Program.fieldsOf, Tryd.underlying24, Op.eqFields, tokC, go_sem]
set_option maxHeartbeats 4000000 in
theorem rf_Same13 (w : World) (va vb : Value) (l : List Tok) (ha : TkL 24 w va l) (hb : TkL 24 w vb l) (hn : l.length ≤ 100000) :
    Calls Tryd.prog 14 #[va, vb] w fun r w' => r = .returned (.bool true) ∧ Below w.heap.size w w' := by
  have HA := Lib.hid ha
  have HB := Lib.hid hb
  obtain ⟨a1, c1, rfl, _⟩ := ha.shape
  obtain ⟨a2, c2, rfl, _⟩ := hb.shape
  obtain ⟨N, hN⟩ : ∃ N, N = l.length := ⟨_, rfl⟩
  rw [← hN] at HA HB ⊢
  have hn4 : (N : Int) ≤ 100000 := by omega
  have HNL : Hid (N = l.length) := hN
  clear ha hb hN hn
  go_enter Tryd.func14, Tryd.ntmps14
  go_wp2_with fail
  go_loopw [13] (fun i wl => ∃ j : Nat, i = .int .i64 (j : Int) ∧ j ≤ N ∧ Hid (Below w.heap.size w wl)) (fun i _ => N - (intOf i).toNat)
  case atStart => exact ⟨0, rfl, Nat.zero_le _, Below.refl _ _⟩
  case round =>
    obtain ⟨j, rfl, hj, HBJ⟩ := hrel
    by_cases hlt : j < N
    · have hlt' : (j : Int) < (N : Int) := by omega
      have i0 : (0 : Int) ≤ (j : Int) := by omega
      have hjL : j < l.length := by rw [← HNL.out]; exact hlt
      obtain ⟨g1, d1, e1, hr1⟩ := HA.out.row hjL
      obtain ⟨g2, d2, e2, hr2⟩ := HB.out.row hjL
      simp only [Value.slice.injEq] at e1 e2
      obtain ⟨rfl, hd1, rfl⟩ := e1
      obtain ⟨rfl, hd2, rfl⟩ := e2
      obtain ⟨x, hx⟩ : ∃ x, x = l[j] := ⟨_, rfl⟩
      rw [← hx] at hr1 hr2
      have HR1 := Lib.hid hr1
      have HR2 := Lib.hid hr2
      have HLT := Lib.hid hlt
      clear hd1 hd2 hx hr1 hr2 hjL hlt
      go_upto_region 6 with fail
      have hnc := fun W => neq_tok x W
      have HKS : Hid (∀ V, Below w.heap.size w V → V.rangeAt g1 (j * 5) (tokC x).toList ∧ V.rangeAt g2 (j * 5) (tokC x).toList) := fun V hV => ⟨rangeAt_later HR1.out hV, rangeAt_later HR2.out hV⟩
      have HW : Hid (Below w.heap.size w wr.drew) := HBJ.out.trans ((drawn_below wr).mono HBJ.out.size)
      refine wp_region_T (S := (fun V => V.rangeAt g1 (j * 5) (tokC x).toList ∧ V.rangeAt g2 (j * 5) (tokC x).toList)) [] (by kernel_rfl) (by exact HKS.out _ HW.out) (fun hHeld => ?_)
      refine wpAnyT_take (i := 0) (oi := ⟨some 16, _, _, _, _, _⟩) (v := ?vg1_0) rfl (by kernel_rfl) (by kernel_rfl) (by kernel_rfl) (by kernel_rfl) (fun _ _ _ h => h) (Or.inl ⟨by rfl, ?hg1_0⟩) (by assumption) ?rg1_0
      case hg1_0 => (intro w hSw; (try dsimp only at hSw); first | (go_simp; done) | (go_simp; with_reducible rfl))
      (try simp only [Act.put, List.setIfInBounds_toArray, List.set_cons_zero, List.set_cons_succ])
      refine wpAnyT_take (i := 1) (oi := ⟨some 17, _, _, _, _, _⟩) (v := ?vg1_1) rfl (by kernel_rfl) (by kernel_rfl) (by kernel_rfl) (by kernel_rfl) (fun _ _ _ h => h) (Or.inl ⟨by rfl, ?hg1_1⟩) (by assumption) ?rg1_1
      case hg1_1 => (intro w hSw; (try dsimp only at hSw); first | (go_simp; done) | (go_simp; with_reducible rfl))
      (try simp only [Act.put, List.setIfInBounds_toArray, List.set_cons_zero, List.set_cons_succ])
      refine wpAnyT_take (i := 2) (oi := ⟨some 18, _, _, _, _, _⟩) (v := ?vg1_2) rfl (by kernel_rfl) (by kernel_rfl) (by kernel_rfl) (by kernel_rfl) (fun _ _ _ h => h) (Or.inl ⟨by rfl, ?hg1_2⟩) (by assumption) ?rg1_2
      case hg1_2 => (intro w hSw; (try dsimp only at hSw); first | (go_simp; done) | (go_simp; with_reducible rfl))
      (try simp only [Act.put, List.setIfInBounds_toArray, List.set_cons_zero, List.set_cons_succ])
      refine wpAnyT_take (i := 3) (oi := ⟨some 19, _, _, _, _, _⟩) (v := _) rfl (by kernel_rfl) (by kernel_rfl) (by kernel_rfl) (by kernel_rfl) (fun _ _ _ h => h) (yieldsIf_arr (by rfl) 24 _ rfl g1 (j * 5) rfl (tokC x) _ (fun w hw => hw.1) Tryd.underlying24 rfl (by exact tok_size)) (by assumption) ?_
      (try simp only [Act.put, List.setIfInBounds_toArray, List.set_cons_zero, List.set_cons_succ])
      refine wpAnyT_take (i := 4) (oi := ⟨some 20, _, _, _, _, _⟩) (v := ?vg1_4) rfl (by kernel_rfl) (by kernel_rfl) (by kernel_rfl) (by kernel_rfl) (fun _ _ _ h => h) (Or.inl ⟨by rfl, ?hg1_4⟩) (by assumption) ?rg1_4
      case hg1_4 => (intro w hSw; (try dsimp only at hSw); first | (go_simp; done) | (go_simp; with_reducible rfl))
      (try simp only [Act.put, List.setIfInBounds_toArray, List.set_cons_zero, List.set_cons_succ])
      refine wpAnyT_take (i := 5) (oi := ⟨some 21, _, _, _, _, _⟩) (v := ?vg1_5) rfl (by kernel_rfl) (by kernel_rfl) (by kernel_rfl) (by kernel_rfl) (fun _ _ _ h => h) (Or.inl ⟨by rfl, ?hg1_5⟩) (by assumption) ?rg1_5
      case hg1_5 => (intro w hSw; (try dsimp only at hSw); first | (go_simp; done) | (go_simp; with_reducible rfl))
      (try simp only [Act.put, List.setIfInBounds_toArray, List.set_cons_zero, List.set_cons_succ])
      refine wpAnyT_take (i := 6) (oi := ⟨some 22, _, _, _, _, _⟩) (v := ?vg1_6) rfl (by kernel_rfl) (by kernel_rfl) (by kernel_rfl) (by kernel_rfl) (fun _ _ _ h => h) (Or.inl ⟨by rfl, ?hg1_6⟩) (by assumption) ?rg1_6
      case hg1_6 => (intro w hSw; (try dsimp only at hSw); first | (go_simp; done) | (go_simp; with_reducible rfl))
      (try simp only [Act.put, List.setIfInBounds_toArray, List.set_cons_zero, List.set_cons_succ])
      refine wpAnyT_take (i := 7) (oi := ⟨some 23, _, _, _, _, _⟩) (v := _) rfl (by kernel_rfl) (by kernel_rfl) (by kernel_rfl) (by kernel_rfl) (fun _ _ _ h => h) (yieldsIf_arr (by rfl) 24 _ rfl g2 (j * 5) rfl (tokC x) _ (fun w hw => hw.2) Tryd.underlying24 rfl (by exact tok_size)) (by assumption) ?_
      (try simp only [Act.put, List.setIfInBounds_toArray, List.set_cons_zero, List.set_cons_succ])
      refine wpAnyT_take (i := 8) (oi := ⟨some 24, _, _, _, _, _⟩) (v := ?vg1_8) rfl (by kernel_rfl) (by kernel_rfl) (by kernel_rfl) (by kernel_rfl) (fun _ _ _ h => h) (Or.inl ⟨by rfl, ?hg1_8⟩) (by assumption) ?rg1_8
      case hg1_8 => (intro w hSw; (try dsimp only at hSw); first | (go_simp; done) | (go_simp; with_reducible rfl))
      (try simp only [Act.put, List.setIfInBounds_toArray, List.set_cons_zero, List.set_cons_succ])
      refine wpAnyT_done (by kernel_rfl) ?_ _
      clear hHeld HKS hnc
      go_wp2_with fail
      go_roundw
      case rel => exact ⟨j + 1, by simp, by have := HLT.out; omega, HW⟩
      case measure => have := HLT.out; simp [intOf]; omega
    · obtain rfl : j = N := by omega
      go_wp2_with fail
      go_ret
      exact ⟨rfl, HBJ.out⟩
end Go.Proofs.YtgdlkaoadlipmaaDoor
