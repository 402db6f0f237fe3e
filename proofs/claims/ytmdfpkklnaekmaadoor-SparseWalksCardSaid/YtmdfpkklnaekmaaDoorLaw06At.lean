/- Package sparse as it landed answers what layer 6's laws want; what a row hands on, opened: lists of what is done to rows. -/
import Derived.Test.YtmdfpkklnaekmaaDoorLaw06Ops
import Derived.Test.YtmdfpkklnaekmaaDoorSp5
import Derived.Test.YtmdfpkklnaekmaaDoorSp7
import Derived.Test.YtmdfpkklnaekmaaDoorLawKit0
import Derived.Lib.SmallJoins
import Derived.Deep.Slices
import Derived.OpenShut
import Derived.ChangeSlices
namespace Go.Proofs.YtmdfpkklnaekmaaDoor
open Go.RowKit Go.ChangeShapes Go.WideShapes Go.ChangeAt
set_option maxRecDepth 1000000

theorem rspec6 : RSpec Tab6 At6 where
  ok h := h.1
  size h := by obtain ⟨_, v, rfl, _⟩ := h; rfl
  one h := by
    obtain ⟨_, v, rfl, h⟩ := h
    obtain ⟨a, n, rfl, _⟩ := h.shape
    simp [Value.oneCell']
  kept h hg hT := h.kept hg hT
  zero W := At6.zero W
  tab h hb := h.below hb
  len W R c h := sp_Len W R c h
  bits W R c h := sp_Bits W R c h
  get W R c i h _ := sp_Get W R c i h
  first W R c h hT := sp_First W R c h hT
  set W R c i x h _ hx := sp_Set W R c i x h hx
  cut W R c i h _ := sp_Cut W R c i h
/-- The table of the lowest bits lies as the row lists it. -/
theorem tab6_of_laid {W : World} (h : laidMetH Tryd.prog Rows.sparseDoesRow.laid W) : Tab6 W := by
  rw [MakeChecks.laidMetH_plain _ _ _ (by kernel_rfl)] at h
  have ht : Lib.TabIs Tryd.prog W (Rows.sparseDoesRow.named.getD 0 (String.ofList [])) .u8 (Lib.deBruijn32tab.map fun n : Nat => (n : Int)) :=
    Lib.tabIs_of_head (rest := Rows.sparseDoesRow.laid.drop (0 + 1)) (g := 0) (t := 72) (e := 5) (n := 32) (by kernel_rfl) (by kernel_rfl) Tryd.underlying72 Tryd.underlying5 (by kernel_rfl) (by kernel_rfl) (laid_drop 0 h)
  intro j hj
  have h1 := ht.cell (g := 0) (by kernel_rfl) j (by simpa [Lib.deBruijn32tab] using hj)
  rw [h1]
  congr 2
  rw [List.getD_eq_getElem?_getD, List.getD_eq_getElem?_getD, List.getElem?_map]
  cases Lib.deBruijn32tab[j]? <;> rfl
theorem op_in {x : Int} (h : (Lit.int .i64 x).wf = true) : In64 x := bounds_i64 h
/-- What is done, by value, opened. -/
theorem op_open {H : Type} {enc : TypeId × Value → H} {W : World} {sp : Nat → Bool} {held : Bool} {r : Reach} {b0 base : Nat} {v : Value} {d : DataW H} {ps : List MemPlace}
    (hval : Value.okWide Tryd.prog W r b0 35 v) (hd : DataW.Trod enc Tryd.prog W base sp held 35 v d ps) :
    ∃ x : Opr, v = .agg (opC x) ∧ In64 x.1 ∧ In64 x.2.1 := by
  obtain ⟨v0, v1, v2, y0, y1, y2, m, rfl, rfl, rfl, h0, h1, h2⟩ := Go.Joins.open_agg3 Tryd.underlying35 (by kernel_rfl) (by kernel_rfl) hval hd
  obtain ⟨k, e0, rfl, w0⟩ := DataW.trod_int Tryd.underlying3 h0
  obtain ⟨n, e1, rfl, w1⟩ := DataW.trod_int Tryd.underlying3 h1
  obtain ⟨t, e2, rfl⟩ := DataW.trod_bool Tryd.underlying4 h2
  simp only [List.cons.injEq, and_true] at e0 e1 e2
  subst e0 e1 e2
  exact ⟨(k, n, t), rfl, op_in w0, op_in w1⟩
/-- The three cells of what is done, in a list. -/
theorem op_cells {H : Type} {enc : TypeId × Value → H} {W : World} {sp : Nat → Bool} {held : Bool} {base n : Nat} {a : Addr} {cs : List Value} {x : DataW H × List MemPlace}
    (hc : W.cells? base a (Tryd.prog.cellsOf 35) = some cs) (h : DataW.trod enc Tryd.prog W base sp held n 35 cs = some x) :
    ∃ y : Opr, (In64 y.1 ∧ In64 y.2.1) ∧ ∀ j u, (opC y).toList[j]? = some u → W.cell? (a.add j) = some u := by
  have h3 : Tryd.prog.cellsOf 35 = 3 := by kernel_rfl
  rw [h3] at hc
  obtain ⟨_, hl, hat⟩ := World.cells?_some hc
  obtain ⟨xs, m, _, _, _, hxl, hf⟩ := DataW.trod_struct Tryd.underlying35 h
  have c1 : Tryd.prog.cellsOf 3 = 1 := by kernel_rfl
  have c2 : Tryd.prog.cellsOf 4 = 1 := by kernel_rfl
  match cs, hl with
  | [v0, v1, v2], _ =>
    have hx3 : xs.length = 3 := hxl
    have f0 : DataW.trod enc Tryd.prog W base sp held m 3 (List.take (Tryd.prog.cellsOf 3) (List.drop 0 [v0, v1, v2])) = xs[0]? := hf 0 _ rfl
    have f1 : DataW.trod enc Tryd.prog W base sp held m 3 (List.take (Tryd.prog.cellsOf 3) (List.drop 1 [v0, v1, v2])) = xs[1]? := hf 1 _ rfl
    have f2 : DataW.trod enc Tryd.prog W base sp held m 4 (List.take (Tryd.prog.cellsOf 4) (List.drop 2 [v0, v1, v2])) = xs[2]? := hf 2 _ rfl
    rw [c1] at f0 f1
    rw [c2] at f2
    rw [List.getElem?_eq_getElem (by omega)] at f0 f1 f2
    obtain ⟨k, e0, _, w0⟩ := DataW.trod_int Tryd.underlying3 f0
    obtain ⟨n, e1, _, w1⟩ := DataW.trod_int Tryd.underlying3 f1
    obtain ⟨t, e2, _⟩ := DataW.trod_bool Tryd.underlying4 f2
    obtain rfl : v0 = .int .i64 k := (List.cons.inj e0).1
    obtain rfl : v1 = .int .i64 n := (List.cons.inj e1).1
    obtain rfl : v2 = .bool t := (List.cons.inj e2).1
    refine ⟨(k, n, t), ⟨op_in w0, op_in w1⟩, fun j u hu => ?_⟩
    have hj : j < 3 := by have := (List.getElem?_eq_some_iff.1 hu).1; simpa using this
    rw [hat j hj]
    exact hu
theorem ops_open {H : Type} {enc : TypeId × Value → H} {W : World} {sp : Nat → Bool} {held : Bool} {r : Reach} {b0 base : Nat} {v : Value} {d : DataW H} {ps : List MemPlace}
    (hval : Value.okWide Tryd.prog W r b0 22 v) (hd : DataW.Trod enc Tryd.prog W base sp held 22 v d ps) : ∃ l, OpsAt W v l := by
  obtain ⟨a0, len, cap, rfl⟩ := okWide_slice Tryd.underlying22 hval
  obtain ⟨fuel, hf⟩ := hd
  rcases Go.Deep.open_slice Tryd.underlying22 hf with ⟨hcs, _⟩ | ⟨a, len', cap', m, n, D, Pl, hcs, _, hl, hm, hmm, _, hi⟩
  · simp [Value.cells] at hcs
    obtain ⟨rfl, rfl, rfl⟩ := hcs
    exact ⟨[], none, 0, 0, 0, rfl, fun h => absurd h (by simp), fun j h => absurd h (by simp), fun n h => absurd h (by simp), by simp⟩
  · simp [Value.cells] at hcs
    obtain ⟨rfl, rfl, rfl⟩ := hcs
    have h3 : Tryd.prog.cellsOf 35 = 3 := by kernel_rfl
    have hml : len ≤ m := by rw [hmm]; split <;> omega
    have hel : ∀ i, i < len → ∃ y : Opr, (In64 y.1 ∧ In64 y.2.1) ∧ ∀ j u, (opC y).toList[j]? = some u → W.cell? ((a.add (i * 3)).add j) = some u := fun i hlt => by
      obtain ⟨cs', h1, h2⟩ := hi i (by omega)
      rw [h3] at h1
      exact op_cells (by rw [h3]; exact h1) h2
    classical
    let f : Nat → Opr := fun i => if h : i < len then (hel i h).choose else (0, 0, false)
    have hspot : 0 < len → a.spot = none := fun h0 => by
      obtain ⟨y, _, hy⟩ := hel 0 h0
      have := World.cell?_spot (hy 0 _ rfl)
      simpa [Addr.add] using this
    refine ⟨(List.range len).map f, some a, cap, a.block, a.off, by simp, fun h0 => ?_, fun j hj => ?_, fun y hy => ?_, by simp; omega⟩
    · have := hspot (by simpa using h0)
      obtain ⟨b, off, spot⟩ := a
      simp only at this
      subst this
      rfl
    · have hj' : j < len := by simpa using hj
      have hs := hspot (by omega)
      have hf' : ((List.range len).map f)[j] = (hel j hj').choose := by simp [f, hj']
      rw [hf']
      intro k u hu
      have := (hel j hj').choose_spec.2 k u hu
      rw [← this]
      obtain ⟨b, off, spot⟩ := a
      simp only at hs
      subst hs
      rw [show (⟨b, off, none⟩ : Addr).add (j * 3) = ⟨b, off + j * 3, none⟩ by unfold Addr.add; split <;> simp_all, show (⟨b, off + j * 3, none⟩ : Addr).add k = ⟨b, off + j * 3 + k, none⟩ by unfold Addr.add; split <;> simp_all]
    · obtain ⟨i, hi', rfl⟩ := List.mem_map.1 hy
      have hlt : i < len := by simpa using hi'
      simp only [f, hlt, dif_pos]
      exact (hel i hlt).choose_spec.1
end Go.Proofs.YtmdfpkklnaekmaaDoor
