/- What a row hands on, opened: lists of what is done to ropes. -/
import Derived.Test.YtldemoflgahdgaaLaw08OneB
import Derived.Test.YtldemoflgahdgaaLawKit0
import Derived.Lib.SmallJoins
import Derived.Deep.Slices
import Derived.OpenShut
import Derived.ChangeSlices
namespace Go.Proofs.Ytldemoflgahdgaa
open Go.RowKit Go.ChangeShapes Go.WideShapes Go.ChangeAt
set_option maxRecDepth 1000000

/-- A number that a row hands on is one of 64 bits. -/
theorem inr_wf {n : Int} (h : (Lit.int .i64 n).wf = true) : InR n := bounds_i64 h

/-- The six cells of what is done, in a list. -/
theorem op8_cells {H : Type} {enc : TypeId × Value → H} {W : World} {sp : Nat → Bool} {held : Bool} {base n : Nat} {a : Addr} {cs : List Value} {x : DataW H × List MemPlace}
    (hc : W.cells? base a (Try.prog.cellsOf 57) = some cs) (h : DataW.trod enc Try.prog W base sp held n 57 cs = some x) :
    ∃ y : Op8, (∀ j u, (op8C y).toList[j]? = some u → W.cell? (a.add j) = some u) ∧ InR y.2.1 ∧ InR y.2.2.1 := by
  have h4 : Try.prog.cellsOf 57 = 6 := by kernel_rfl
  rw [h4] at hc
  obtain ⟨_, hl, hat⟩ := World.cells?_some hc
  obtain ⟨xs, m, _, _, _, hxl, hf⟩ := DataW.trod_struct Try.underlying57 h
  have c1 : Try.prog.cellsOf 3 = 1 := by kernel_rfl
  match cs, hl with
  | [v0, v1, v2, v3, v4, v5], _ =>
    have hx4 : xs.length = 6 := hxl
    have f0 : DataW.trod enc Try.prog W base sp held m 3 (List.take (Try.prog.cellsOf 3) (List.drop 0 [v0, v1, v2, v3, v4, v5])) = xs[0]? := hf 0 _ rfl
    have f1 : DataW.trod enc Try.prog W base sp held m 3 (List.take (Try.prog.cellsOf 3) (List.drop 1 [v0, v1, v2, v3, v4, v5])) = xs[1]? := hf 1 _ rfl
    have f2 : DataW.trod enc Try.prog W base sp held m 3 (List.take (Try.prog.cellsOf 3) (List.drop 2 [v0, v1, v2, v3, v4, v5])) = xs[2]? := hf 2 _ rfl
    have f3 : DataW.trod enc Try.prog W base sp held m 3 (List.take (Try.prog.cellsOf 3) (List.drop 3 [v0, v1, v2, v3, v4, v5])) = xs[3]? := hf 3 _ rfl
    have f4 : DataW.trod enc Try.prog W base sp held m 3 (List.take (Try.prog.cellsOf 3) (List.drop 4 [v0, v1, v2, v3, v4, v5])) = xs[4]? := hf 4 _ rfl
    have f5 : DataW.trod enc Try.prog W base sp held m 3 (List.take (Try.prog.cellsOf 3) (List.drop 5 [v0, v1, v2, v3, v4, v5])) = xs[5]? := hf 5 _ rfl
    rw [c1] at f0 f1 f2 f3 f4 f5
    rw [List.getElem?_eq_getElem (by omega)] at f0 f1 f2 f3 f4 f5
    obtain ⟨k, e0, _, w0⟩ := DataW.trod_int Try.underlying3 f0
    obtain ⟨n, e1, _, w1⟩ := DataW.trod_int Try.underlying3 f1
    obtain ⟨p, e2, _, w2⟩ := DataW.trod_int Try.underlying3 f2
    obtain ⟨q, e3, _, w3⟩ := DataW.trod_int Try.underlying3 f3
    obtain ⟨s, e4, _, w4⟩ := DataW.trod_int Try.underlying3 f4
    obtain ⟨u, e5, _, w5⟩ := DataW.trod_int Try.underlying3 f5
    obtain rfl : v0 = .int .i64 k := (List.cons.inj e0).1
    obtain rfl : v1 = .int .i64 n := (List.cons.inj e1).1
    obtain rfl : v2 = .int .i64 p := (List.cons.inj e2).1
    obtain rfl : v3 = .int .i64 q := (List.cons.inj e3).1
    obtain rfl : v4 = .int .i64 s := (List.cons.inj e4).1
    obtain rfl : v5 = .int .i64 u := (List.cons.inj e5).1
    refine ⟨(k, n, p, q, s, u), fun j u hu => ?_, inr_wf w1, inr_wf w2⟩
    have hj : j < 6 := by have := (List.getElem?_eq_some_iff.1 hu).1; simpa using this
    rw [hat j hj]
    exact hu
theorem ops8_open {H : Type} {enc : TypeId × Value → H} {W : World} {sp : Nat → Bool} {held : Bool} {r : Reach} {b0 base : Nat} {v : Value} {d : DataW H} {ps : List MemPlace}
    (hval : Value.okWide Try.prog W r b0 22 v) (hd : DataW.Trod enc Try.prog W base sp held 22 v d ps) : ∃ l, Ops8 W v l ∧ ∀ o ∈ l, InR o.2.1 ∧ InR o.2.2.1 := by
  obtain ⟨a0, len, cap, rfl⟩ := okWide_slice Try.underlying22 hval
  obtain ⟨fuel, hf⟩ := hd
  rcases Go.Deep.open_slice Try.underlying22 hf with ⟨hcs, _⟩ | ⟨a, len', cap', m, n, D, Pl, hcs, _, hl, hm, hmm, _, hi⟩
  · simp [Value.cells] at hcs
    obtain ⟨rfl, rfl, rfl⟩ := hcs
    exact ⟨[], ⟨none, 0, 0, 0, rfl, fun h => absurd h (by simp), fun j h => absurd h (by simp), by simp⟩, fun o h => by cases h⟩
  · simp [Value.cells] at hcs
    obtain ⟨rfl, rfl, rfl⟩ := hcs
    have h4 : Try.prog.cellsOf 57 = 6 := by kernel_rfl
    have hml : len ≤ m := by rw [hmm]; split <;> omega
    have hel : ∀ i, i < len → ∃ y : Op8, (∀ j u, (op8C y).toList[j]? = some u → W.cell? ((a.add (i * 6)).add j) = some u) ∧ InR y.2.1 ∧ InR y.2.2.1 := fun i hlt => by
      obtain ⟨cs', h1, h2⟩ := hi i (by omega)
      rw [h4] at h1
      exact op8_cells (by rw [h4]; exact h1) h2
    classical
    let f : Nat → Op8 := fun i => if h : i < len then (hel i h).choose else (0, 0, 0, 0, 0, 0)
    have hspot : 0 < len → a.spot = none := fun h0 => by
      obtain ⟨y, hy⟩ := hel 0 h0
      have := World.cell?_spot (hy.1 0 _ rfl)
      simpa [Addr.add] using this
    refine ⟨(List.range len).map f, ⟨some a, cap, a.block, a.off, by simp, fun h0 => ?_, fun j hj => ?_, by simp; omega⟩, fun o ho => ?_⟩
    · have := hspot (by simpa using h0)
      obtain ⟨b, off, spot⟩ := a
      simp only at this
      subst this
      rfl
    · have hj' : j < len := by simpa using hj
      have hs := hspot (by omega)
      have hf' : ((List.range len).map f)[j] = (hel j hj').choose := by simp [f, hj']
      rw [hf']
      intro k u hu
      have := (hel j hj').choose_spec.1 k u hu
      rw [← this]
      obtain ⟨b, off, spot⟩ := a
      simp only at hs
      subst hs
      rw [show (⟨b, off, none⟩ : Addr).add (j * 6) = ⟨b, off + j * 6, none⟩ by unfold Addr.add; split <;> simp_all, show (⟨b, off + j * 6, none⟩ : Addr).add k = ⟨b, off + j * 6 + k, none⟩ by unfold Addr.add; split <;> simp_all]
    · obtain ⟨j, hj, rfl⟩ := List.mem_map.1 ho
      have hj' : j < len := by simpa using hj
      have hf' : f j = (hel j hj').choose := by simp [f, hj']
      rw [hf']
      exact (hel j hj').choose_spec.2
end Go.Proofs.Ytldemoflgahdgaa
