/- What a row hands on, opened: lists of what is done to vectors. -/
import Derived.Test.YtpjbhdplginbaaaLaw07Spec
import Derived.Test.YtpjbhdplginbaaaLawKit0
import Derived.Lib.SmallJoins
import Derived.Deep.Slices
import Derived.OpenShut
import Derived.ChangeSlices
namespace Go.Proofs.Ytpjbhdplginbaaa
open Go.RowKit Go.ChangeShapes Go.WideShapes Go.ChangeAt
set_option maxRecDepth 1000000

/-- The four cells of what is done, in a list. -/
theorem op7_cells {H : Type} {enc : TypeId × Value → H} {W : World} {sp : Nat → Bool} {held : Bool} {base n : Nat} {a : Addr} {cs : List Value} {x : DataW H × List MemPlace}
    (hc : W.cells? base a (Try.prog.cellsOf 34) = some cs) (h : DataW.trod enc Try.prog W base sp held n 34 cs = some x) :
    ∃ y : Op7, ∀ j u, (op7C y).toList[j]? = some u → W.cell? (a.add j) = some u := by
  have h4 : Try.prog.cellsOf 34 = 4 := by kernel_rfl
  rw [h4] at hc
  obtain ⟨_, hl, hat⟩ := World.cells?_some hc
  obtain ⟨xs, m, _, _, _, hxl, hf⟩ := DataW.trod_struct Try.underlying34 h
  have c1 : Try.prog.cellsOf 3 = 1 := by kernel_rfl
  match cs, hl with
  | [v0, v1, v2, v3], _ =>
    have hx4 : xs.length = 4 := hxl
    have f0 : DataW.trod enc Try.prog W base sp held m 3 (List.take (Try.prog.cellsOf 3) (List.drop 0 [v0, v1, v2, v3])) = xs[0]? := hf 0 _ rfl
    have f1 : DataW.trod enc Try.prog W base sp held m 3 (List.take (Try.prog.cellsOf 3) (List.drop 1 [v0, v1, v2, v3])) = xs[1]? := hf 1 _ rfl
    have f2 : DataW.trod enc Try.prog W base sp held m 3 (List.take (Try.prog.cellsOf 3) (List.drop 2 [v0, v1, v2, v3])) = xs[2]? := hf 2 _ rfl
    have f3 : DataW.trod enc Try.prog W base sp held m 3 (List.take (Try.prog.cellsOf 3) (List.drop 3 [v0, v1, v2, v3])) = xs[3]? := hf 3 _ rfl
    rw [c1] at f0 f1 f2 f3
    rw [List.getElem?_eq_getElem (by omega)] at f0 f1 f2 f3
    obtain ⟨k, e0, _, w0⟩ := DataW.trod_int Try.underlying3 f0
    obtain ⟨n, e1, _, w1⟩ := DataW.trod_int Try.underlying3 f1
    obtain ⟨p, e2, _, w2⟩ := DataW.trod_int Try.underlying3 f2
    obtain ⟨q, e3, _, w3⟩ := DataW.trod_int Try.underlying3 f3
    obtain rfl : v0 = .int .i64 k := (List.cons.inj e0).1
    obtain rfl : v1 = .int .i64 n := (List.cons.inj e1).1
    obtain rfl : v2 = .int .i64 p := (List.cons.inj e2).1
    obtain rfl : v3 = .int .i64 q := (List.cons.inj e3).1
    refine ⟨(k, n, p, q), fun j u hu => ?_⟩
    have hj : j < 4 := by have := (List.getElem?_eq_some_iff.1 hu).1; simpa using this
    rw [hat j hj]
    exact hu
theorem ops7_open {H : Type} {enc : TypeId × Value → H} {W : World} {sp : Nat → Bool} {held : Bool} {r : Reach} {b0 base : Nat} {v : Value} {d : DataW H} {ps : List MemPlace}
    (hval : Value.okWide Try.prog W r b0 22 v) (hd : DataW.Trod enc Try.prog W base sp held 22 v d ps) : ∃ l, Ops7 W v l := by
  obtain ⟨a0, len, cap, rfl⟩ := okWide_slice Try.underlying22 hval
  obtain ⟨fuel, hf⟩ := hd
  rcases Go.Deep.open_slice Try.underlying22 hf with ⟨hcs, _⟩ | ⟨a, len', cap', m, n, D, Pl, hcs, _, hl, hm, hmm, _, hi⟩
  · simp [Value.cells] at hcs
    obtain ⟨rfl, rfl, rfl⟩ := hcs
    exact ⟨[], none, 0, 0, 0, rfl, fun h => absurd h (by simp), fun j h => absurd h (by simp), by simp⟩
  · simp [Value.cells] at hcs
    obtain ⟨rfl, rfl, rfl⟩ := hcs
    have h4 : Try.prog.cellsOf 34 = 4 := by kernel_rfl
    have hml : len ≤ m := by rw [hmm]; split <;> omega
    have hel : ∀ i, i < len → ∃ y : Op7, ∀ j u, (op7C y).toList[j]? = some u → W.cell? ((a.add (i * 4)).add j) = some u := fun i hlt => by
      obtain ⟨cs', h1, h2⟩ := hi i (by omega)
      rw [h4] at h1
      exact op7_cells (by rw [h4]; exact h1) h2
    classical
    let f : Nat → Op7 := fun i => if h : i < len then (hel i h).choose else (0, 0, 0, 0)
    have hspot : 0 < len → a.spot = none := fun h0 => by
      obtain ⟨y, hy⟩ := hel 0 h0
      have := World.cell?_spot (hy 0 _ rfl)
      simpa [Addr.add] using this
    refine ⟨(List.range len).map f, some a, cap, a.block, a.off, by simp, fun h0 => ?_, fun j hj => ?_, by simp; omega⟩
    · have := hspot (by simpa using h0)
      obtain ⟨b, off, spot⟩ := a
      simp only at this
      subst this
      rfl
    · have hj' : j < len := by simpa using hj
      have hs := hspot (by omega)
      have hf' : ((List.range len).map f)[j] = (hel j hj').choose := by simp [f, hj']
      rw [hf']
      intro k u hu
      have := (hel j hj').choose_spec k u hu
      rw [← this]
      obtain ⟨b, off, spot⟩ := a
      simp only at hs
      subst hs
      rw [show (⟨b, off, none⟩ : Addr).add (j * 4) = ⟨b, off + j * 4, none⟩ by unfold Addr.add; split <;> simp_all, show (⟨b, off + j * 4, none⟩ : Addr).add k = ⟨b, off + j * 4 + k, none⟩ by unfold Addr.add; split <;> simp_all]
end Go.Proofs.Ytpjbhdplginbaaa
