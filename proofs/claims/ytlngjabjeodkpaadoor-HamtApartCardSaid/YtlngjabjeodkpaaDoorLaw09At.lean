/- What a row hands on, opened: a Conf, what is done to a map, lists of it, lists of texts; the tables that are listed. -/
import Derived.Test.YtlngjabjeodkpaaDoorLaw09B
import Derived.Test.YtlngjabjeodkpaaDoorLawKit
import Derived.Lib.SmallJoins
import Derived.Deep.Slices
import Derived.OpenShut
import Derived.ChangeSlices
namespace Go.Proofs.YtlngjabjeodkpaaDoor
open Go.RowKit Go.ChangeShapes Go.WideShapes Go.ChangeAt
set_option maxRecDepth 1000000

/-- The table of the lowest bits lies as the row lists it. -/
theorem tab6_of_laid {W : World} (h : laidMetH Tryd.prog Rows.hamtBranchesRow.laid W) : Tab6 W := by
  rw [MakeChecks.laidMetH_plain _ _ _ (by kernel_rfl)] at h
  have ht : Lib.TabIs Tryd.prog W (Rows.hamtBranchesRow.named.getD 0 (String.ofList [])) .u8 (Lib.deBruijn32tab.map fun n : Nat => (n : Int)) :=
    Lib.tabIs_of_head (rest := Rows.hamtBranchesRow.laid.drop (0 + 1)) (g := 0) (t := 132) (e := 5) (n := 32) (by kernel_rfl) (by kernel_rfl) Tryd.underlying132 Tryd.underlying5 (by kernel_rfl) (by kernel_rfl) (laid_drop 0 h)
  intro j hj
  have h1 := ht.cell (g := 0) (by kernel_rfl) j (by simpa [Lib.deBruijn32tab] using hj)
  rw [h1]
  congr 2
  rw [List.getD_eq_getElem?_getD, List.getD_eq_getElem?_getD, List.getElem?_map]
  cases Lib.deBruijn32tab[j]? <;> rfl
theorem tabs_of_laid {W : World} (h : laidMetH Tryd.prog Rows.hamtBranchesRow.laid W) : Tabs W := ⟨tab6_of_laid h, tab_of_laid h⟩
/-- A Conf by value, opened. -/
theorem conf_open {H : Type} {enc : TypeId × Value → H} {W : World} {sp : Nat → Bool} {held : Bool} {r : Reach} {b0 base : Nat} {v : Value} {d : DataW H} {ps : List MemPlace}
    (hval : Value.okWide Tryd.prog W r b0 24 v) (hd : DataW.Trod enc Tryd.prog W base sp held 24 v d ps) :
    ∃ (s : Nat) (n : Int), v = .agg #[.int .u64 (s : Int), .int .i64 n] ∧ s < 18446744073709551616 := by
  obtain ⟨v0, v1, y0, y1, m, rfl, rfl, rfl, h0, h1⟩ := Go.Joins.open_agg2 Tryd.underlying24 (by kernel_rfl) (by kernel_rfl) hval hd
  obtain ⟨k, e0, rfl, w0⟩ := DataW.trod_int Tryd.underlying22 h0
  obtain ⟨n, e1, rfl, w1⟩ := DataW.trod_int Tryd.underlying3 h1
  simp only [List.cons.injEq, and_true] at e0 e1
  subst e0 e1
  have h2 := Bool.and_eq_true_iff.1 (show (decide (IntKind.u64.min ≤ k) && decide (k ≤ IntKind.u64.max)) = true from w0)
  have h3 : (0 : Int) ≤ k := of_decide_eq_true h2.1
  have h4 : k ≤ 18446744073709551615 := of_decide_eq_true h2.2
  exact ⟨k.toNat, n, by rw [Int.toNat_of_nonneg h3], by omega⟩
/-- What is done, by value, opened. -/
theorem op9_open {H : Type} {enc : TypeId × Value → H} {W : World} {sp : Nat → Bool} {held : Bool} {r : Reach} {b0 base : Nat} {v : Value} {d : DataW H} {ps : List MemPlace}
    (hval : Value.okWide Tryd.prog W r b0 43 v) (hd : DataW.Trod enc Tryd.prog W base sp held 43 v d ps) :
    ∃ x : Op9, v = .agg (op9C x) := by
  obtain ⟨v0, v1, v2, y0, y1, y2, m, rfl, rfl, rfl, h0, h1, h2⟩ := Go.Joins.open_agg3 Tryd.underlying43 (by kernel_rfl) (by kernel_rfl) hval hd
  obtain ⟨k, e0, rfl, w0⟩ := DataW.trod_string Tryd.underlying9 h0
  obtain ⟨n, e1, rfl, w1⟩ := DataW.trod_int Tryd.underlying3 h1
  obtain ⟨t, e2, rfl⟩ := DataW.trod_bool Tryd.underlying4 h2
  simp only [List.cons.injEq, and_true] at e0 e1 e2
  subst e0 e1 e2
  exact ⟨(k, n, t), rfl⟩
/-- The three cells of what is done, in a list. -/
theorem op9_cells {H : Type} {enc : TypeId × Value → H} {W : World} {sp : Nat → Bool} {held : Bool} {base n : Nat} {a : Addr} {cs : List Value} {x : DataW H × List MemPlace}
    (hc : W.cells? base a (Tryd.prog.cellsOf 43) = some cs) (h : DataW.trod enc Tryd.prog W base sp held n 43 cs = some x) :
    ∃ y : Op9, ∀ j u, (op9C y).toList[j]? = some u → W.cell? (a.add j) = some u := by
  have h3 : Tryd.prog.cellsOf 43 = 3 := by kernel_rfl
  rw [h3] at hc
  obtain ⟨_, hl, hat⟩ := World.cells?_some hc
  obtain ⟨xs, m, _, _, _, hxl, hf⟩ := DataW.trod_struct Tryd.underlying43 h
  have c0 : Tryd.prog.cellsOf 9 = 1 := by kernel_rfl
  have c1 : Tryd.prog.cellsOf 3 = 1 := by kernel_rfl
  have c2 : Tryd.prog.cellsOf 4 = 1 := by kernel_rfl
  match cs, hl with
  | [v0, v1, v2], _ =>
    have hx3 : xs.length = 3 := hxl
    have f0 : DataW.trod enc Tryd.prog W base sp held m 9 (List.take (Tryd.prog.cellsOf 9) (List.drop 0 [v0, v1, v2])) = xs[0]? := hf 0 _ rfl
    have f1 : DataW.trod enc Tryd.prog W base sp held m 3 (List.take (Tryd.prog.cellsOf 3) (List.drop 1 [v0, v1, v2])) = xs[1]? := hf 1 _ rfl
    have f2 : DataW.trod enc Tryd.prog W base sp held m 4 (List.take (Tryd.prog.cellsOf 4) (List.drop 2 [v0, v1, v2])) = xs[2]? := hf 2 _ rfl
    rw [c0] at f0
    rw [c1] at f1
    rw [c2] at f2
    rw [List.getElem?_eq_getElem (by omega)] at f0 f1 f2
    obtain ⟨k, e0, _, w0⟩ := DataW.trod_string Tryd.underlying9 f0
    obtain ⟨n, e1, _, w1⟩ := DataW.trod_int Tryd.underlying3 f1
    obtain ⟨t, e2, _⟩ := DataW.trod_bool Tryd.underlying4 f2
    obtain rfl : v0 = .string k := (List.cons.inj e0).1
    obtain rfl : v1 = .int .i64 n := (List.cons.inj e1).1
    obtain rfl : v2 = .bool t := (List.cons.inj e2).1
    refine ⟨(k, n, t), fun j u hu => ?_⟩
    have hj : j < 3 := by have := (List.getElem?_eq_some_iff.1 hu).1; simpa using this
    rw [hat j hj]
    exact hu
theorem ops9_open {H : Type} {enc : TypeId × Value → H} {W : World} {sp : Nat → Bool} {held : Bool} {r : Reach} {b0 base : Nat} {v : Value} {d : DataW H} {ps : List MemPlace}
    (hval : Value.okWide Tryd.prog W r b0 25 v) (hd : DataW.Trod enc Tryd.prog W base sp held 25 v d ps) : ∃ l, Ops9 W v l := by
  obtain ⟨a0, len, cap, rfl⟩ := okWide_slice Tryd.underlying25 hval
  obtain ⟨fuel, hf⟩ := hd
  rcases Go.Deep.open_slice Tryd.underlying25 hf with ⟨hcs, _⟩ | ⟨a, len', cap', m, n, D, Pl, hcs, _, hl, hm, hmm, _, hi⟩
  · simp [Value.cells] at hcs
    obtain ⟨rfl, rfl, rfl⟩ := hcs
    exact ⟨[], none, 0, 0, 0, rfl, fun h => absurd h (by simp), fun j h => absurd h (by simp), by simp⟩
  · simp [Value.cells] at hcs
    obtain ⟨rfl, rfl, rfl⟩ := hcs
    have h3 : Tryd.prog.cellsOf 43 = 3 := by kernel_rfl
    have hml : len ≤ m := by rw [hmm]; split <;> omega
    have hel : ∀ i, i < len → ∃ y : Op9, ∀ j u, (op9C y).toList[j]? = some u → W.cell? ((a.add (i * 3)).add j) = some u := fun i hlt => by
      obtain ⟨cs', h1, h2⟩ := hi i (by omega)
      rw [h3] at h1
      exact op9_cells (by rw [h3]; exact h1) h2
    classical
    let f : Nat → Op9 := fun i => if h : i < len then (hel i h).choose else (⟨#[]⟩, 0, false)
    have hspot : 0 < len → a.spot = none := fun h0 => by
      obtain ⟨y, hy⟩ := hel 0 h0
      have := World.cell?_spot (hy 0 _ rfl)
      simpa [Addr.add] using this
    refine ⟨(List.range len).map f, some a, cap, a.block, a.off, by simp, fun h0 => ?_, fun j hj => ?_, by simp; omega⟩
    · have := hspot (by simpa using h0)
      obtain ⟨b, off, spot⟩ := a
      simp only at this
      subst this
      rfl
    · have hj' : j < len := by simpa using hj
      have hs := hspot (by omega)
      have hf' : ((List.range len).map f)[j] = (hel j hj').choose := by simp [f, hj']
      rw [hf']
      intro k u hu
      have := (hel j hj').choose_spec k u hu
      rw [← this]
      obtain ⟨b, off, spot⟩ := a
      simp only at hs
      subst hs
      rw [show (⟨b, off, none⟩ : Addr).add (j * 3) = ⟨b, off + j * 3, none⟩ by unfold Addr.add; split <;> simp_all, show (⟨b, off + j * 3, none⟩ : Addr).add k = ⟨b, off + j * 3 + k, none⟩ by unfold Addr.add; split <;> simp_all]
theorem strs9_open {H : Type} {enc : TypeId × Value → H} {W : World} {sp : Nat → Bool} {held : Bool} {r : Reach} {b0 base : Nat} {v : Value} {d : DataW H} {ps : List MemPlace}
    (hval : Value.okWide Tryd.prog W r b0 38 v) (hd : DataW.Trod enc Tryd.prog W base sp held 38 v d ps) : ∃ l, StrsAt W v l := by
  obtain ⟨a0, len, cap, rfl⟩ := okWide_slice Tryd.underlying38 hval
  obtain ⟨fuel, hf⟩ := hd
  rcases Go.Deep.open_slice Tryd.underlying38 hf with ⟨hcs, _⟩ | ⟨a, len', cap', m, n, D, Pl, hcs, _, hl, hm, hmm, _, hi⟩
  · simp [Value.cells] at hcs
    obtain ⟨rfl, rfl, rfl⟩ := hcs
    exact ⟨[], none, 0, 0, 0, rfl, fun h => absurd h (by simp), fun j h => absurd h (by simp), by simp⟩
  · simp [Value.cells] at hcs
    obtain ⟨rfl, rfl, rfl⟩ := hcs
    have h3 : Tryd.prog.cellsOf 9 = 1 := by kernel_rfl
    have hml : len ≤ m := by rw [hmm]; split <;> omega
    have hel : ∀ i, i < len → ∃ y : ByteArray, W.cell? (a.add (i * 1)) = some (.string y) := fun i hlt => by
      obtain ⟨cs', h1, h2⟩ := hi i (by omega)
      rw [h3] at h1
      obtain ⟨_, hl', hat⟩ := World.cells?_some h1
      obtain ⟨s, e, _, _⟩ := DataW.trod_string Tryd.underlying9 h2
      refine ⟨s, ?_⟩
      have h5 := hat 0 (by omega)
      rw [e] at h5
      rw [show (a.add (i * 1)).add 0 = a.add (i * 1) by simp [Addr.add]] at h5
      exact h5
    classical
    let f : Nat → ByteArray := fun i => if h : i < len then (hel i h).choose else ⟨#[]⟩
    have hspot : 0 < len → a.spot = none := fun h0 => by
      obtain ⟨y, hy⟩ := hel 0 h0
      have := World.cell?_spot hy
      simpa [Addr.add] using this
    refine ⟨(List.range len).map f, some a, cap, a.block, a.off, by simp, fun h0 => ?_, fun j hj => ?_, by simp; omega⟩
    · have := hspot (by simpa using h0)
      obtain ⟨b, off, spot⟩ := a
      simp only at this
      subst this
      rfl
    · have hj' : j < len := by simpa using hj
      have hs := hspot (by omega)
      have hf' : ((List.range len).map f)[j] = (hel j hj').choose := by simp [f, hj']
      rw [hf']
      have := (hel j hj').choose_spec
      rw [← this]
      obtain ⟨b, off, spot⟩ := a
      simp only at hs
      subst hs
      rw [show (⟨b, off, none⟩ : Addr).add (j * 1) = ⟨b, off + j, none⟩ by unfold Addr.add; split <;> simp_all]
end Go.Proofs.YtlngjabjeodkpaaDoor
