/- What a row hands on, opened: a Conf, lists of pairs, lists of changes; the table that is listed. (written by tools/gen10/at.py) -/
import Derived.Test.YtnnlfgfgfegjkaaDoorLaw10P
import Derived.Test.YtnnlfgfgfegjkaaDoorLawKit
import Derived.Lib.SmallJoins
import Derived.Deep.Slices
import Derived.OpenShut
import Derived.ChangeSlices
namespace Go.Proofs.YtnnlfgfgfegjkaaDoor
open Go.RowKit Go.ChangeShapes Go.WideShapes Go.ChangeAt
set_option maxRecDepth 1000000

/-- The table of the lowest bits lies as the row lists it. -/
theorem tab6_of_laid {W : World} (h : laidMetH Tryd.prog Rows.dictAsksRow.laid W) : Tab6 W := by
  rw [MakeChecks.laidMetH_plain _ _ _ (by kernel_rfl)] at h
  have ht : Lib.TabIs Tryd.prog W (Rows.dictAsksRow.named.getD 0 (String.ofList [])) .u8 (Lib.deBruijn32tab.map fun n : Nat => (n : Int)) :=
    Lib.tabIs_of_head (rest := Rows.dictAsksRow.laid.drop (0 + 1)) (g := 1) (t := 160) (e := 5) (n := 32) (by kernel_rfl) (by kernel_rfl) Tryd.underlying160 Tryd.underlying5 (by kernel_rfl) (by kernel_rfl) (laid_drop 0 h)
  intro j hj
  have h1 := ht.cell (g := 1) (by kernel_rfl) j (by simpa [Lib.deBruijn32tab] using hj)
  rw [h1]
  congr 2
  rw [List.getD_eq_getElem?_getD, List.getD_eq_getElem?_getD, List.getElem?_map]
  cases Lib.deBruijn32tab[j]? <;> rfl
/-- A Conf by value, opened. -/
theorem conf_open {H : Type} {enc : TypeId × Value → H} {W : World} {sp : Nat → Bool} {held : Bool} {r : Reach} {b0 base : Nat} {v : Value} {d : DataW H} {ps : List MemPlace}
    (hval : Value.okWide Tryd.prog W r b0 24 v) (hd : DataW.Trod enc Tryd.prog W base sp held 24 v d ps) :
    ∃ (s : Nat) (n : Int), v = .agg #[.int .u64 (s : Int), .int .i64 n] ∧ s < 18446744073709551616 := by
  obtain ⟨v0, v1, y0, y1, m, rfl, rfl, rfl, h0, h1⟩ := Go.Joins.open_agg2 Tryd.underlying24 (by kernel_rfl) (by kernel_rfl) hval hd
  obtain ⟨k, e0, rfl, w0⟩ := DataW.trod_int Tryd.underlying22 h0
  obtain ⟨n, e1, rfl, w1⟩ := DataW.trod_int Tryd.underlying3 h1
  simp only [List.cons.injEq, and_true] at e0 e1
  subst e0 e1
  have h2 := Bool.and_eq_true_iff.1 (show (decide (IntKind.u64.min ≤ k) && decide (k ≤ IntKind.u64.max)) = true from w0)
  have h3 : (0 : Int) ≤ k := of_decide_eq_true h2.1
  have h4 : k ≤ 18446744073709551615 := of_decide_eq_true h2.2
  exact ⟨k.toNat, n, by rw [Int.toNat_of_nonneg h3], by omega⟩
theorem pr_cells {H : Type} {enc : TypeId × Value → H} {W : World} {sp : Nat → Bool} {held : Bool} {base n : Nat} {a : Addr} {cs : List Value} {x : DataW H × List MemPlace}
    (hc : W.cells? base a (Tryd.prog.cellsOf 88) = some cs) (h : DataW.trod enc Tryd.prog W base sp held n 88 cs = some x) :
    ∃ y : Ent, ∀ j u, (prC y).toList[j]? = some u → W.cell? (a.add j) = some u := by
  have h3 : Tryd.prog.cellsOf 88 = 2 := by kernel_rfl
  rw [h3] at hc
  obtain ⟨_, hl, hat⟩ := World.cells?_some hc
  obtain ⟨xs, m, _, _, _, hxl, hf⟩ := DataW.trod_struct Tryd.underlying88 h
  have c0 : Tryd.prog.cellsOf 9 = 1 := by kernel_rfl
  have c1 : Tryd.prog.cellsOf 3 = 1 := by kernel_rfl
  match cs, hl with
  | [v0, v1], _ =>
    have hx3 : xs.length = 2 := hxl
    have f0 : DataW.trod enc Tryd.prog W base sp held m 9 (List.take (Tryd.prog.cellsOf 9) (List.drop 0 [v0, v1])) = xs[0]? := hf 0 _ rfl
    have f1 : DataW.trod enc Tryd.prog W base sp held m 3 (List.take (Tryd.prog.cellsOf 3) (List.drop 1 [v0, v1])) = xs[1]? := hf 1 _ rfl
    rw [c0] at f0
    rw [c1] at f1
    rw [List.getElem?_eq_getElem (by omega)] at f0 f1
    obtain ⟨y0, e0, _, _⟩ := DataW.trod_string Tryd.underlying9 f0
    obtain ⟨y1, e1, _, _⟩ := DataW.trod_int Tryd.underlying3 f1
    obtain rfl : v0 = .string y0 := (List.cons.inj e0).1
    obtain rfl : v1 = .int .i64 y1 := (List.cons.inj e1).1
    refine ⟨(y0, y1), fun j u hu => ?_⟩
    have hj : j < 2 := by have := (List.getElem?_eq_some_iff.1 hu).1; simpa using this
    rw [hat j hj]
    exact hu
theorem prs_open {H : Type} {enc : TypeId × Value → H} {W : World} {sp : Nat → Bool} {held : Bool} {r : Reach} {b0 base : Nat} {v : Value} {d : DataW H} {ps : List MemPlace}
    (hval : Value.okWide Tryd.prog W r b0 25 v) (hd : DataW.Trod enc Tryd.prog W base sp held 25 v d ps) : ∃ l, Prs W v l := by
  obtain ⟨a0, len, cap, rfl⟩ := okWide_slice Tryd.underlying25 hval
  obtain ⟨fuel, hf⟩ := hd
  rcases Go.Deep.open_slice Tryd.underlying25 hf with ⟨hcs, _⟩ | ⟨a, len', cap', m, n, D, Pl, hcs, _, hl, hm, hmm, _, hi⟩
  · simp [Value.cells] at hcs
    obtain ⟨rfl, rfl, rfl⟩ := hcs
    exact ⟨[], none, 0, 0, 0, rfl, fun h => absurd h (by simp), fun j h => absurd h (by simp), by simp⟩
  · simp [Value.cells] at hcs
    obtain ⟨rfl, rfl, rfl⟩ := hcs
    have h3 : Tryd.prog.cellsOf 88 = 2 := by kernel_rfl
    have hml : len ≤ m := by rw [hmm]; split <;> omega
    have hel : ∀ i, i < len → ∃ y : Ent, ∀ j u, (prC y).toList[j]? = some u → W.cell? ((a.add (i * 2)).add j) = some u := fun i hlt => by
      obtain ⟨cs', h1, h2⟩ := hi i (by omega)
      rw [h3] at h1
      exact pr_cells (by rw [h3]; exact h1) h2
    classical
    let f : Nat → Ent := fun i => if h : i < len then (hel i h).choose else (⟨#[]⟩, 0)
    have hspot : 0 < len → a.spot = none := fun h0 => by
      obtain ⟨y, hy⟩ := hel 0 h0
      have := World.cell?_spot (hy 0 _ rfl)
      simpa [Addr.add] using this
    refine ⟨(List.range len).map f, some a, cap, a.block, a.off, by simp, fun h0 => ?_, fun j hj => ?_, by simp; omega⟩
    · have := hspot (by simpa using h0)
      obtain ⟨b, off, spot⟩ := a
      simp only at this
      subst this
      rfl
    · have hj' : j < len := by simpa using hj
      have hs := hspot (by omega)
      have hf' : ((List.range len).map f)[j] = (hel j hj').choose := by simp [f, hj']
      rw [hf']
      intro k u hu
      have := (hel j hj').choose_spec k u hu
      rw [← this]
      obtain ⟨b, off, spot⟩ := a
      simp only at hs
      subst hs
      rw [show (⟨b, off, none⟩ : Addr).add (j * 2) = ⟨b, off + j * 2, none⟩ by unfold Addr.add; split <;> simp_all, show (⟨b, off + j * 2, none⟩ : Addr).add k = ⟨b, off + j * 2 + k, none⟩ by unfold Addr.add; split <;> simp_all]
theorem ap_cells {H : Type} {enc : TypeId × Value → H} {W : World} {sp : Nat → Bool} {held : Bool} {base n : Nat} {a : Addr} {cs : List Value} {x : DataW H × List MemPlace}
    (hc : W.cells? base a (Tryd.prog.cellsOf 72) = some cs) (h : DataW.trod enc Tryd.prog W base sp held n 72 cs = some x) :
    ∃ y : Chg, ∀ j u, (chgC y).toList[j]? = some u → W.cell? (a.add j) = some u := by
  have h3 : Tryd.prog.cellsOf 72 = 5 := by kernel_rfl
  rw [h3] at hc
  obtain ⟨_, hl, hat⟩ := World.cells?_some hc
  obtain ⟨xs, m, _, _, _, hxl, hf⟩ := DataW.trod_struct Tryd.underlying72 h
  have c0 : Tryd.prog.cellsOf 9 = 1 := by kernel_rfl
  have c1 : Tryd.prog.cellsOf 4 = 1 := by kernel_rfl
  have c2 : Tryd.prog.cellsOf 4 = 1 := by kernel_rfl
  have c3 : Tryd.prog.cellsOf 3 = 1 := by kernel_rfl
  have c4 : Tryd.prog.cellsOf 3 = 1 := by kernel_rfl
  match cs, hl with
  | [v0, v1, v2, v3, v4], _ =>
    have hx3 : xs.length = 5 := hxl
    have f0 : DataW.trod enc Tryd.prog W base sp held m 9 (List.take (Tryd.prog.cellsOf 9) (List.drop 0 [v0, v1, v2, v3, v4])) = xs[0]? := hf 0 _ rfl
    have f1 : DataW.trod enc Tryd.prog W base sp held m 4 (List.take (Tryd.prog.cellsOf 4) (List.drop 1 [v0, v1, v2, v3, v4])) = xs[1]? := hf 1 _ rfl
    have f2 : DataW.trod enc Tryd.prog W base sp held m 4 (List.take (Tryd.prog.cellsOf 4) (List.drop 2 [v0, v1, v2, v3, v4])) = xs[2]? := hf 2 _ rfl
    have f3 : DataW.trod enc Tryd.prog W base sp held m 3 (List.take (Tryd.prog.cellsOf 3) (List.drop 3 [v0, v1, v2, v3, v4])) = xs[3]? := hf 3 _ rfl
    have f4 : DataW.trod enc Tryd.prog W base sp held m 3 (List.take (Tryd.prog.cellsOf 3) (List.drop 4 [v0, v1, v2, v3, v4])) = xs[4]? := hf 4 _ rfl
    rw [c0] at f0
    rw [c1] at f1
    rw [c2] at f2
    rw [c3] at f3
    rw [c4] at f4
    rw [List.getElem?_eq_getElem (by omega)] at f0 f1 f2 f3 f4
    obtain ⟨y0, e0, _, _⟩ := DataW.trod_string Tryd.underlying9 f0
    obtain ⟨y1, e1, _⟩ := DataW.trod_bool Tryd.underlying4 f1
    obtain ⟨y2, e2, _⟩ := DataW.trod_bool Tryd.underlying4 f2
    obtain ⟨y3, e3, _, _⟩ := DataW.trod_int Tryd.underlying3 f3
    obtain ⟨y4, e4, _, _⟩ := DataW.trod_int Tryd.underlying3 f4
    obtain rfl : v0 = .string y0 := (List.cons.inj e0).1
    obtain rfl : v1 = .bool y1 := (List.cons.inj e1).1
    obtain rfl : v2 = .bool y2 := (List.cons.inj e2).1
    obtain rfl : v3 = .int .i64 y3 := (List.cons.inj e3).1
    obtain rfl : v4 = .int .i64 y4 := (List.cons.inj e4).1
    refine ⟨(y0, y1, y2, y3, y4), fun j u hu => ?_⟩
    have hj : j < 5 := by have := (List.getElem?_eq_some_iff.1 hu).1; simpa using this
    rw [hat j hj]
    exact hu
theorem aps_open {H : Type} {enc : TypeId × Value → H} {W : World} {sp : Nat → Bool} {held : Bool} {r : Reach} {b0 base : Nat} {v : Value} {d : DataW H} {ps : List MemPlace}
    (hval : Value.okWide Tryd.prog W r b0 70 v) (hd : DataW.Trod enc Tryd.prog W base sp held 70 v d ps) : ∃ l, Aps W v l := by
  obtain ⟨a0, len, cap, rfl⟩ := okWide_slice Tryd.underlying70 hval
  obtain ⟨fuel, hf⟩ := hd
  rcases Go.Deep.open_slice Tryd.underlying70 hf with ⟨hcs, _⟩ | ⟨a, len', cap', m, n, D, Pl, hcs, _, hl, hm, hmm, _, hi⟩
  · simp [Value.cells] at hcs
    obtain ⟨rfl, rfl, rfl⟩ := hcs
    exact ⟨[], none, 0, 0, 0, rfl, fun h => absurd h (by simp), fun j h => absurd h (by simp), by simp⟩
  · simp [Value.cells] at hcs
    obtain ⟨rfl, rfl, rfl⟩ := hcs
    have h3 : Tryd.prog.cellsOf 72 = 5 := by kernel_rfl
    have hml : len ≤ m := by rw [hmm]; split <;> omega
    have hel : ∀ i, i < len → ∃ y : Chg, ∀ j u, (chgC y).toList[j]? = some u → W.cell? ((a.add (i * 5)).add j) = some u := fun i hlt => by
      obtain ⟨cs', h1, h2⟩ := hi i (by omega)
      rw [h3] at h1
      exact ap_cells (by rw [h3]; exact h1) h2
    classical
    let f : Nat → Chg := fun i => if h : i < len then (hel i h).choose else (⟨#[]⟩, false, false, 0, 0)
    have hspot : 0 < len → a.spot = none := fun h0 => by
      obtain ⟨y, hy⟩ := hel 0 h0
      have := World.cell?_spot (hy 0 _ rfl)
      simpa [Addr.add] using this
    refine ⟨(List.range len).map f, some a, cap, a.block, a.off, by simp, fun h0 => ?_, fun j hj => ?_, by simp; omega⟩
    · have := hspot (by simpa using h0)
      obtain ⟨b, off, spot⟩ := a
      simp only at this
      subst this
      rfl
    · have hj' : j < len := by simpa using hj
      have hs := hspot (by omega)
      have hf' : ((List.range len).map f)[j] = (hel j hj').choose := by simp [f, hj']
      rw [hf']
      intro k u hu
      have := (hel j hj').choose_spec k u hu
      rw [← this]
      obtain ⟨b, off, spot⟩ := a
      simp only at hs
      subst hs
      rw [show (⟨b, off, none⟩ : Addr).add (j * 5) = ⟨b, off + j * 5, none⟩ by unfold Addr.add; split <;> simp_all, show (⟨b, off + j * 5, none⟩ : Addr).add k = ⟨b, off + j * 5 + k, none⟩ by unfold Addr.add; split <;> simp_all]
end Go.Proofs.YtnnlfgfgfegjkaaDoor
