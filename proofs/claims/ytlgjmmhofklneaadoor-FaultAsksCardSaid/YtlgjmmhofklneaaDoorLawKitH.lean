/- The cards' kit where the row lists errors.errorType beside tables: the world that lays all of them, and what the list says of a world. -/
import Derived.Test.YtlgjmmhofklneaaDoorLawKit0
import Derived.Test.YtlgjmmhofklneaaDoorErrChain
import Derived.Test.YtlgjmmhofklneaaDoorNumDigits
import Derived.ChangeSlices
import Derived.Test.YtlgjmmhofklneaaDoorInts
import Derived.LaidHandle
import Derived.LaidSub
namespace Go.Proofs.YtlgjmmhofklneaaDoor
open Go.ChangeShapes Go.WideShapes Go.ChangeAt Go.RowKit

/-- The list's plain data. -/
abbrev laidData : List (String × DataW Unit) := Rows.faultAsksRow.laid.filter fun x => x.2.handleName?.isNone
/-- The world that holds nothing but the handle. -/
noncomputable def w0H (os : Os) : World :=
  let w0 := World.holding Tryd.prog os ⟨#[], #[], []⟩
  { w0 with heap := w0.heap.modify 0 fun
      | .cells _ t frozen => .cells #[.iface 81 (.agg #[.pointer (some ⟨4, 26, none⟩)])] t frozen
      | o => o }
noncomputable def laidWH (os : Os) : World := (w0H os).layVars Tryd.prog laidData
theorem laidWH_os (os : Os) : (laidWH os).os = os := (World.layVars_os _ _ _).trans rfl
theorem laidWH_data (os : Os) (args : Array Value) : laidMet Tryd.prog laidData ((laidWH os).forCall (fun _ _ => 0) ⟨#[], args, []⟩).memory := by
  have e1 : (laidData.filter fun x => (laidData.map (·.1)).contains x.1) = laidData := List.filter_eq_self.2 fun x hx => List.contains_iff_mem.2 (List.mem_map.2 ⟨x, hx, rfl⟩)
  have e2 : (laidData.filter fun x => !(laidData.map (·.1)).contains x.1) = [] := List.filter_eq_nil_iff.2 fun x hx => by rw [List.contains_iff_mem.2 (List.mem_map.2 ⟨x, hx, rfl⟩)]; simp
  have h : laidMet Tryd.prog laidData (laidWH os) := laidMet_layVars (w0 := w0H os) (laidData.map (·.1)) [] (by rw [e1]; rfl) (by rw [e1]; kernel_rfl) (by rw [e1]; kernel_rfl) (by rw [e2]; exact LaidIn.none)
  exact h.of_heap (by simp [World.memory, World.forCall, Input.heap])
theorem laidWH_met (os : Os) (args : Array Value) : laidMetH Tryd.prog Rows.faultAsksRow.laid ((laidWH os).forCall (fun _ _ => 0) ⟨#[], args, []⟩).memory :=
  laidMetH_of_parts (laidWH_data os args) (by kernel_rfl)

theorem et_global : Tryd.prog.globalNamed "errors.errorType" = some 0 := by kernel_rfl
theorem rt_type : (Tryd.prog.cutTypes.find? (·.1 == "internal/reflectlite.rtype")).map (·.2) = some 81 := by kernel_rfl
theorem one_row : ((List.range Tryd.prog.types.size).filter fun t => Tryd.prog.rowNamed t [101, 114, 114, 111, 114]) = [26] := by kernel_rfl
/-- errors.errorType's cell, out of the list. -/
theorem et_of_laid {W : World} (h : laidMetH Tryd.prog Rows.faultAsksRow.laid W) : ET W := by
  have hh := (laidMetH_iff.1 h).2
  obtain ⟨name, u, ty, e1, e2, e3, e4, e5⟩ := hh ("errors.errorType", Rows.laid_errors_errorType) (by
    rw [List.mem_filter]
    refine ⟨?_, rfl⟩
    show ("errors.errorType", Rows.laid_errors_errorType) ∈ [_, _, _, ("errors.errorType", Rows.laid_errors_errorType)]
    simp)
  have en : name = [101, 114, 114, 111, 114] := (Option.some.inj e1).symm
  subst en
  obtain rfl := Option.some.inj (rt_type.symm.trans e2)
  have hm : ty ∈ (List.range Tryd.prog.types.size).filter fun t => Tryd.prog.rowNamed t [101, 114, 114, 111, 114] := List.mem_filter.2 ⟨List.mem_range.2 e3, e4⟩
  rw [one_row] at hm
  obtain rfl := List.mem_singleton.1 hm
  have hd : typeHandle Tryd.prog 26 = .pointer (some ⟨4, 26, none⟩) := by kernel_rfl
  rw [hd] at e5
  show W.cell? _ = _
  simpa using World.var?_cell et_global e5 0
theorem tab_of_laid {W : World} (h : laidMetH Tryd.prog Rows.faultAsksRow.laid W) : Tab W := by
  have h' := (laidMetH_iff.1 h).1
  exact Lib.tabIs_of_head (k := .u64) (zs := Lib.pow10Tab) (rest := laidData.drop (2 + 1)) (g := 1) (t := 105) (e := 98) (n := 20) (by kernel_rfl) (by kernel_rfl) Tryd.underlying105 Tryd.underlying98 (by kernel_rfl) (by kernel_rfl) (laid_drop 2 h')

/-- A list of numbers that a row hands on, opened: it reads as numbers. -/
theorem ints_read {W : World} {a : Addr} {len cap : Nat} {zs : List Int} (hl : len ≤ zs.length) (hm : len ≤ maxLen)
    (hcell : ∀ i, i < zs.length → W.cell? (a.add i) = some (.int .i64 (zs.getD i 0))) (hw : ∀ n ∈ zs, (Lit.int .i64 n).wf = true) :
    ∃ ys, IntsAt W (.slice (some a) len cap) ys := by
  have hlen : (zs.take len).length = len := by rw [List.length_take]; omega
  refine ⟨zs.take len, some a, cap, a.block, a.off, by rw [hlen], ?_, ?_, ?_, by rw [hlen]; exact hm⟩
  · intro h0
    rw [hlen] at h0
    obtain ⟨b, off, spot⟩ := a
    have hspot : spot = none := by simpa [Addr.add] using World.cell?_spot (hcell 0 (by omega))
    subst hspot
    rfl
  · intro j hj
    rw [hlen] at hj
    have hspot : a.spot = none := by
      have := World.cell?_spot (hcell 0 (by omega))
      simpa [Addr.add] using this
    have ha : a.add j = ⟨a.block, a.off + j, none⟩ := by
      unfold Addr.add
      split
      · subst_vars; obtain ⟨b, off, spot⟩ := a; simp only at hspot; subst hspot; rfl
      · rfl
    rw [← ha, hcell j (by omega)]
    congr 2
    rw [List.getD_eq_getElem?_getD, List.getD_eq_getElem?_getD, List.getElem?_take_of_lt hj]
  · intro n hn
    exact bounds_i64 (hw n (List.mem_of_mem_take hn))
theorem ints_open {H : Type} {enc : TypeId × Value → H} {P : Program} {W : World} {sp : Nat → Bool} {held : Bool} {r : Reach} {b0 base : Nat} {t e : TypeId} {v : Value} {d : DataW H} {ps : List MemPlace}
    (ht : P.underlying t = some (.slice e)) (he : P.underlying e = some (.int .i64)) (hc : P.cellsOf e = 1) (hval : Value.okWide P W r b0 t v) (hd : DataW.Trod enc P W base sp held t v d ps) : ∃ ys, IntsAt W v ys := by
  obtain ⟨a0, len, cap, rfl⟩ := okWide_slice ht hval
  obtain ⟨fuel, hf⟩ := hd
  rcases open_ints ht he hc hf with ⟨hcs, _⟩ | ⟨a, len', cap', zs, hcs, _, hl, hm, hz, _, hcell, hwz⟩
  · simp [Value.cells] at hcs
    obtain ⟨rfl, rfl, rfl⟩ := hcs
    exact ⟨[], none, 0, 0, 0, rfl, fun h => absurd h (by simp), fun j h => absurd h (by simp), fun n h => absurd h (by simp), by simp⟩
  · simp [Value.cells] at hcs
    obtain ⟨rfl, rfl, rfl⟩ := hcs
    exact ints_read (by rw [hz]; split <;> omega) (by omega) hcell hwz
theorem in_of_wf {x : Int} (h : (Lit.int .i64 x).wf = true) : InR x := bounds_i64 h
end Go.Proofs.YtlgjmmhofklneaaDoor
