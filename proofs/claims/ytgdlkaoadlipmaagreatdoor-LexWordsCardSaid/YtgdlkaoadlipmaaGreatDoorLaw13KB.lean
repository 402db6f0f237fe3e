/- The cards' kit of layer 13: the world that lays what the row lists, and what the list says of a world. (written by tools/gen13/kit13.py) -/
import Derived.Test.YtgdlkaoadlipmaaGreatDoorLawKit0
import Derived.Test.YtgdlkaoadlipmaaGreatDoorLawKitI
import Derived.Test.YtgdlkaoadlipmaaGreatDoorLaw13T
import Derived.Test.YtgdlkaoadlipmaaGreatDoorLaw13A
import Derived.Test.YtgdlkaoadlipmaaGreatDoorPkG
import Derived.ChangeSlices
import Derived.LaidHandle
import Derived.LaidSub
import Derived.Lib.LaidTab
namespace Go.Proofs.YtgdlkaoadlipmaaGreatDoor
open Go.ChangeShapes Go.WideShapes Go.ChangeAt Go.RowKit

/-- The list's plain data. -/
abbrev laidData : List (String × DataW Unit) := Rows.lexWordsRow.laid.filter fun x => x.2.handleName?.isNone
/-- The world that holds nothing but the handle. -/
noncomputable def w0H (os : Os) : World :=
  let w0 := World.holding Tryz.prog os ⟨#[], #[], []⟩
  { w0 with heap := w0.heap.modify 1 fun
      | .cells _ t frozen => .cells #[.iface 100 (.agg #[.pointer (some ⟨7, 33, none⟩)])] t frozen
      | o => o }
noncomputable def laidWH (os : Os) : World := (w0H os).layVars Tryz.prog laidData
theorem laidWH_os (os : Os) : (laidWH os).os = os := (World.layVars_os _ _ _).trans rfl
theorem laidWH_data (os : Os) (args : Array Value) : laidMet Tryz.prog laidData ((laidWH os).forCall (fun _ _ => 0) ⟨#[], args, []⟩).memory := by
  have e1 : (laidData.filter fun x => (laidData.map (·.1)).contains x.1) = laidData := List.filter_eq_self.2 fun x hx => List.contains_iff_mem.2 (List.mem_map.2 ⟨x, hx, rfl⟩)
  have e2 : (laidData.filter fun x => !(laidData.map (·.1)).contains x.1) = [] := List.filter_eq_nil_iff.2 fun x hx => by rw [List.contains_iff_mem.2 (List.mem_map.2 ⟨x, hx, rfl⟩)]; simp
  have h : laidMet Tryz.prog laidData (laidWH os) := laidMet_layVars (w0 := w0H os) (laidData.map (·.1)) [] (by rw [e1]; rfl) (by rw [e1]; kernel_rfl) (by rw [e1]; kernel_rfl) (by rw [e2]; exact LaidIn.none)
  exact h.of_heap (by simp [World.memory, World.forCall, Input.heap])
theorem laidWH_met (os : Os) (args : Array Value) : laidMetH Tryz.prog Rows.lexWordsRow.laid ((laidWH os).forCall (fun _ _ => 0) ⟨#[], args, []⟩).memory :=
  laidMetH_of_parts (laidWH_data os args) (by kernel_rfl)
theorem et_global : Tryz.prog.globalNamed "errors.errorType" = some 1 := by kernel_rfl
theorem rt_type : (Tryz.prog.cutTypes.find? (·.1 == "internal/reflectlite.rtype")).map (·.2) = some 100 := by kernel_rfl
theorem one_row : ((List.range Tryz.prog.types.size).filter fun t => Tryz.prog.rowNamed t [101, 114, 114, 111, 114]) = [33] := by kernel_rfl
/-- errors.errorType's cell, out of the list. -/
theorem et_of_laid {W : World} (h : laidMetH Tryz.prog Rows.lexWordsRow.laid W) : ET W := by
  have hh := (laidMetH_iff.1 h).2
  obtain ⟨name, u, ty, e1, e2, e3, e4, e5⟩ := hh ("errors.errorType", Rows.laid_errors_errorType) (by
    rw [List.mem_filter]
    exact ⟨List.mem_of_getElem? (show Rows.lexWordsRow.laid[3]? = some ("errors.errorType", Rows.laid_errors_errorType) from rfl), rfl⟩)
  have en : name = [101, 114, 114, 111, 114] := (Option.some.inj e1).symm
  subst en
  obtain rfl := Option.some.inj (rt_type.symm.trans e2)
  have hm : ty ∈ (List.range Tryz.prog.types.size).filter fun t => Tryz.prog.rowNamed t [101, 114, 114, 111, 114] := List.mem_filter.2 ⟨List.mem_range.2 e3, e4⟩
  rw [one_row] at hm
  obtain rfl := List.mem_singleton.1 hm
  have hd : typeHandle Tryz.prog 33 = .pointer (some ⟨7, 33, none⟩) := by kernel_rfl
  rw [hd] at e5
  show W.cell? _ = _
  simpa using World.var?_cell et_global e5 0
/-- The table of escapes. -/
theorem esc_of_laid {W : World} (h : laidMetH Tryz.prog Rows.lexWordsRow.laid W) : Esc W := by
  have h' := laid_drop (3) (show laidMet Tryz.prog (Rows.lexWordsRow.laid.filter fun x => x.2.handleName?.isNone) W from (laidMetH_iff.1 h).1)
  obtain ⟨ps, ⟨g, t, cs, fuel, p, q, hg, ht, hvar, hd, _, _⟩, _⟩ := h'
  have hg' : Tryz.prog.globalNamed escN = some 2 := by kernel_rfl
  obtain rfl := Option.some.inj (hg'.symm.trans hg)
  have ht' : (Tryz.prog.globals[2]?).map (·.type) = some 122 := by kernel_rfl
  obtain rfl := Option.some.inj (ht'.symm.trans ht)
  unfold Esc
  have := rows3_of_trod (zs := escL) (b := 5) (s := 4) (n := 6) Tryz.underlying122 Tryz.underlying121 Tryz.underlying5 Tryz.underlying4 rfl rfl rfl rfl rfl rfl (by kernel_rfl) (by kernel_rfl) (by kernel_rfl) (by kernel_rfl) hd
  rw [← this]
  exact hvar
/-- The table of signs. -/
theorem sg_of_laid {W : World} (h : laidMetH Tryz.prog Rows.lexWordsRow.laid W) : Sg W := by
  have h' := laid_drop (4) (show laidMet Tryz.prog (Rows.lexWordsRow.laid.filter fun x => x.2.handleName?.isNone) W from (laidMetH_iff.1 h).1)
  obtain ⟨ps, ⟨g, t, cs, fuel, p, q, hg, ht, hvar, hd, _, _⟩, _⟩ := h'
  have hg' : Tryz.prog.globalNamed sgN = some 0 := by kernel_rfl
  obtain rfl := Option.some.inj (hg'.symm.trans hg)
  have ht' : (Tryz.prog.globals[0]?).map (·.type) = some 40 := by kernel_rfl
  obtain rfl := Option.some.inj (ht'.symm.trans ht)
  unfold Sg
  have := strs_of_trod (zs := signsS) (n := 23) Tryz.underlying40 Tryz.underlying9 (by kernel_rfl) (by kernel_rfl) hd
  rw [show sgC = (signsS.map fun z => Value.string ⟨z.toArray⟩).toArray from rfl, ← this]
  exact hvar
theorem t13_of_laid {W : World} (h : laidMetH Tryz.prog Rows.lexWordsRow.laid W) : T13 W := ⟨esc_of_laid h, et_of_laid h, sg_of_laid h⟩
theorem tab_of_laid {W : World} (h : laidMetH Tryz.prog Rows.lexWordsRow.laid W) : Tab W := by
  have h' := (laidMetH_iff.1 h).1
  exact Lib.tabIs_of_head (k := .u64) (zs := Lib.pow10Tab) (rest := (Rows.lexWordsRow.laid.filter fun x => x.2.handleName?.isNone).drop (2 + 1)) (g := 3) (t := 126) (e := 115) (n := 20) (by kernel_rfl) (by kernel_rfl) Tryz.underlying126 Tryz.underlying115 (by kernel_rfl) (by kernel_rfl) (laid_drop 2 h')
theorem in_of_wf {x : Int} (h : (Lit.int .i64 x).wf = true) : InR x := bounds_i64 h
end Go.Proofs.YtgdlkaoadlipmaaGreatDoor
