/- The cards' kit of layer 13: the world that lays what the row lists, and what the list says of a world. (written by tools/gen13/kit13.py) -/
import Derived.Test.YtgdlkaoadlipmaaDoorLawKit0
import Derived.Test.YtgdlkaoadlipmaaDoorLawKitI
import Derived.Test.YtgdlkaoadlipmaaDoorLaw13T
import Derived.Test.YtgdlkaoadlipmaaDoorLaw13A
import Derived.ChangeSlices
import Derived.LaidHandle
import Derived.LaidSub
import Derived.Lib.LaidTab
namespace Go.Proofs.YtgdlkaoadlipmaaDoor
open Go.ChangeShapes Go.WideShapes Go.ChangeAt Go.RowKit

/-- The list's plain data. -/
abbrev laidData : List (String × DataW Unit) := Rows.lexNextRow.laid.filter fun x => x.2.handleName?.isNone
/-- The world that holds nothing but the handle. -/
noncomputable def w0H (os : Os) : World :=
  let w0 := World.holding Tryd.prog os ⟨#[], #[], []⟩
  { w0 with heap := w0.heap.modify 1 fun
      | .cells _ t frozen => .cells #[.iface 104 (.agg #[.pointer (some ⟨7, 26, none⟩)])] t frozen
      | o => o }
noncomputable def laidWH (os : Os) : World := (w0H os).layVars Tryd.prog laidData
theorem laidWH_os (os : Os) : (laidWH os).os = os := (World.layVars_os _ _ _).trans rfl
theorem laidWH_data (os : Os) (args : Array Value) : laidMet Tryd.prog laidData ((laidWH os).forCall (fun _ _ => 0) ⟨#[], args, []⟩).memory := by
  have e1 : (laidData.filter fun x => (laidData.map (·.1)).contains x.1) = laidData := List.filter_eq_self.2 fun x hx => List.contains_iff_mem.2 (List.mem_map.2 ⟨x, hx, rfl⟩)
  have e2 : (laidData.filter fun x => !(laidData.map (·.1)).contains x.1) = [] := List.filter_eq_nil_iff.2 fun x hx => by rw [List.contains_iff_mem.2 (List.mem_map.2 ⟨x, hx, rfl⟩)]; simp
  have h : laidMet Tryd.prog laidData (laidWH os) := laidMet_layVars (w0 := w0H os) (laidData.map (·.1)) [] (by rw [e1]; rfl) (by rw [e1]; kernel_rfl) (by rw [e1]; kernel_rfl) (by rw [e2]; exact LaidIn.none)
  exact h.of_heap (by simp [World.memory, World.forCall, Input.heap])
theorem laidWH_met (os : Os) (args : Array Value) : laidMetH Tryd.prog Rows.lexNextRow.laid ((laidWH os).forCall (fun _ _ => 0) ⟨#[], args, []⟩).memory :=
  laidMetH_of_parts (laidWH_data os args) (by kernel_rfl)
theorem et_global : Tryd.prog.globalNamed "errors.errorType" = some 1 := by kernel_rfl
theorem rt_type : (Tryd.prog.cutTypes.find? (·.1 == "internal/reflectlite.rtype")).map (·.2) = some 104 := by kernel_rfl
theorem one_row : ((List.range Tryd.prog.types.size).filter fun t => Tryd.prog.rowNamed t [101, 114, 114, 111, 114]) = [26] := by kernel_rfl
/-- errors.errorType's cell, out of the list. -/
theorem et_of_laid {W : World} (h : laidMetH Tryd.prog Rows.lexNextRow.laid W) : ET W := by
  have hh := (laidMetH_iff.1 h).2
  obtain ⟨name, u, ty, e1, e2, e3, e4, e5⟩ := hh ("errors.errorType", Rows.laid_errors_errorType) (by
    rw [List.mem_filter]
    exact ⟨List.mem_of_getElem? (show Rows.lexNextRow.laid[0]? = some ("errors.errorType", Rows.laid_errors_errorType) from rfl), rfl⟩)
  have en : name = [101, 114, 114, 111, 114] := (Option.some.inj e1).symm
  subst en
  obtain rfl := Option.some.inj (rt_type.symm.trans e2)
  have hm : ty ∈ (List.range Tryd.prog.types.size).filter fun t => Tryd.prog.rowNamed t [101, 114, 114, 111, 114] := List.mem_filter.2 ⟨List.mem_range.2 e3, e4⟩
  rw [one_row] at hm
  obtain rfl := List.mem_singleton.1 hm
  have hd : typeHandle Tryd.prog 26 = .pointer (some ⟨7, 26, none⟩) := by kernel_rfl
  rw [hd] at e5
  show W.cell? _ = _
  simpa using World.var?_cell et_global e5 0
/-- The table of escapes. -/
theorem esc_of_laid {W : World} (h : laidMetH Tryd.prog Rows.lexNextRow.laid W) : Esc W := by
  have h' := laid_drop (0) (show laidMet Tryd.prog (Rows.lexNextRow.laid.filter fun x => x.2.handleName?.isNone) W from (laidMetH_iff.1 h).1)
  obtain ⟨ps, ⟨g, t, cs, fuel, p, q, hg, ht, hvar, hd, _, _⟩, _⟩ := h'
  have hg' : Tryd.prog.globalNamed escN = some 2 := by kernel_rfl
  obtain rfl := Option.some.inj (hg'.symm.trans hg)
  have ht' : (Tryd.prog.globals[2]?).map (·.type) = some 121 := by kernel_rfl
  obtain rfl := Option.some.inj (ht'.symm.trans ht)
  unfold Esc
  have := rows3_of_trod (zs := escL) (b := 5) (s := 4) (n := 6) Tryd.underlying121 Tryd.underlying120 Tryd.underlying5 Tryd.underlying4 rfl rfl rfl rfl rfl rfl (by kernel_rfl) (by kernel_rfl) (by kernel_rfl) (by kernel_rfl) hd
  rw [← this]
  exact hvar
/-- The table of signs. -/
theorem sg_of_laid {W : World} (h : laidMetH Tryd.prog Rows.lexNextRow.laid W) : Sg W := by
  have h' := laid_drop (1) (show laidMet Tryd.prog (Rows.lexNextRow.laid.filter fun x => x.2.handleName?.isNone) W from (laidMetH_iff.1 h).1)
  obtain ⟨ps, ⟨g, t, cs, fuel, p, q, hg, ht, hvar, hd, _, _⟩, _⟩ := h'
  have hg' : Tryd.prog.globalNamed sgN = some 0 := by kernel_rfl
  obtain rfl := Option.some.inj (hg'.symm.trans hg)
  have ht' : (Tryd.prog.globals[0]?).map (·.type) = some 72 := by kernel_rfl
  obtain rfl := Option.some.inj (ht'.symm.trans ht)
  unfold Sg
  have := strs_of_trod (zs := signsS) (n := 23) Tryd.underlying72 Tryd.underlying9 (by kernel_rfl) (by kernel_rfl) hd
  rw [show sgC = (signsS.map fun z => Value.string ⟨z.toArray⟩).toArray from rfl, ← this]
  exact hvar
theorem t13_of_laid {W : World} (h : laidMetH Tryd.prog Rows.lexNextRow.laid W) : T13 W := ⟨esc_of_laid h, et_of_laid h, sg_of_laid h⟩
theorem in_of_wf {x : Int} (h : (Lit.int .i64 x).wf = true) : InR x := bounds_i64 h
end Go.Proofs.YtgdlkaoadlipmaaDoor
