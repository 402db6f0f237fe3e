/- Variables of a call's own that have many cells: what is stored into them and read out of them, in worlds of which little is known. -/
import Derived.Test.YtldemoflgahdgaaChecked
import Derived.WalkKit
import Derived.Test.YtldemoflgahdgaaBelow
import Derived.Lib.Hide
import Derived.Laws.Tables
import Derived.Laws.CopyRow
import Derived.Deep.Draws
import Derived.Deep.WholeRow
import Derived.Deep.MidRow
import Derived.Laws.OwnMore
import Derived.Lib.FrozenHead2
namespace Go.Proofs.Ytldemoflgahdgaa
open Go.RowKit
set_option maxRecDepth 1000000

/-- Just block X is another one. -/
structure Only (X : Nat) (w w' : World) : Prop where
  by_ : w.grownBy w' (some X)
  size : w'.heap.size = w.heap.size
theorem Only.refl (X : Nat) (w : World) : Only X w w := ⟨⟨rfl, rfl, rfl, Nat.le_refl _, fun _ _ _ => rfl⟩, rfl⟩
theorem Only.below {X B : Nat} {w w' : World} (h : Only X w w') (hB : B ≤ X) : Below B w w' :=
  ⟨h.by_.os, h.by_.tape, h.by_.output, h.by_.size, fun k hk => by
    by_cases hlt : k < w.heap.size
    · exact h.by_.block k hlt (by simp; omega)
    · have hz := h.size
      rw [Array.getElem?_eq_none (by omega), Array.getElem?_eq_none (by omega)]⟩
theorem Only.trans {X : Nat} {a b c : World} (h : Only X a b) (k : Only X b c) : Only X a c :=
  ⟨⟨k.by_.os.trans h.by_.os, k.by_.tape.trans h.by_.tape, k.by_.output.trans h.by_.output, Nat.le_trans h.by_.size k.by_.size, fun i hi hne => (k.by_.block i (Nat.lt_of_lt_of_le hi h.by_.size) hne).trans (h.by_.block i hi hne)⟩, k.size.trans h.size⟩
theorem Only.other {X Y : Nat} {w w' : World} {o : Obj} (h : Only X w w') (hy : w.heap[Y]? = some o) (hne : Y ≠ X) : w'.heap[Y]? = some o :=
  (h.by_.block Y (Array.getElem?_eq_some_iff.1 hy).1 (by simpa using fun e => hne e)).trans hy
theorem only_setRow (w : World) (X : Nat) (c : Array Value) : Only X w (w.setRow X c) := by
  refine ⟨⟨rfl, rfl, rfl, by simp [World.setRow], fun j hj hne => ?_⟩, by simp [World.setRow]⟩
  simp only [World.setRow]
  rw [Array.getElem?_modify]
  split
  · subst_vars; simp at hne
  · rfl

/-- What a variable of many cells holds is read: some of them. -/
theorem cell_in {W : World} {X : Nat} {c : Array Value} {T : TypeId} {fr : Nat × Nat} (h : W.heap[X]? = some (.cells c T fr)) {j : Nat} {v : Value} (hv : c[j]? = some v) : W.cell? ⟨X, j, none⟩ = some v := by
  rw [cell_of_row W X j c T fr h, hv]

/-- A struct or an array goes whole into a variable. -/
theorem st_agg {ops : Array Oper} {rest : List Oper} {o : Oper} {a : Act} {w : World} {Q : Exit → Act → World → Prop} (hgd : o.guard = none) (ty : TypeId) (x y : Operand) (ho : o.op = .store ty x y)
    (X : Nat) (c' : Array Value) (hx : a.eval x = .pointer (some ⟨X, 0, none⟩)) (hy : a.eval y = .agg c') (T : TypeId) (c : Array Value) (hB : w.heap[X]? = some (.cells c T (0, 0)))
    (hi : (Try.prog.info? ty).map (·.size) = some c'.size) (hs : c.size = c'.size) (h1 : c'.all (·.oneCell') = true)
    (h : ∀ w', w'.heap[X]? = some (.cells c' T (0, 0)) → Only X w w' → wpList Try.prog ops Q rest (a.put o.dst undef) w') : wpList Try.prog ops Q (o :: rest) a w :=
  wpList_plain hgd fun _ hK => wp_store_row ty x y ho X _ hx hy T _ hB hi hs h1 (hK _ _ (h _ (setRow_heap w X _ _ _ _ hB) (only_setRow _ _ _)))

/-- .. where an operation is carried out by itself (in a region that draws its order). -/
theorem st_agg_wp {o : Oper} {a : Act} {w : World} {K : Act → World → Prop} {Q : Exit → Act → World → Prop} (ty : TypeId) (x y : Operand) (ho : o.op = .store ty x y)
    (X : Nat) (c' : Array Value) (hx : a.eval x = .pointer (some ⟨X, 0, none⟩)) (hy : a.eval y = .agg c') (T : TypeId) (c : Array Value) (hB : w.heap[X]? = some (.cells c T (0, 0)))
    (hi : (Try.prog.info? ty).map (·.size) = some c'.size) (hs : c.size = c'.size) (h1 : c'.all (·.oneCell') = true)
    (h : ∀ w', w'.heap[X]? = some (.cells c' T (0, 0)) → Only X w w' → K (a.put o.dst undef) w') : o.wp Try.prog a w K Q :=
  wp_store_row ty x y ho X _ hx hy T _ hB hi hs h1 (h _ (setRow_heap w X _ _ _ _ hB) (only_setRow _ _ _))

theorem run_storeVar_cell (w : World) (g k : Nat) (T ty : TypeId) (cur : Array Value) (v : Value) (hg : w.heap[g]? = some (.cells cur T (0, 0))) (hk : k < cur.size) (hi : (Try.prog.info? ty).map (·.size) = some 1)
    (h1 : v.oneCell' = true) : (storeVar ty ⟨g, k, none⟩ v).run Try.prog w = .ok () (w.setRow g (cur.setIfInBounds k v)) := by
  have := run_storeCells_at (P := Try.prog) g k T [v] 0 cur w hg (by simp; omega) (fun x hx => by simp at hx; subst hx; exact h1)
  have hc : v.cells = #[v] := by cases v <;> first | rfl | cases h1
  have e : (cur.toList.take (k + 0) ++ [v] ++ cur.toList.drop (k + 0 + [v].length)).toArray = cur.setIfInBounds k v := by
    apply Array.ext_getElem?
    intro i
    simp only [Nat.add_zero, List.length_cons, List.length_nil, List.getElem?_toArray, Array.getElem?_setIfInBounds]
    rw [List.append_assoc, List.getElem?_append]
    simp only [List.length_take, Array.length_toList]
    by_cases h : i < k
    · rw [if_pos (by omega), List.getElem?_take_of_lt h, if_neg (by omega)]
      simp
    · rw [if_neg (by omega)]
      by_cases h' : i = k
      · subst h'
        rw [if_pos rfl, if_pos hk, show i - min i cur.size = 0 by omega]
        simp
      · rw [if_neg (by omega), show i - min k cur.size = (i - k - 1) + 1 by omega]
        simp only [List.singleton_append, List.getElem?_cons_succ, List.getElem?_drop]
        rw [show k + (0 + 1) + (i - k - 1) = i by omega]
        simp
  rw [e] at this
  cases hq : Try.prog.info? ty with
  | none => simp [hq] at hi
  | some i =>
    have hs : i.size = 1 := by simpa [hq] using hi
    simp [storeVar, sizeOf, typeInfo, hq, hc, hs, this]
/-- One cell goes into a variable of many. -/
theorem st_cell {ops : Array Oper} {rest : List Oper} {o : Oper} {a : Act} {w : World} {Q : Exit → Act → World → Prop} (hgd : o.guard = none) (ty : TypeId) (x y : Operand) (ho : o.op = .store ty x y)
    (X k : Nat) (v : Value) (hx : a.eval x = .pointer (some ⟨X, k, none⟩)) (hy : a.eval y = v) (h1 : v.oneCell' = true) (T : TypeId) (c : Array Value) (hB : w.heap[X]? = some (.cells c T (0, 0)))
    (hi : (Try.prog.info? ty).map (·.size) = some 1) (hk : k < c.size)
    (h : ∀ w', w'.heap[X]? = some (.cells (c.setIfInBounds k v) T (0, 0)) → Only X w w' → wpList Try.prog ops Q rest (a.put o.dst undef) w') : wpList Try.prog ops Q (o :: rest) a w :=
  wpList_plain hgd fun _ hK => by
    unfold Oper.wp execOp
    simp only [ho, hx, hy, Instr.storeAt, Instr.sureAddr, Sem.run_bind, Sem.run_pure, Result.andThen_ok, run_storeVar_cell w X k T ty c v hB hk hi h1]
    exact hK _ _ (h _ (setRow_heap w X _ _ _ _ hB) (only_setRow _ _ _))
/-- A struct or an array is read whole out of a variable, where a guard is met (or there is none). -/
theorem ld_if {ops : Array Oper} {rest : List Oper} {o : Oper} {a : Act} {w : World} {Q : Exit → Act → World → Prop} (hwd : Region.wanted o (yielded ops a.tmps) = true) (ty : TypeId) (x : Operand) (ho : o.op = .load ty x)
    (X : Nat) (hx : a.eval x = .pointer (some ⟨X, 0, none⟩)) (T : TypeId) (c : Array Value) (fr : Nat × Nat) (d : TypeDesc) (hB : w.heap[X]? = some (.cells c T fr))
    (hu : Try.prog.underlying ty = some d) (hd : d.isRow = true) (hi : (Try.prog.info? ty).map (·.size) = some c.size)
    (h : wpList Try.prog ops Q rest (a.put o.dst (.agg c)) w) : wpList Try.prog ops Q (o :: rest) a w :=
  wpList_step fun _ hK => by
    rw [if_pos hwd]
    exact wp_load_row ty x ho X hx T c fr d hB hu (by cases d <;> simp_all [TypeDesc.isRow]) hi (hK _ _ h)
end Go.Proofs.Ytldemoflgahdgaa
