/- Package lex's table of signs: what the row lists of it, its cells, and that it stays. -/
import Derived.Test.YtgdlkaoadlipmaaDoorRef13N
import Derived.Test.YtgdlkaoadlipmaaDoorRows
import Derived.Deep.Strs
import Derived.OpenShut
import Derived.FnData
namespace Go.Proofs.YtgdlkaoadlipmaaDoor
open Go.RowKit Go.Deep
set_option linter.unusedSimpArgs false

/-- An array of texts that reads as known texts holds them. -/
theorem strs_of_trod {H : Type} {enc : TypeId × Value → H} {P : Program} {w : World} {base : Nat} {sp : Nat → Bool} {held : Bool} {fuel : Nat} {t e : TypeId} {n : Nat} {cs : List Value} {zs : List (List UInt8)} {p : List MemPlace}
    (ht : P.underlying t = some (.array n e)) (he : P.underlying e = some .string) (ce : P.cellsOf e = 1) (ct : P.cellsOf t = n)
    (h : DataW.trod enc P w base sp held fuel t cs = some (.agg (zs.map fun z => .lit (.string z)), p)) : cs = zs.map fun z => .string ⟨z.toArray⟩ := by
  obtain ⟨xs, m, rfl, hx, hl, hn, hel⟩ := DataW.trod_array ht h
  have hzs : (zs.map fun z => (.lit (.string z) : DataW H)) = xs.map (·.1) := by
    have := congrArg Prod.fst hx
    simpa using this
  have hzl : zs.length = n := by
    have := congrArg List.length hzs
    simpa [hn] using this
  rw [ce] at hel
  rw [ct] at hl
  apply List.ext_getElem?
  intro i
  by_cases hi : i < n
  · have h1 := hel i hi
    have hiz : i < zs.length := by omega
    have h2 : (xs.map (·.1))[i]? = some (.lit (.string zs[i])) := by rw [← hzs]; simp [List.getElem?_map, List.getElem?_eq_getElem hiz]
    rw [List.getElem?_map] at h2
    cases hy : xs[i]? with
    | none => rw [hy] at h2; simp at h2
    | some y =>
      rw [hy] at h1 h2
      simp only [Option.map_some, Option.some.injEq] at h2
      obtain ⟨s, e1, e2, _⟩ := DataW.trod_string he h1
      subst e2
      simp only [DataW.lit.injEq, Lit.string.injEq] at h2
      rw [Nat.mul_one] at e1
      have e3 : cs[i]? = some (.string s) := by
        have := congrArg (fun l => l[0]?) e1
        simpa [List.getElem?_take, List.getElem?_drop] using this
      rw [e3, List.getElem?_map, List.getElem?_eq_getElem hiz, Option.map_some, ← h2]
  · rw [List.getElem?_eq_none (by omega), List.getElem?_eq_none (by simp; omega)]

/-- The table's name, as the given row has it. -/
def sgN : String := Rows.lexNextRow.named.getD 1 (String.ofList [])
/-- The table lies as its rows say. -/
def Sg (w : World) : Prop := w.var? Tryd.prog sgN = some sgC
theorem Sg.below {w w' : World} (h : Sg w) (hb : Below w.heap.size w w') : Sg w' := by
  unfold Sg World.var? at *
  cases hg : Tryd.prog.globalNamed sgN with
  | none => simp [hg] at h
  | some g =>
    simp only [hg, Option.bind_some] at h ⊢
    have hlt : g < w.heap.size := by
      rcases Nat.lt_or_ge g w.heap.size with h' | h'
      · exact h'
      · rw [Array.getElem?_eq_none h'] at h; simp at h
    rw [hb.block g hlt]
    exact h
/-- The table's block. -/
theorem Sg.heap {w : World} (h : Sg w) : ∃ t fr, w.heap[0]? = some (.cells sgC t fr) := by
  unfold Sg World.var? at h
  rw [show Tryd.prog.globalNamed sgN = some 0 by kernel_rfl] at h
  simp only [Option.bind_some] at h
  split at h
  · rename_i cs t fr hg
    exact ⟨t, fr, by rw [hg, Option.some.inj h]⟩
  · cases h
theorem sg_size : (Tryd.prog.info? 72).map (·.size) = some 23 := by kernel_rfl
theorem sg_at (j : Nat) (h : j < 23) : sgC[j]? = some (.string ⟨(signsS[j]'(by simpa [signsS] using h)).toArray⟩) := by
  match j, h with
  | 0, _ => rfl
  | 1, _ => rfl
  | 2, _ => rfl
  | 3, _ => rfl
  | 4, _ => rfl
  | 5, _ => rfl
  | 6, _ => rfl
  | 7, _ => rfl
  | 8, _ => rfl
  | 9, _ => rfl
  | 10, _ => rfl
  | 11, _ => rfl
  | 12, _ => rfl
  | 13, _ => rfl
  | 14, _ => rfl
  | 15, _ => rfl
  | 16, _ => rfl
  | 17, _ => rfl
  | 18, _ => rfl
  | 19, _ => rfl
  | 20, _ => rfl
  | 21, _ => rfl
  | 22, _ => rfl
  | k + 23, hk => exact absurd hk (by omega)
/-- An item of the table, taken out of the whole. -/
theorem sg_ix (j : Nat) (h : j < 23) (w : World) : (Instr.index 72 (.agg sgC) (.int .i64 (j : Int))).run Tryd.prog w = .ok (.string ⟨(signsS[j]'(by simpa [signsS] using h)).toArray⟩) w := by
  match j, h with
  | 0, _ => show _ = _; kernel_rfl
  | 1, _ => show _ = _; kernel_rfl
  | 2, _ => show _ = _; kernel_rfl
  | 3, _ => show _ = _; kernel_rfl
  | 4, _ => show _ = _; kernel_rfl
  | 5, _ => show _ = _; kernel_rfl
  | 6, _ => show _ = _; kernel_rfl
  | 7, _ => show _ = _; kernel_rfl
  | 8, _ => show _ = _; kernel_rfl
  | 9, _ => show _ = _; kernel_rfl
  | 10, _ => show _ = _; kernel_rfl
  | 11, _ => show _ = _; kernel_rfl
  | 12, _ => show _ = _; kernel_rfl
  | 13, _ => show _ = _; kernel_rfl
  | 14, _ => show _ = _; kernel_rfl
  | 15, _ => show _ = _; kernel_rfl
  | 16, _ => show _ = _; kernel_rfl
  | 17, _ => show _ = _; kernel_rfl
  | 18, _ => show _ = _; kernel_rfl
  | 19, _ => show _ = _; kernel_rfl
  | 20, _ => show _ = _; kernel_rfl
  | 21, _ => show _ = _; kernel_rfl
  | 22, _ => show _ = _; kernel_rfl
  | k + 23, hk => exact absurd hk (by omega)
end Go.Proofs.YtgdlkaoadlipmaaDoor
