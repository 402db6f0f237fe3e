/- Package quote's table of escapes: what the row lists of it, its cells, and that it stays. -/
import Derived.Test.YtgdlkaoadlipmaaDoorPkC
import Derived.Test.YtgdlkaoadlipmaaDoorPkA
import Derived.Test.YtgdlkaoadlipmaaDoorRows
import Derived.Deep.Strs
import Derived.OpenShut
import Derived.FnData
namespace Go.Proofs.YtgdlkaoadlipmaaDoor
open Go.RowKit Go.Deep

/-- A row of three cells each: two bytes and a sign. -/
def escRow (x : Int × Int × Bool) : List Value := [.int .u8 x.1, .int .u8 x.2.1, .bool x.2.2]
def escDatum {H : Type} (x : Int × Int × Bool) : DataW H := .agg [.lit (.int .u8 x.1), .lit (.int .u8 x.2.1), .lit (.bool x.2.2)]
/-- An array of such rows that reads as known rows holds their cells. -/
theorem rows3_of_trod {H : Type} {enc : TypeId × Value → H} {P : Program} {w : World} {base : Nat} {sp : Nat → Bool} {held : Bool} {fuel : Nat} {t e b s : TypeId} {f0 f1 f2 : Field} {n : Nat} {cs : List Value} {zs : List (Int × Int × Bool)} {p : List MemPlace}
    (ht : P.underlying t = some (.array n e)) (he : P.underlying e = some (.struct #[f0, f1, f2])) (hb : P.underlying b = some (.int .u8)) (hs : P.underlying s = some .bool)
    (t0 : f0.type = b) (t1 : f1.type = b) (t2 : f2.type = s) (o0 : f0.offset = 0) (o1 : f1.offset = 1) (o2 : f2.offset = 2) (cb : P.cellsOf b = 1) (cz : P.cellsOf s = 1) (ce : P.cellsOf e = 3) (ct : P.cellsOf t = 3 * n)
    (h : DataW.trod enc P w base sp held fuel t cs = some (.agg (zs.map escDatum), p)) : cs = zs.flatMap escRow := by
  obtain ⟨xs, m, rfl, hx, hl, hn, hel⟩ := DataW.trod_array ht h
  have hzs : zs.map (escDatum (H := H)) = xs.map (·.1) := by
    have := congrArg Prod.fst hx
    simpa using this
  have hzl : zs.length = n := by
    have := congrArg List.length hzs
    simpa [hn] using this
  rw [ce] at hel
  rw [ct] at hl
  have key : ∀ i (z : Int × Int × Bool), zs[i]? = some z → (cs.drop (i * 3)).take 3 = escRow z := by
    intro i z hz
    have hi : i < n := by rw [← hzl]; exact (List.getElem?_eq_some_iff.1 hz).1
    have h1 := hel i hi
    have h2 : (xs.map (·.1))[i]? = some (escDatum z) := by rw [← hzs]; simp [hz]
    rw [List.getElem?_map] at h2
    cases hy : xs[i]? with
    | none => rw [hy] at h2; simp at h2
    | some y =>
      rw [hy] at h1 h2
      simp only [Option.map_some, Option.some.injEq] at h2
      obtain ⟨y0, y1, y2, k, rfl, hlen, g0, g1, g2⟩ := trod_struct3 he h1
      rw [t0, o0, cb] at g0
      rw [t1, o1, cb] at g1
      rw [t2, o2, cz] at g2
      obtain ⟨a0, c0, rfl, _⟩ := DataW.trod_int hb g0
      obtain ⟨a1, c1, rfl, _⟩ := DataW.trod_int hb g1
      obtain ⟨a2, c2, rfl⟩ := DataW.trod_bool hs g2
      rw [ce] at hlen
      simp only [escDatum, DataW.agg.injEq, List.cons.injEq, DataW.lit.injEq, Lit.int.injEq, Lit.bool.injEq, true_and, and_true] at h2
      obtain ⟨r0, r1, r2⟩ := h2
      generalize (cs.drop (i * 3)).take 3 = l at *
      match l, hlen with
      | [u0, u1, u2], _ =>
        simp at c0 c1 c2
        rw [c0, c1, c2, r0, r1, r2]
        rfl
  apply List.ext_getElem?
  intro j
  have flat : ∀ (l : List (Int × Int × Bool)) (i : Nat) (z : Int × Int × Bool), l[i]? = some z → ∀ k, k < 3 → (l.flatMap escRow)[i * 3 + k]? = (escRow z)[k]? := by
    intro l
    induction l with
    | nil => intro i z hz; simp at hz
    | cons y r ih =>
      intro i z hz k hk
      cases i with
      | zero =>
        simp at hz
        subst hz
        rw [List.flatMap_cons, List.getElem?_append_left (by simp [escRow]; omega)]
        simp
      | succ i =>
        simp at hz
        rw [List.flatMap_cons, List.getElem?_append_right (by simp [escRow]; omega)]
        have : (i + 1) * 3 + k - (escRow y).length = i * 3 + k := by simp [escRow]; omega
        rw [this]
        exact ih i z hz k hk
  by_cases hj : j / 3 < n
  · have hz : zs[j / 3]? = some (zs[j / 3]'(by omega)) := List.getElem?_eq_getElem _
    have h1 := key _ _ hz
    have h2 := flat zs _ _ hz (j % 3) (Nat.mod_lt _ (by omega))
    rw [show j / 3 * 3 + j % 3 = j by omega] at h2
    rw [h2, ← h1, List.getElem?_take, if_pos (Nat.mod_lt _ (by omega)), List.getElem?_drop, show j / 3 * 3 + j % 3 = j by omega]
  · have hfl : (zs.flatMap escRow).length = 3 * n := by
      rw [← hzl]
      clear key hzs hel hx h hl hzl flat hj hn
      induction zs with
      | nil => rfl
      | cons y r ih => rw [List.flatMap_cons, List.length_append, ih]; simp [escRow]; omega
    rw [List.getElem?_eq_none (by omega), List.getElem?_eq_none (by omega)]

def escL : List (Int × Int × Bool) := [(34, 34, true), (92, 92, true), (110, 10, true), (116, 9, true), (114, 13, true), (47, 47, false)]
/-- The table's name, as the given row has it. -/
def escN : String := Rows.lexNextRow.named.getD 0 (String.ofList [])
/-- The table lies as its rows say. -/
def Esc (w : World) : Prop := w.var? Tryd.prog escN = some (escL.flatMap escRow).toArray
theorem Esc.below {w w' : World} (h : Esc w) (hb : Below w.heap.size w w') : Esc w' := by
  unfold Esc World.var? at *
  cases hg : Tryd.prog.globalNamed escN with
  | none => simp [hg] at h
  | some g =>
    simp only [hg, Option.bind_some] at h ⊢
    have hlt : g < w.heap.size := by
      rcases Nat.lt_or_ge g w.heap.size with h' | h'
      · exact h'
      · rw [Array.getElem?_eq_none h'] at h; simp at h
    rw [hb.block g hlt]
    exact h
theorem Esc.cell {w : World} (h : Esc w) (i : Nat) : w.cell? ⟨2, i, none⟩ = (escL.flatMap escRow).toArray[i]? := World.var?_cell (by kernel_rfl) h i
/-- The table's block. -/
theorem Esc.heap {w : World} (h : Esc w) : ∃ t fr, w.heap[2]? = some (.cells #[.int .u8 34, .int .u8 34, .bool true, .int .u8 92, .int .u8 92, .bool true, .int .u8 110, .int .u8 10, .bool true, .int .u8 116, .int .u8 9, .bool true, .int .u8 114, .int .u8 13, .bool true, .int .u8 47, .int .u8 47, .bool false] t fr) := by
  unfold Esc World.var? at h
  rw [show Tryd.prog.globalNamed escN = some 2 by kernel_rfl] at h
  simp only [Option.bind_some] at h
  split at h
  · rename_i cs t fr hg
    exact ⟨t, fr, by rw [hg]; rw [Option.some.inj h]; rfl⟩
  · cases h
theorem esc_i0 (w : World) : (Instr.index 121 (.agg #[.int .u8 34, .int .u8 34, .bool true, .int .u8 92, .int .u8 92, .bool true, .int .u8 110, .int .u8 10, .bool true, .int .u8 116, .int .u8 9, .bool true, .int .u8 114, .int .u8 13, .bool true, .int .u8 47, .int .u8 47, .bool false]) (.int .i64 0)).run Tryd.prog w = .ok (.agg #[.int .u8 34, .int .u8 34, .bool true]) w := by kernel_rfl
theorem esc_i1 (w : World) : (Instr.index 121 (.agg #[.int .u8 34, .int .u8 34, .bool true, .int .u8 92, .int .u8 92, .bool true, .int .u8 110, .int .u8 10, .bool true, .int .u8 116, .int .u8 9, .bool true, .int .u8 114, .int .u8 13, .bool true, .int .u8 47, .int .u8 47, .bool false]) (.int .i64 1)).run Tryd.prog w = .ok (.agg #[.int .u8 92, .int .u8 92, .bool true]) w := by kernel_rfl
theorem esc_i2 (w : World) : (Instr.index 121 (.agg #[.int .u8 34, .int .u8 34, .bool true, .int .u8 92, .int .u8 92, .bool true, .int .u8 110, .int .u8 10, .bool true, .int .u8 116, .int .u8 9, .bool true, .int .u8 114, .int .u8 13, .bool true, .int .u8 47, .int .u8 47, .bool false]) (.int .i64 2)).run Tryd.prog w = .ok (.agg #[.int .u8 110, .int .u8 10, .bool true]) w := by kernel_rfl
theorem esc_i3 (w : World) : (Instr.index 121 (.agg #[.int .u8 34, .int .u8 34, .bool true, .int .u8 92, .int .u8 92, .bool true, .int .u8 110, .int .u8 10, .bool true, .int .u8 116, .int .u8 9, .bool true, .int .u8 114, .int .u8 13, .bool true, .int .u8 47, .int .u8 47, .bool false]) (.int .i64 3)).run Tryd.prog w = .ok (.agg #[.int .u8 116, .int .u8 9, .bool true]) w := by kernel_rfl
theorem esc_i4 (w : World) : (Instr.index 121 (.agg #[.int .u8 34, .int .u8 34, .bool true, .int .u8 92, .int .u8 92, .bool true, .int .u8 110, .int .u8 10, .bool true, .int .u8 116, .int .u8 9, .bool true, .int .u8 114, .int .u8 13, .bool true, .int .u8 47, .int .u8 47, .bool false]) (.int .i64 4)).run Tryd.prog w = .ok (.agg #[.int .u8 114, .int .u8 13, .bool true]) w := by kernel_rfl
theorem esc_i5 (w : World) : (Instr.index 121 (.agg #[.int .u8 34, .int .u8 34, .bool true, .int .u8 92, .int .u8 92, .bool true, .int .u8 110, .int .u8 10, .bool true, .int .u8 116, .int .u8 9, .bool true, .int .u8 114, .int .u8 13, .bool true, .int .u8 47, .int .u8 47, .bool false]) (.int .i64 5)).run Tryd.prog w = .ok (.agg #[.int .u8 47, .int .u8 47, .bool false]) w := by kernel_rfl
end Go.Proofs.YtgdlkaoadlipmaaDoor
