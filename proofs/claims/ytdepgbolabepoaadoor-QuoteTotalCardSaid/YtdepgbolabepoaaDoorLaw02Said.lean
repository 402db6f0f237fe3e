/- Layer 2: what package quote's functions answer, where its table of escapes is laid; and each law's walk as its card takes it. -/
import Derived.Test.YtdepgbolabepoaaDoorQt7
import Derived.Test.YtdepgbolabepoaaDoorLaw02Walks
import Derived.Test.YtdepgbolabepoaaDoorLaw02Total
import Derived.Test.YtdepgbolabepoaaDoorLawKit0
namespace Go.Proofs.YtdepgbolabepoaaDoor
open Go.RowKit

/-- All of them. -/
theorem qspec : QSpec Esc where
  keep := Esc.below
  order := fun a b w _ _ _ => (q_Order a b w).mono fun _ _ h => ⟨h.1, h.2 ▸ Drawn.refl _⟩
  common := fun a b w ha hb _ => (q_Common a b w (by omega) (by omega)).mono fun _ _ h => ⟨h.1, h.2.below⟩
  quote := fun s w hs hT => q_Quote s w (by omega) hT
  unquote := fun s w hs hT => q_Unquote s w (by omega) hT
  canon := fun s w hs hT => q_Canon s w (by omega) hT
  name := fun s w hs _ => (q_Name s w (by omega)).mono fun _ _ h => ⟨h.1, h.2 ▸ Below.refl _ _⟩
  hex := fun s w hs _ => q_Hex s w (by omega)
  unhex := fun s w hs _ => q_Unhex s w (by omega)

/-- What the row lists is laid: so are the table's cells. -/
theorem esc_of_laid {W : World} (h : laidMetH Tryd.prog Rows.quoteOrdersRow.laid W) : Esc W := by
  rw [MakeChecks.laidMetH_plain _ _ _ (by kernel_rfl)] at h
  obtain ⟨ps, ⟨g, t, cs, fuel, p, q, hg, ht, hvar, hd, _, _⟩, _⟩ := h
  have hg' : Tryd.prog.globalNamed escN = some 1 := by kernel_rfl
  obtain rfl := Option.some.inj (hg'.symm.trans hg)
  have ht' : (Tryd.prog.globals[1]?).map (·.type) = some 48 := by kernel_rfl
  obtain rfl := Option.some.inj (ht'.symm.trans ht)
  unfold Esc
  have := rows3_of_trod (zs := escL) (b := 5) (s := 4) (n := 6) Tryd.underlying48 Tryd.underlying47 Tryd.underlying5 Tryd.underlying4 rfl rfl rfl rfl rfl rfl (by kernel_rfl) (by kernel_rfl) (by kernel_rfl) (by kernel_rfl) hd
  rw [← this]
  exact hvar

theorem quoteOrders.quoteOrders_walk (a b : ByteArray) (_ : a.size ≤ maxLen) (_ : b.size ≤ maxLen) (w : World) (hT : Esc w) : Calls Tryd.prog 3 #[.string a, .string b] w fun e w' => e = .returned (.bool true) ∧ Below w.heap.size w w' := Go.Proofs.YtdepgbolabepoaaDoor.quoteOrders_walk qspec a b w hT
theorem quoteTotal.quoteTotal_walk (a b c : ByteArray) (_ : a.size ≤ maxLen) (_ : b.size ≤ maxLen) (_ : c.size ≤ maxLen) (w : World) (hT : Esc w) : Calls Tryd.prog 4 #[.string a, .string b, .string c] w fun e w' => e = .returned (.bool true) ∧ Below w.heap.size w w' := Go.Proofs.YtdepgbolabepoaaDoor.quoteTotal_walk qspec a b c w hT
theorem quoteQuotes.quoteQuotes_walk (s : ByteArray) (_ : s.size ≤ maxLen) (w : World) (hT : Esc w) : Calls Tryd.prog 5 #[.string s] w fun e w' => e = .returned (.bool true) ∧ Below w.heap.size w w' := Go.Proofs.YtdepgbolabepoaaDoor.quoteQuotes_walk qspec s w hT
theorem quoteReads.quoteReads_walk (s : ByteArray) (_ : s.size ≤ maxLen) (w : World) (hT : Esc w) : Calls Tryd.prog 6 #[.string s] w fun e w' => e = .returned (.bool true) ∧ Below w.heap.size w w' := Go.Proofs.YtdepgbolabepoaaDoor.quoteReads_walk qspec s w hT
theorem quoteNames.quoteNames_walk (s : ByteArray) (_ : s.size ≤ maxLen) (w : World) (hT : Esc w) : Calls Tryd.prog 7 #[.string s] w fun e w' => e = .returned (.bool true) ∧ Below w.heap.size w w' := Go.Proofs.YtdepgbolabepoaaDoor.quoteNames_walk qspec s w hT
theorem quoteBack.quoteBack_walk (s t : ByteArray) (_ : s.size ≤ maxLen) (_ : t.size ≤ maxLen) (w : World) (hT : Esc w) : Calls Tryd.prog 8 #[.string s, .string t] w fun e w' => e = .returned (.bool true) ∧ Below w.heap.size w w' := Go.Proofs.YtdepgbolabepoaaDoor.quoteBack_walk qspec s t w hT
theorem quoteApart.quoteApart_walk (a b : ByteArray) (cut : Int) (_ : a.size ≤ maxLen) (_ : b.size ≤ maxLen) (_ : (Lit.int .i64 cut).wf = true) (w : World) (hT : Esc w) : Calls Tryd.prog 9 #[.string a, .string b, .int .i64 cut] w fun e w' => e = .returned (.bool true) ∧ Below w.heap.size w w' := Go.Proofs.YtdepgbolabepoaaDoor.quoteApart_walk qspec a b cut w hT
end Go.Proofs.YtdepgbolabepoaaDoor
