/- Chains of errors as package fault makes them: an Errno, or a fault over a chain, or a fault over nothing. -/
import Derived.Test.YtgdlkaoadlipmaaDoorErrMeth
import Derived.Test.YtgdlkaoadlipmaaDoorPkC
namespace Go.Proofs.YtgdlkaoadlipmaaDoor
open Go.RowKit

/-- E is an error, in blocks below B, whose chain has this Errno (or none) and these places. -/
inductive Ch (B : Nat) (w : World) : Value → Option Int → List Int → Prop
  | code (c : Int) : -9223372036854775808 ≤ c ∧ c ≤ 9223372036854775807 → Ch B w (.iface 29 (.int .i64 c)) (some c) []
  | bare (b : Nat) (n : Int) : b < B → -9223372036854775808 ≤ n ∧ n ≤ 9223372036854775807 → w.cell? ⟨b, 0, none⟩ = some (.int .i64 n) → w.cell? ⟨b, 1, none⟩ = some .nilIface → Ch B w (.iface 66 (.pointer (some ⟨b, 0, none⟩))) none [n]
  | put (b : Nat) (n : Int) (u : TypeId) (x : Value) (c : Option Int) (l : List Int) : b < B → -9223372036854775808 ≤ n ∧ n ≤ 9223372036854775807 → w.cell? ⟨b, 0, none⟩ = some (.int .i64 n) → w.cell? ⟨b, 1, none⟩ = some (.iface u x) →
      Ch B w (.iface u x) c l → Ch B w (.iface 66 (.pointer (some ⟨b, 0, none⟩))) c (n :: l)

theorem Ch.later {B B' : Nat} {w w' : World} {E : Value} {c : Option Int} {l : List Int} (h : Ch B w E c l) (hb : Below B w w') (hB : B ≤ B') : Ch B' w' E c l := by
  induction h with
  | code c hc => exact .code c hc
  | bare b n h1 h2 h3 h4 => exact .bare b n (Nat.lt_of_lt_of_le h1 hB) h2 ((hb.cell (p := ⟨b, 0, none⟩) h1).trans h3) ((hb.cell (p := ⟨b, 1, none⟩) h1).trans h4)
  | put b n u x c l h1 h2 h3 h4 _ ih => exact .put b n u x c l (Nat.lt_of_lt_of_le h1 hB) h2 ((hb.cell (p := ⟨b, 0, none⟩) h1).trans h3) ((hb.cell (p := ⟨b, 1, none⟩) h1).trans h4) ih

theorem Ch.iface {B : Nat} {w : World} {E : Value} {c : Option Int} {l : List Int} (h : Ch B w E c l) : ∃ u x, E = .iface u x := by cases h <;> exact ⟨_, _, rfl⟩

theorem Ch.unique {B : Nat} {w : World} {E : Value} {c c' : Option Int} {l l' : List Int} (h : Ch B w E c l) (h' : Ch B w E c' l') : l = l' := by
  induction h generalizing l' with
  | code c hc => cases h'; rfl
  | bare b n h1 h2 h3 h4 =>
    cases h' with
    | bare _ n' _ _ h3' _ => rw [h3] at h3'; cases h3'; rfl
    | put _ n' u x _ _ _ _ _ h4' _ => rw [h4] at h4'; cases h4'
  | put b n u x c l h1 h2 h3 h4 _ ih =>
    cases h' with
    | bare _ n' _ _ h3' h4' => rw [h4] at h4'; cases h4'
    | put _ n' u' x' _ l2 _ _ h3' h4' h5' =>
      rw [h3] at h3'; cases h3'
      rw [h4] at h4'; cases h4'
      rw [ih h5']

open Classical in
/-- How many places an error has. -/
noncomputable def chLen (B : Nat) (w : World) (E : Value) : Nat := if h : ∃ c l, Ch B w E c l then h.choose_spec.choose.length else 0
theorem chLen_eq {B : Nat} {w : World} {E : Value} {c : Option Int} {l : List Int} (h : Ch B w E c l) : chLen B w E = l.length := by
  unfold chLen
  have hex : ∃ c l, Ch B w E c l := ⟨c, l, h⟩
  rw [dif_pos hex, Ch.unique hex.choose_spec.choose_spec h]
/-- .. of a link, by its value. -/
noncomputable def lkLen (B : Nat) (w : World) : Value → Nat
  | .iface _ (.agg cs) => chLen B w (cs.getD 0 .nilIface)
  | _ => 0

theorem below_frozen {B : Nat} {w w' : World} (hb : Below B w w') (a : Addr) (h : a.block < B) : w'.frozen? a = w.frozen? a := World.frozen?_of_block (hb.block a.block h)
/-- A store into a variable that holds a pointer touches no chain. -/
theorem Ch.but {B T : Nat} {w w' : World} {E x : Value} {c : Option Int} {l : List Int} (h : Ch B w E c l) (hT : w.cell? ⟨T, 0, none⟩ = some x) (hx : ∀ n, x ≠ .int .i64 n) (hg : w.grownBy w' (some T)) : Ch B w' E c l := by
  have key : ∀ b n, w.cell? ⟨b, 0, none⟩ = some (.int .i64 n) → ∀ i v, w.cell? ⟨b, i, none⟩ = some v → w'.cell? ⟨b, i, none⟩ = some v := by
    intro b n h1 i v h2
    refine hg.cell h2 (fun e => ?_)
    simp only [Option.some.injEq] at e
    subst e
    rw [h1] at hT
    exact hx n (Option.some.inj hT).symm
  induction h with
  | code c hc => exact .code c hc
  | bare b n h1 h2 h3 h4 => exact .bare b n h1 h2 (key b n h3 0 _ h3) (key b n h3 1 _ h4)
  | put b n u x c l h1 h2 h3 h4 _ ih => exact .put b n u x c l h1 h2 (key b n h3 0 _ h3) (key b n h3 1 _ h4) ih
/-- What errors.As does at an Errno's variable in t, where the chain has this Errno, or none. -/
def CodePost (w : World) (t : Addr) (c : Option Int) (e : Ending) (w' : World) : Prop :=
  (∃ k, c = some k ∧ e = .returned (.bool true) ∧ ∃ w2, Below w.heap.size w w2 ∧ w' = w2.setCell t (.int .i64 k)) ∨ (c = none ∧ e = .returned (.bool false) ∧ Below w.heap.size w w')
theorem CodePost.after {w w1 : World} {t : Addr} {c : Option Int} {e : Ending} {w' : World} (h : CodePost w1 t c e w') (hb : Below w.heap.size w w1) : CodePost w t c e w' := by
  rcases h with ⟨k, h1, h2, w2, h3, h4⟩ | ⟨h1, h2, h3⟩
  · exact Or.inl ⟨k, h1, h2, w2, hb.trans (h3.mono hb.size), h4⟩
  · exact Or.inr ⟨h1, h2, hb.trans (h3.mono hb.size)⟩
/-- errors.errorType is as the program's text lays it. -/
def ET (w : World) : Prop := w.cell? ⟨1, 0, none⟩ = some (.iface 104 (.agg #[.pointer (some ⟨7, 26, none⟩)]))
theorem ET.below {w w' : World} (h : ET w) (hb : Below w.heap.size w w') : ET w' :=
  (hb.cell (p := ⟨1, 0, none⟩) (World.block_lt_of_cell? w ⟨1, 0, none⟩ h)).trans h
end Go.Proofs.YtgdlkaoadlipmaaDoor
