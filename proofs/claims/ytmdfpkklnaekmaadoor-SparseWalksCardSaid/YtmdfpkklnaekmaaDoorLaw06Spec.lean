/- Layer 6's laws: what they want of package sparse's rows; what is done to rows. -/
import Derived.Test.YtmdfpkklnaekmaaDoorRef06O
import Derived.Deep.Cut
namespace Go.Proofs.YtmdfpkklnaekmaaDoor
open Go.RowKit
set_option maxRecDepth 1000000
set_option linter.unusedSimpArgs false

/-- The zero row of package sparse. -/
abbrev zeroS : Array Value := #[.int .u32 0, .slice none 0 0]
abbrev In64 (n : Int) : Prop := -9223372036854775808 ≤ n ∧ n ≤ 9223372036854775807
/-- What package sparse's rows answer. At W R c: the cells c are, in world W, the row R. -/
structure RSpec (Tb : World → Prop) (At : World → Rw → Array Value → Prop) : Prop where
  ok : ∀ {W : World} {R : Rw} {c : Array Value}, At W R c → Ok R
  size : ∀ {W : World} {R : Rw} {c : Array Value}, At W R c → c.size = 2
  one : ∀ {W : World} {R : Rw} {c : Array Value}, At W R c → c.all (·.oneCell') = true
  kept : ∀ {W W' : World} {R : Rw} {c : Array Value} {row : Option Nat}, At W R c → W.grownBy W' row → (∀ X, row = some X → ∃ cs T fr, W.heap[X]? = some (.cells cs T fr) ∧ T ≠ 3) → At W' R c
  zero : ∀ W, At W noR zeroS
  tab : ∀ {W W' : World}, Tb W → Below W.heap.size W W' → Tb W'
  len : ∀ (W : World) (R : Rw) (c : Array Value), At W R c → Calls Tryd.prog 27 #[.agg c] W fun e W' => e = .returned (.int .i64 (cntR R 32 : Nat)) ∧ Below W.heap.size W W'
  bits : ∀ (W : World) (R : Rw) (c : Array Value), At W R c → Calls Tryd.prog 19 #[.agg c] W fun e W' => e = .returned (.int .u32 (bitsR R 32 : Nat)) ∧ Below W.heap.size W W'
  get : ∀ (W : World) (R : Rw) (c : Array Value) (i : Int), At W R c → In64 i → Calls Tryd.prog 12 #[.agg c, .int .i64 i] W fun e W' => e = .returned (.tuple #[.int .i64 (getR R i).1, .bool (getR R i).2]) ∧ Below W.heap.size W W'
  first : ∀ (W : World) (R : Rw) (c : Array Value), At W R c → Tb W → Calls Tryd.prog 26 #[.agg c] W fun e W' => e = .returned (.tuple #[.int .i64 (firstR R).1, .int .i64 (firstR R).2.1, .bool (firstR R).2.2]) ∧ Below W.heap.size W W'
  set : ∀ (W : World) (R : Rw) (c : Array Value) (i x : Int), At W R c → In64 i → In64 x → Calls Tryd.prog 25 #[.agg c, .int .i64 i, .int .i64 x] W fun e W' => ∃ c', e = .returned (.agg c') ∧ At W' (setR R i x) c' ∧ Below W.heap.size W W'
  cut : ∀ (W : World) (R : Rw) (c : Array Value) (i : Int), At W R c → In64 i → Calls Tryd.prog 24 #[.agg c, .int .i64 i] W fun e W' => ∃ c', e = .returned (.agg c') ∧ At W' (cutR R i) c' ∧ Below W.heap.size W W'

section
variable {Tb : World → Prop} {At : World → Rw → Array Value → Prop}
theorem RSpec.later (S : RSpec Tb At) {W W' : World} {R : Rw} {c : Array Value} (h : At W R c) (hb : Below W.heap.size W W') : At W' R c :=
  S.kept h (row := none) ⟨hb.os, hb.tape, hb.output, hb.size, fun k hk _ => hb.block k hk⟩ (fun _ e => by cases e)
theorem RSpec.but (S : RSpec Tb At) {W W' : World} {R : Rw} {c : Array Value} {X : Nat} {cs : Array Value} {T : TypeId} {fr : Nat × Nat} (h : At W R c) (k : Only X W W') (hX : W.heap[X]? = some (.cells cs T fr)) (hT : T ≠ 3) : At W' R c :=
  S.kept h k.by_ (fun Y e => by cases e; exact ⟨cs, T, fr, hX, hT⟩)
end
theorem srow_info : (Tryd.prog.info? 27).map (·.size) = some 2 := by kernel_rfl
theorem op_info : (Tryd.prog.info? 35).map (·.size) = some 3 := by kernel_rfl
/-- Something is done to a row. -/
def doR (R : Rw) (o : Int × Int × Bool) : Rw := if o.2.2 = true then cutR R o.1 else setR R o.1 o.2.1
/-- The cells of what is done. -/
abbrev opC (o : Int × Int × Bool) : Array Value := #[.int .i64 o.1, .int .i64 o.2.1, .bool o.2.2]
theorem Ok.does {R : Rw} (h : Ok R) (o : Int × Int × Bool) (hx : In64 o.2.1) : Ok (doR R o) := by
  unfold doR
  split
  · exact h.cut _
  · exact h.set _ _ hx
/-- Three variables laid one behind the other. -/
theorem three_laid {w w1 : World} {c d z : Array Value} {T T' T'' : TypeId} (hw : ((w.alloc (.cells c T)).alloc (.cells d T')).alloc (.cells z T'') = w1) :
    w1.heap[w.heap.size]? = some (.cells c T (0, 0)) ∧ w1.heap[w.heap.size + 1]? = some (.cells d T' (0, 0)) ∧ w1.heap[w.heap.size + 1 + 1]? = some (.cells z T'' (0, 0)) ∧ Below w.heap.size w w1 := by
  subst hw
  refine ⟨?_, ?_, ?_, Below.more (Below.more (Below.newly' _ _) _) _⟩
  · have h := heap_alloc_last w (.cells c T)
    exact ((Below.more (Below.newly' (w.alloc (.cells c T)) (.cells d T')) (.cells z T'')).block _ (by simp)).trans h
  · have h := heap_alloc_last (w.alloc (.cells c T)) (.cells d T')
    have h2 := ((Below.newly' ((w.alloc (.cells c T)).alloc (.cells d T')) (.cells z T'')).block _ (by simp)).trans h
    simpa using h2
  · have h := heap_alloc_last ((w.alloc (.cells c T)).alloc (.cells d T')) (.cells z T'')
    simpa using h

set_option maxHeartbeats 2000000 in
theorem does_walk {Tb : World → Prop} {At : World → Rw → Array Value → Prop} (S : RSpec Tb At) (R : Rw) (c : Array Value) (o : Int × Int × Bool) (h0 : In64 o.1) (hx : In64 o.2.1) (w : World) (hc : At w R c) :
    Calls Tryd.prog 10 #[.agg c, .agg (opC o)] w fun e w' => ∃ c', e = .returned (.agg c') ∧ At w' (doR R o) c' ∧ Below w.heap.size w w' := by
  obtain ⟨i, x, b⟩ := o
  simp only at h0 hx
  have H0 := Lib.hid h0
  have HXX := Lib.hid hx
  clear h0 hx
  go_enter Tryd.func10, Tryd.ntmps10
  go_upto_region 1 with fail
  obtain ⟨W0, hW0⟩ : ∃ W0, ((w.alloc (.cells c 27)).alloc (.cells (opC (i, x, b)) 35)).alloc (.cells zeroS 27) = W0 := ⟨_, rfl⟩
  rw [hW0]
  obtain ⟨hx1, hy1, hz1, hbl⟩ := three_laid hW0
  have HC := Lib.hid (S.later hc hbl)
  have HX := Lib.hid hx1
  have HZ := Lib.hid hz1
  have HB := Lib.hid hbl
  have c0 : W0.cell? ⟨w.heap.size + 1, 0, none⟩ = some (.int .i64 i) := cell_in hy1 rfl
  have c1 : W0.cell? ⟨w.heap.size + 1, 1, none⟩ = some (.int .i64 x) := cell_in hy1 rfl
  have c2 : W0.cell? ⟨w.heap.size + 1, 2, none⟩ = some (.bool b) := cell_in hy1 rfl
  clear hx1 hy1 hz1 hbl hc hW0
  cases b
  all_goals go_wp2_with (first
    | (refine wpList_load_row rfl 27 _ rfl w.heap.size rfl 27 _ _ _ HX.out Tryd.underlying27 rfl (by rw [S.size HC.out]; exact srow_info) ?_)
    | (go_at_call 25; refine (S.set _ R c _ _ HC.out H0.out HXX.out).mono ?_; rintro e w2 ⟨c', rfl, hc2, hb2⟩; have HC2 := Lib.hid hc2; have HB2 := Lib.hid (HB.out.trans (hb2.mono HB.out.size)); have HZ2 := Lib.hid ((hb2.block _ (Array.getElem?_eq_some_iff.1 HZ.out).1).trans HZ.out); clear hc2 hb2)
    | (go_at_call 24; refine (S.cut _ R c _ HC.out H0.out).mono ?_; rintro e w2 ⟨c', rfl, hc2, hb2⟩; have HC2 := Lib.hid hc2; have HB2 := Lib.hid (HB.out.trans (hb2.mono HB.out.size)); have HZ2 := Lib.hid ((hb2.block _ (Array.getElem?_eq_some_iff.1 HZ.out).1).trans HZ.out); clear hc2 hb2)
    | (refine st_agg rfl 27 _ _ rfl (w.heap.size + 1 + 1) _ rfl rfl 27 _ HZ2.out (by rw [S.size HC2.out]; exact srow_info) (by rw [S.size HC2.out]; rfl) (S.one HC2.out) ?_; intro w3 h3 k3; have HX3 := Lib.hid h3; have HK3 := Lib.hid k3; clear h3 k3))
  all_goals
    refine bodyPost_ret (results_cell_row rfl _ _ (w.heap.size + 1 + 1) 27 _ (0, 0) _ rfl HX3.out Tryd.underlying27 rfl (by rw [S.size HC2.out]; exact srow_info)) rfl ⟨_, rfl, ?_, HB2.out.trans (HK3.out.below (by omega))⟩
    exact S.but HC2.out HK3.out HZ2.out (by decide)
set_option maxHeartbeats 2000000 in
theorem should_walk (R : Rw) (c : Array Value) (o : Int × Int × Bool) (w : World) (hc : RC R c) :
    Calls Tryd.prog 11 #[.agg c, .agg (opC o)] w fun e w' => ∃ c', e = .returned (.agg c') ∧ RC (doR R o) c' ∧ Below w.heap.size w w' := by
  obtain ⟨i, x, b⟩ := o
  go_enter Tryd.func11, Tryd.ntmps11
  go_upto_region 1 with fail
  obtain ⟨W0, hW0⟩ : ∃ W0, ((w.alloc (.cells c 31)).alloc (.cells (opC (i, x, b)) 35)).alloc (.cells zeroC 31) = W0 := ⟨_, rfl⟩
  rw [hW0]
  obtain ⟨hx1, hy1, hz1, hbl⟩ := three_laid hW0
  have HC := Lib.hid hc
  have HX := Lib.hid hx1
  have HZ := Lib.hid hz1
  have HB := Lib.hid hbl
  have c0 : W0.cell? ⟨w.heap.size + 1, 0, none⟩ = some (.int .i64 i) := cell_in hy1 rfl
  have c1 : W0.cell? ⟨w.heap.size + 1, 1, none⟩ = some (.int .i64 x) := cell_in hy1 rfl
  have c2 : W0.cell? ⟨w.heap.size + 1, 2, none⟩ = some (.bool b) := cell_in hy1 rfl
  clear hx1 hy1 hz1 hbl hc hW0
  cases b
  all_goals go_wp2_with (first
    | (refine wpList_load_row rfl 31 _ rfl w.heap.size rfl 31 _ _ _ HX.out Tryd.underlying31 rfl (by rw [RC.size HC.out]; exact row_info) ?_)
    | (go_at_call 29; refine (ref_Set6 R c HC.out _ _ _).mono ?_; rintro e w2 ⟨c', rfl, hc2, hb2⟩; have HC2 := Lib.hid hc2; have HB2 := Lib.hid (HB.out.trans (hb2.mono HB.out.size)); have HZ2 := Lib.hid ((hb2.block _ (Array.getElem?_eq_some_iff.1 HZ.out).1).trans HZ.out); clear hc2 hb2)
    | (go_at_call 28; refine (ref_Cut6 R c HC.out _ _).mono ?_; rintro e w2 ⟨c', rfl, hc2, hb2⟩; have HC2 := Lib.hid hc2; have HB2 := Lib.hid (HB.out.trans (hb2.mono HB.out.size)); have HZ2 := Lib.hid ((hb2.block _ (Array.getElem?_eq_some_iff.1 HZ.out).1).trans HZ.out); clear hc2 hb2)
    | (refine st_agg rfl 31 _ _ rfl (w.heap.size + 1 + 1) _ rfl rfl 31 _ HZ2.out (by rw [RC.size HC2.out]; exact row_info) (by rw [RC.size HC2.out]; rfl) (RC.one HC2.out) ?_; intro w3 h3 k3; have HX3 := Lib.hid h3; have HK3 := Lib.hid k3; clear h3 k3))
  all_goals
    refine bodyPost_ret (results_cell_row rfl _ _ (w.heap.size + 1 + 1) 31 _ (0, 0) _ rfl HX3.out Tryd.underlying31 rfl (by rw [RC.size HC2.out]; exact row_info)) rfl ⟨_, rfl, ?_, HB2.out.trans (HK3.out.below (by omega))⟩
    exact HC2.out
end Go.Proofs.YtmdfpkklnaekmaaDoor
