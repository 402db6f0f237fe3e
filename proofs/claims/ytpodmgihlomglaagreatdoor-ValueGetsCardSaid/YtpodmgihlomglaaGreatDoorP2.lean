import Derived.Test.YtpodmgihlomglaaGreatDoorP1
import Derived.Deep.Cut
import Derived.Deep.OwnRows
import Derived.Deep.WholeRow
import Derived.Laws.CopyOwn
import Derived.Laws.CopyRow
import Derived.Laws.IdiomCopy
import Derived.Laws.MakeOwn
import Derived.Laws.Tables
namespace Go.Proofs.YtpodmgihlomglaaGreatDoor
open Go.RowKit
set_option maxRecDepth 1000000
set_option linter.unusedSimpArgs false
structure Only (X : Nat) (w w' : World) : Prop where
 by_ : w.grownBy w' (some X)
 size : w'.heap.size = w.heap.size
theorem Only.refl (X : Nat) (w : World) : Only X w w := ⟨⟨rfl, rfl, rfl, Nat.le_refl _, fun _ _ _ => rfl⟩, rfl⟩
theorem Only.below {X B : Nat} {w w' : World} (h : Only X w w') (hB : B ≤ X) : Below B w w' :=
 ⟨h.by_.os, h.by_.tape, h.by_.output, h.by_.size, fun k hk => by
  by_cases hlt : k < w.heap.size
  ·exact h.by_.block k hlt (by simp; omega)
  ·have hz := h.size
   rw [Array.getElem?_eq_none (by omega), Array.getElem?_eq_none (by omega)]⟩
theorem Only.trans {X : Nat} {a b c : World} (h : Only X a b) (k : Only X b c) : Only X a c :=
 ⟨⟨k.by_.os.trans h.by_.os, k.by_.tape.trans h.by_.tape, k.by_.output.trans h.by_.output, Nat.le_trans h.by_.size k.by_.size, fun i hi hne => (k.by_.block i (Nat.lt_of_lt_of_le hi h.by_.size) hne).trans (h.by_.block i hi hne)⟩, k.size.trans h.size⟩
theorem Only.other {X Y : Nat} {w w' : World} {o : Obj} (h : Only X w w') (hy : w.heap[Y]? = some o) (hne : Y ≠ X) : w'.heap[Y]? = some o :=
 (h.by_.block Y (Array.getElem?_eq_some_iff.1 hy).1 (by simpa using fun e => hne e)).trans hy
theorem only_setRow (w : World) (X : Nat) (c : Array Value) : Only X w (w.setRow X c) := by
 refine ⟨⟨rfl, rfl, rfl, by simp [World.setRow], fun j hj hne => ?_⟩, by simp [World.setRow]⟩
 simp only [World.setRow]
 rw [Array.getElem?_modify]
 split
 ·subst_vars; simp at hne
 ·rfl
theorem cell_in {W : World} {X : Nat} {c : Array Value} {T : TypeId} {fr : Nat × Nat} (h : W.heap[X]? = some (.cells c T fr)) {j : Nat} {v : Value} (hv : c[j]? = some v) : W.cell? ⟨X, j, none⟩ = some v := by
 rw [cell_of_row W X j c T fr h, hv]
theorem st_agg {ops : Array Oper} {rest : List Oper} {o : Oper} {a : Act} {w : World} {Q : Exit → Act → World → Prop} (hgd : o.guard = none) (ty : TypeId) (x y : Operand) (ho : o.op = .store ty x y)
  (X : Nat) (c' : Array Value) (hx : a.eval x = .pointer (some ⟨X, 0, none⟩)) (hy : a.eval y = .agg c') (T : TypeId) (c : Array Value) (hB : w.heap[X]? = some (.cells c T (0, 0)))
  (hi : (Tryz.prog.info? ty).map (·.size) = some c'.size) (hs : c.size = c'.size) (h1 : c'.all (·.oneCell') = true)
  (h : ∀ w', w'.heap[X]? = some (.cells c' T (0, 0)) → Only X w w' → wpList Tryz.prog ops Q rest (a.put o.dst undef) w') : wpList Tryz.prog ops Q (o :: rest) a w :=
 wpList_plain hgd fun _ hK => wp_store_row ty x y ho X _ hx hy T _ hB hi hs h1 (hK _ _ (h _ (setRow_heap w X _ _ _ _ hB) (only_setRow _ _ _)))
theorem st_agg_wp {o : Oper} {a : Act} {w : World} {K : Act → World → Prop} {Q : Exit → Act → World → Prop} (ty : TypeId) (x y : Operand) (ho : o.op = .store ty x y)
  (X : Nat) (c' : Array Value) (hx : a.eval x = .pointer (some ⟨X, 0, none⟩)) (hy : a.eval y = .agg c') (T : TypeId) (c : Array Value) (hB : w.heap[X]? = some (.cells c T (0, 0)))
  (hi : (Tryz.prog.info? ty).map (·.size) = some c'.size) (hs : c.size = c'.size) (h1 : c'.all (·.oneCell') = true)
  (h : ∀ w', w'.heap[X]? = some (.cells c' T (0, 0)) → Only X w w' → K (a.put o.dst undef) w') : o.wp Tryz.prog a w K Q :=
 wp_store_row ty x y ho X _ hx hy T _ hB hi hs h1 (h _ (setRow_heap w X _ _ _ _ hB) (only_setRow _ _ _))
theorem run_storeVar_cell (w : World) (g k : Nat) (T ty : TypeId) (cur : Array Value) (v : Value) (hg : w.heap[g]? = some (.cells cur T (0, 0))) (hk : k < cur.size) (hi : (Tryz.prog.info? ty).map (·.size) = some 1)
  (h1 : v.oneCell' = true) : (storeVar ty ⟨g, k, none⟩ v).run Tryz.prog w = .ok () (w.setRow g (cur.setIfInBounds k v)) := by
 have := run_storeCells_at (P := Tryz.prog) g k T [v] 0 cur w hg (by simp; omega) (fun x hx => by simp at hx; subst hx; exact h1)
 have hc : v.cells = #[v] := by cases v <;> first | rfl | cases h1
 have e : (cur.toList.take (k + 0) ++ [v] ++ cur.toList.drop (k + 0 + [v].length)).toArray = cur.setIfInBounds k v := by
  apply Array.ext_getElem?
  intro i
  simp only [Nat.add_zero, List.length_cons, List.length_nil, List.getElem?_toArray, Array.getElem?_setIfInBounds]
  rw [List.append_assoc, List.getElem?_append]
  simp only [List.length_take, Array.length_toList]
  by_cases h : i < k
  ·rw [if_pos (by omega), List.getElem?_take_of_lt h, if_neg (by omega)]
   simp
  ·rw [if_neg (by omega)]
   by_cases h' : i = k
   ·subst h'
    rw [if_pos rfl, if_pos hk, show i - min i cur.size = 0 by omega]
    simp
   ·rw [if_neg (by omega), show i - min k cur.size = (i - k - 1) + 1 by omega]
    simp only [List.singleton_append, List.getElem?_cons_succ, List.getElem?_drop]
    rw [show k + (0 + 1) + (i - k - 1) = i by omega]
    simp
 rw [e] at this
 cases hq : Tryz.prog.info? ty with
 | none => simp [hq] at hi
 | some i =>
  have hs : i.size = 1 := by simpa [hq] using hi
  simp [storeVar, sizeOf, typeInfo, hq, hc, hs, this]
theorem st_cell {ops : Array Oper} {rest : List Oper} {o : Oper} {a : Act} {w : World} {Q : Exit → Act → World → Prop} (hgd : o.guard = none) (ty : TypeId) (x y : Operand) (ho : o.op = .store ty x y)
  (X k : Nat) (v : Value) (hx : a.eval x = .pointer (some ⟨X, k, none⟩)) (hy : a.eval y = v) (h1 : v.oneCell' = true) (T : TypeId) (c : Array Value) (hB : w.heap[X]? = some (.cells c T (0, 0)))
  (hi : (Tryz.prog.info? ty).map (·.size) = some 1) (hk : k < c.size)
  (h : ∀ w', w'.heap[X]? = some (.cells (c.setIfInBounds k v) T (0, 0)) → Only X w w' → wpList Tryz.prog ops Q rest (a.put o.dst undef) w') : wpList Tryz.prog ops Q (o :: rest) a w :=
 wpList_plain hgd fun _ hK => by
  unfold Oper.wp execOp
  simp only [ho, hx, hy, Instr.storeAt, Instr.sureAddr, Sem.run_bind, Sem.run_pure, Result.andThen_ok, run_storeVar_cell w X k T ty c v hB hk hi h1]
  exact hK _ _ (h _ (setRow_heap w X _ _ _ _ hB) (only_setRow _ _ _))
theorem ld_if {ops : Array Oper} {rest : List Oper} {o : Oper} {a : Act} {w : World} {Q : Exit → Act → World → Prop} (hwd : Region.wanted o (yielded ops a.tmps) = true) (ty : TypeId) (x : Operand) (ho : o.op = .load ty x)
  (X : Nat) (hx : a.eval x = .pointer (some ⟨X, 0, none⟩)) (T : TypeId) (c : Array Value) (fr : Nat × Nat) (d : TypeDesc) (hB : w.heap[X]? = some (.cells c T fr))
  (hu : Tryz.prog.underlying ty = some d) (hd : d.isRow = true) (hi : (Tryz.prog.info? ty).map (·.size) = some c.size)
  (h : wpList Tryz.prog ops Q rest (a.put o.dst (.agg c)) w) : wpList Tryz.prog ops Q (o :: rest) a w :=
 wpList_step fun _ hK => by
  rw [if_pos hwd]
  exact wp_load_row ty x ho X hx T c fr d hB hu (by cases d <;> simp_all [TypeDesc.isRow]) hi (hK _ _ h)
def SegAt (w : World) (v : Value) (zs : List Int) : Prop := ∃ (a : Option Addr) (cap : Nat), v = .slice a zs.length cap ∧ (0 < zs.length → ∃ ad, a = some ad ∧ ∀ j u, (iv zs)[j]? = some u → w.cell? (ad.add j) = some u)
def LisAt (w : World) (v : Value) (zs : List Int) : Prop :=
 (zs = [] ∧ v = .slice none 0 0) ∨ (0 < zs.length ∧ ∃ (g c : Nat) (cs : Array Value) (fr : Nat × Nat), v = .slice (some ⟨g, 0, none⟩) zs.length c ∧ zs.length ≤ c ∧ w.heap[g]? = some (.cells cs 3 fr) ∧ ∀ (j : Nat) (u : Value), (iv zs)[j]? = some u → cs[j]? = some u)
def LisFrom (B : Nat) (w : World) (v : Value) (zs : List Int) : Prop :=
 (zs = [] ∧ v = .slice none 0 0) ∨ (0 < zs.length ∧ ∃ (g c : Nat) (cs : Array Value) (fr : Nat × Nat), B ≤ g ∧ v = .slice (some ⟨g, 0, none⟩) zs.length c ∧ zs.length ≤ c ∧ w.heap[g]? = some (.cells cs 3 fr) ∧ ∀ (j : Nat) (u : Value), (iv zs)[j]? = some u → cs[j]? = some u)
theorem LisFrom.at_ {B : Nat} {w : World} {v : Value} {zs : List Int} : LisFrom B w v zs → LisAt w v zs
 | .inl h => .inl h
 | .inr ⟨h0, g, c, cs, fr, _, h⟩ => .inr ⟨h0, g, c, cs, fr, h⟩
theorem SegAt.later {w w' : World} {v : Value} {zs : List Int} (h : SegAt w v zs) (hb : Below w.heap.size w w') : SegAt w' v zs := by
 obtain ⟨a, cap, rfl, h2⟩ := h
 refine ⟨a, cap, rfl, fun h0 => ?_⟩
 obtain ⟨ad, rfl, hc⟩ := h2 h0
 exact ⟨ad, rfl, fun j u hu => (hb.cell (p := ad.add j) (World.block_lt_of_cell? w _ (hc j u hu))).trans (hc j u hu)⟩
theorem LisAt.nil (w : World) : LisAt w (.slice none 0 0) [] := .inl ⟨rfl, rfl⟩
theorem LisAt.kept {w w' : World} {v : Value} {zs : List Int} {row : Option Nat} (h : LisAt w v zs) (hg : w.grownBy w' row) (hT : ∀ X, row = some X → ∃ cs T fr, w.heap[X]? = some (.cells cs T fr) ∧ T ≠ 3) : LisAt w' v zs := by
 rcases h with h | ⟨h0, g, c, cs, fr, h1, h2, h3, h4⟩
 ·exact .inl h
 ·refine .inr ⟨h0, g, c, cs, fr, h1, h2, ?_, h4⟩
  refine (hg.block g (Array.getElem?_eq_some_iff.1 h3).1 ?_).trans h3
  intro e
  obtain ⟨cs', T, fr', hX, hne⟩ := hT g e.symm
  rw [h3] at hX
  simp only [Option.some.injEq, Obj.cells.injEq] at hX
  exact hne hX.2.1.symm
theorem add_at (g o j : Nat) : (⟨g, o, none⟩ : Addr).add j = ⟨g, o + j, none⟩ := by
 unfold Addr.add; split <;> simp_all
theorem LisAt.cells {w : World} {v : Value} {zs : List Int} (h : LisAt w v zs) : SegAt w v zs := by
 rcases h with ⟨rfl, rfl⟩ | ⟨h0, g, c, cs, fr, rfl, h2, h3, h4⟩
 ·exact ⟨none, 0, rfl, fun h => absurd h (by simp)⟩
 ·refine ⟨_, c, rfl, fun _ => ⟨_, rfl, fun j u hu => ?_⟩⟩
  rw [add_at, Nat.zero_add]
  exact cell_in h3 (h4 j u hu)
theorem int_size : (Tryz.prog.info? 3).map (·.size) = some 1 := by kernel_rfl
theorem LisAt.later {w w' : World} {v : Value} {zs : List Int} (h : LisAt w v zs) (hb : Below w.heap.size w w') : LisAt w' v zs :=
 h.kept (row := none) ⟨hb.os, hb.tape, hb.output, hb.size, fun k hk _ => hb.block k hk⟩ (fun _ e => by cases e)
theorem LisAt.shape {w : World} {v : Value} {zs : List Int} (h : LisAt w v zs) : ∃ a n, v = .slice a zs.length n ∧ zs.length ≤ n := by
 rcases h with ⟨rfl, rfl⟩ | ⟨_, g, c, _, _, rfl, h, _, _⟩
 ·exact ⟨none, 0, rfl, Nat.le_refl _⟩
 ·exact ⟨_, c, rfl, h⟩
theorem IntsAt.range {w : World} {v : Value} {zs : List Int} (h : IntsAt w v zs) : ∀ n ∈ zs, -9223372036854775808 ≤ n ∧ n ≤ 9223372036854775807 := by
 obtain ⟨_, _, _, _, _, _, _, h, _⟩ := h
 exact h
structure From (n : Nat) (w w' : World) : Prop where
 os : w'.os = w.os
 tape : w'.tape = w.tape
 output : w'.output = w.output
 size : w.heap.size ≤ w'.heap.size
 block : ∀ k, n ≤ k → k < w.heap.size → w'.heap[k]? = w.heap[k]?
theorem From.refl (n : Nat) (w : World) : From n w w := ⟨rfl, rfl, rfl, Nat.le_refl _, fun _ _ _ => rfl⟩
theorem From.trans {n : Nat} {a b c : World} (h : From n a b) (k : From n b c) : From n a c :=
 ⟨k.os.trans h.os, k.tape.trans h.tape, k.output.trans h.output, Nat.le_trans h.size k.size, fun j h1 h2 => (k.block j h1 (Nat.lt_of_lt_of_le h2 h.size)).trans (h.block j h1 h2)⟩
theorem From.below {n : Nat} {a b : World} (h : Below a.heap.size a b) : From n a b := ⟨h.os, h.tape, h.output, h.size, fun j _ h2 => h.block j h2⟩
theorem From.only {n X : Nat} {a b : World} (h : Only X a b) (hX : X < n) : From n a b :=
 ⟨h.by_.os, h.by_.tape, h.by_.output, h.by_.size, fun j h1 h2 => h.by_.block j h2 (by simp; omega)⟩
def PlacesAt (W : World) (s : Nat) (v : Value) (F : Nat → Value) (n : Nat) : Prop := ∃ (a : Option Addr) (cap : Nat), v = .slice a n cap ∧ (0 < n → ∃ ad, a = some ad ∧ ∀ j, j < n * s → W.cell? (ad.add j) = some (F j))
def RunAt (S : Nat → Prop) (W : World) (T : TypeId) (s : Nat) (v : Value) (F : Nat → Value) (n : Nat) : Prop :=
 (n = 0 ∧ v = .slice none 0 0) ∨ (0 < n ∧ ∃ (g c : Nat) (cs : Array Value) (fr : Nat × Nat), v = .slice (some ⟨g, 0, none⟩) n c ∧ n ≤ c ∧ S g ∧ W.heap[g]? = some (.cells cs T fr) ∧ ∀ j, j < n * s → cs[j]? = some (F j))
section
variable {S S' : Nat → Prop} {W W' : World} {T : TypeId} {s n : Nat} {v : Value} {F G : Nat → Value}
theorem RunAt.none (S : Nat → Prop) (W : World) (T : TypeId) (s : Nat) (F : Nat → Value) : RunAt S W T s (.slice .none 0 0) F 0 := .inl ⟨rfl, rfl⟩
theorem RunAt.weak (h : RunAt S W T s v F n) (hs : ∀ g, S g → S' g) : RunAt S' W T s v F n := by
 rcases h with h | ⟨h0, g, c, cs, fr, h1, h2, h3, h4⟩
 ·exact .inl h
 ·exact .inr ⟨h0, g, c, cs, fr, h1, h2, hs g h3, h4⟩
theorem RunAt.old (h : RunAt S W T s v F n) : RunAt (fun g => S g ∧ g < W.heap.size) W T s v F n := by
 rcases h with h | ⟨h0, g, c, cs, fr, h1, h2, h3, h4, h5⟩
 ·exact .inl h
 ·exact .inr ⟨h0, g, c, cs, fr, h1, h2, ⟨h3, (Array.getElem?_eq_some_iff.1 h4).1⟩, h4, h5⟩
theorem RunAt.kept {row : Option Nat} (h : RunAt S W T s v F n) (hg : W.grownBy W' row) (hr : ∀ X, row = some X → ¬ S X) : RunAt S W' T s v F n := by
 rcases h with h | ⟨h0, g, c, cs, fr, h1, h2, h3, h4, h5⟩
 ·exact .inl h
 ·exact .inr ⟨h0, g, c, cs, fr, h1, h2, h3, (hg.block g (Array.getElem?_eq_some_iff.1 h4).1 (fun e => hr g e.symm h3)).trans h4, h5⟩
theorem RunAt.keptT {row : Option Nat} (h : RunAt S W T s v F n) (hg : W.grownBy W' row) (hT : ∀ X, row = some X → ∃ o : Obj, W.heap[X]? = some o ∧ ∀ cs fr, o ≠ .cells cs T fr) : RunAt S W' T s v F n := by
 rcases h with h | ⟨h0, g, c, cs, fr, h1, h2, h3, h4, h5⟩
 ·exact .inl h
 ·refine .inr ⟨h0, g, c, cs, fr, h1, h2, h3, (hg.block g (Array.getElem?_eq_some_iff.1 h4).1 (fun e => ?_)).trans h4, h5⟩
  obtain ⟨o, ho, hne⟩ := hT g e.symm
  rw [h4] at ho
  exact hne _ _ (Option.some.inj ho).symm
theorem RunAt.later (h : RunAt S W T s v F n) (hb : Below W.heap.size W W') : RunAt S W' T s v F n :=
 h.kept (row := .none) ⟨hb.os, hb.tape, hb.output, hb.size, fun k hk _ => hb.block k hk⟩ (fun _ e => by cases e)
theorem RunAt.congr (h : RunAt S W T s v F n) (e : ∀ j, j < n * s → F j = G j) : RunAt S W T s v G n := by
 rcases h with h | ⟨h0, g, c, cs, fr, h1, h2, h3, h4, h5⟩
 ·exact .inl h
 ·exact .inr ⟨h0, g, c, cs, fr, h1, h2, h3, h4, fun j hj => by rw [← e j hj]; exact h5 j hj⟩
theorem RunAt.places (h : RunAt S W T s v F n) : PlacesAt W s v F n := by
 rcases h with ⟨rfl, rfl⟩ | ⟨h0, g, c, cs, fr, rfl, h2, h3, h4, h5⟩
 ·exact ⟨_, 0, rfl, fun h => absurd h (by omega)⟩
 ·refine ⟨_, c, rfl, fun _ => ⟨_, rfl, fun j hj => ?_⟩⟩
  rw [add_at, Nat.zero_add]
  exact cell_in h4 (h5 j hj)
theorem RunAt.shape (h : RunAt S W T s v F n) : ∃ a c, v = .slice a n c ∧ n ≤ c := by
 rcases h with ⟨rfl, rfl⟩ | ⟨_, g, c, _, _, rfl, h, _⟩
 ·exact ⟨_, 0, rfl, Nat.le_refl _⟩
 ·exact ⟨_, c, rfl, h⟩
theorem RunAt.pos (h : RunAt S W T s v F n) (h0 : 0 < n) : ∃ (g c : Nat) (cs : Array Value) (fr : Nat × Nat), v = .slice (some ⟨g, 0, .none⟩) n c ∧ n ≤ c ∧ S g ∧ W.heap[g]? = some (.cells cs T fr) ∧ ∀ j, j < n * s → cs[j]? = some (F j) := by
 rcases h with ⟨rfl, _⟩ | ⟨_, h⟩
 ·omega
 ·exact h
theorem PlacesAt.later (h : PlacesAt W s v F n) (hb : Below W.heap.size W W') : PlacesAt W' s v F n := by
 obtain ⟨a, cap, rfl, h2⟩ := h
 refine ⟨a, cap, rfl, fun h0 => ?_⟩
 obtain ⟨ad, rfl, hc⟩ := h2 h0
 exact ⟨ad, rfl, fun j hj => (hb.cell (p := ad.add j) (World.block_lt_of_cell? W _ (hc j hj))).trans (hc j hj)⟩
theorem PlacesAt.congr (h : PlacesAt W s v F n) (e : ∀ j, j < n * s → F j = G j) : PlacesAt W s v G n := by
 obtain ⟨a, cap, rfl, h2⟩ := h
 refine ⟨a, cap, rfl, fun h0 => ?_⟩
 obtain ⟨ad, rfl, hc⟩ := h2 h0
 exact ⟨ad, rfl, fun j hj => by rw [← e j hj]; exact hc j hj⟩
end
def fi (f : Nat → Int) : Nat → Value := fun j => .int .i64 (f j)
theorem iv_at (zs : List Int) (j : Nat) (h : j < zs.length) : (iv zs)[j]? = some (.int .i64 (zs.getD j 0)) := by
 rw [iv, List.getElem?_map, List.getElem?_eq_getElem h, List.getD_eq_getElem?_getD, List.getElem?_eq_getElem h]; rfl
theorem SegAt.places {W : World} {v : Value} {zs : List Int} (h : SegAt W v zs) : PlacesAt W 1 v (fi fun i => zs.getD i 0) zs.length := by
 obtain ⟨a, cap, rfl, h2⟩ := h
 refine ⟨a, cap, rfl, fun h0 => ?_⟩
 obtain ⟨ad, rfl, hc⟩ := h2 h0
 exact ⟨ad, rfl, fun j hj => hc j _ (iv_at zs j (by omega))⟩
section
variable {P : Program}
theorem wpList_make_s (w : World) {ops : Array Oper} {rest : List Oper} {o : Oper} {a : Act} {Q : Exit → Act → World → Prop} (hg : o.guard = none) (l c : Operand) (t : TypeId) (hop : o.op = Op.makeSlice t l c)
  (e : TypeId) (i : TypeInfo) (z : Value) (s : Nat) (ht : P.underlying t = some (.slice e)) (hi : P.info? e = some i) (hz : i.zero = some z) (hsize : i.size = s)
  (kl kc : IntKind) (n : Nat) (hl : a.eval l = .int kl (n : Int)) (hc : a.eval c = .int kc (n : Int)) (hbytes : i.bytes * n ≤ 281474976710656) (h63 : n ≤ 9223372036854775807)
  (hK : wpList P ops Q rest (a.put o.dst (.slice (some ⟨w.heap.size, 0, none⟩) n n)) (w.alloc (.cells (madeCells z.cells (n * s)) e))) : wpList P ops Q (o :: rest) a w := by
 subst hsize
 refine wpList_plain hg fun K hK' => ?_
 have hrun := run_make (P := P) w t e i z ht hi hz kl kc n n (by omega) (Int.le_refl _) (by
  have h : ((i.bytes * n : Nat) : Int) ≤ 281474976710656 := by omega
  rwa [Int.natCast_mul] at h) (by omega)
 simp only [Int.toNat_natCast] at hrun
 unfold Oper.wp
 simp [execOp, hop, hl, hc, hrun, Result.andThen]
 exact hK' _ _ hK
theorem laid_at (cur : Array Value) (o : Nat) (vs : List Value) (hk : o + vs.length ≤ cur.size) (j : Nat) :
  (cur.toList.take o ++ vs ++ cur.toList.drop (o + vs.length)).toArray[j]? = if o ≤ j ∧ j < o + vs.length then vs[j - o]? else cur[j]? := by
 have hl : (cur.toList.take o).length = o := by simp; omega
 rw [List.getElem?_toArray, List.append_assoc]
 by_cases h1 : j < o
 ·rw [if_neg (by omega), List.getElem?_append_left (by omega), List.getElem?_take_of_lt h1, Array.getElem?_toList]
 ·rw [List.getElem?_append_right (by omega), hl]
  by_cases h2 : j < o + vs.length
  ·rw [if_pos ⟨by omega, h2⟩, List.getElem?_append_left (by omega)]
  ·rw [if_neg (by omega), List.getElem?_append_right (by omega), List.getElem?_drop, Array.getElem?_toList]
   congr 1
   omega
theorem laid_size (cur : Array Value) (o : Nat) (vs : List Value) (hk : o + vs.length ≤ cur.size) : (cur.toList.take o ++ vs ++ cur.toList.drop (o + vs.length)).toArray.size = cur.size := by simp; omega
theorem run_copy_s (w : World) (dT sT ty elem : TypeId) (g dLen dCap s : Nat) (a : Addr) (sLen sCap : Nat) (cur : Array Value) (t : TypeId) (cs : List Value)
  (hu : P.underlying dT = some (.slice elem)) (hs : (P.info? elem).map (·.size) = some s)
  (hg : w.heap[g]? = some (.cells cur t (0, 0))) (hle : sLen ≤ dLen) (hn : cs.length = sLen * s)
  (hsrc : ∀ j v, cs[j]? = some v → w.cell? (a.add j) = some v) (hfit : cs.length ≤ cur.size) (h1 : ∀ v ∈ cs, v.oneCell' = true) :
  (Builtin.copy_ #[dT, sT] ty #[.slice (some ⟨g, 0, none⟩) dLen dCap, .slice (some a) sLen sCap]).run P w =
   .ok (goInt sLen) (w.setRow g (cur.toList.take 0 ++ cs ++ cur.toList.drop (0 + cs.length)).toArray) := by
 have hl := run_loadCells_list (P := P) w a cs hsrc
 have hst := run_storeCells_at P g 0 t cs 0 cur w hg (by simpa using hfit) h1
 have hmin : Nat.min sLen dLen = sLen := Nat.min_eq_left hle
 cases hq : P.info? elem with
 | none => simp [hq] at hs
 | some i =>
  have hi : i.size = s := by simpa [hq] using hs
  rw [hn] at hl
  simp only [Nat.add_zero, Nat.zero_add] at hst ⊢
  simp [Builtin.copy_, run_underlying hu, Builtin.lenOf, Builtin.firstCells, sizeOf, typeInfo, hq, hi, hmin, hl, hst]
theorem run_copy_s0 (w : World) (dT sT ty elem : TypeId) (d sp : Option Addr) (dLen dCap s sCap : Nat) (hu : P.underlying dT = some (.slice elem)) (hs : (P.info? elem).map (·.size) = some s) :
  (Builtin.copy_ #[dT, sT] ty #[.slice d dLen dCap, .slice sp 0 sCap]).run P w = .ok (goInt 0) w := by
 have hmin : Nat.min 0 dLen = 0 := Nat.zero_min _
 cases hq : P.info? elem with
 | none => simp [hq] at hs
 | some i =>
  cases d <;> cases sp <;> simp [Builtin.copy_, run_underlying hu, Builtin.lenOf, Builtin.firstCells, sizeOf, typeInfo, hq, hmin, storeCells, loadCells, loadCellsFrom, Result.andThen]
theorem wpList_copy_s {w : World} {ops : Array Oper} {rest : List Oper} {o : Oper} {a : Act} {Q : Exit → Act → World → Prop} (hgd : o.guard = none) (d x : Operand) (dT sT : TypeId)
  (ho : o.op = .call { callee := .builtin .copy, args := #[d, x], argTypes := #[dT, sT] }) (elem : TypeId) (hu : P.underlying dT = some (.slice elem)) (s : Nat) (hsz : (P.info? elem).map (·.size) = some s)
  (g dLen dCap : Nat) (hd : a.eval d = .slice (some ⟨g, 0, none⟩) dLen dCap) (v : Value) (hv : a.eval x = v) (F : Nat → Value) (n : Nat) (hF : PlacesAt w s v F n) (hle : n ≤ dLen)
  (T : TypeId) (cur : Array Value) (hg : w.heap[g]? = some (.cells cur T (0, 0))) (hfit : n * s ≤ cur.size) (h1 : ∀ j, j < n * s → (F j).oneCell' = true)
  (h : ∀ w' cur', w'.heap[g]? = some (.cells cur' T (0, 0)) → cur'.size = cur.size → (∀ j, cur'[j]? = if j < n * s then some (F j) else cur[j]?) → Only g w w' → wpList P ops Q rest (a.put o.dst (goInt n)) w') : wpList P ops Q (o :: rest) a w := by
 refine wpList_plain hgd fun K hK => ?_
 obtain ⟨ap, cap, rfl, h2⟩ := hF
 by_cases h0 : n = 0
 ·subst h0
  have hrun := run_copy_s0 (P := P) w dT sT o.type elem (some ⟨g, 0, none⟩) ap dLen dCap s cap hu hsz
  unfold Oper.wp
  simp [execOp, ho, resolve, invoke, builtin, hd, hv, hrun, Result.andThen]
  exact hK _ _ (h w cur hg rfl (fun j => by simp) (Only.refl _ _))
 ·obtain ⟨ad, rfl, hc⟩ := h2 (by omega)
  have hlen : ((List.range (n * s)).map F).length = n * s := by simp
  have hrun := run_copy_s (P := P) w dT sT o.type elem g dLen dCap s ad n cap cur T ((List.range (n * s)).map F) hu hsz hg hle hlen (fun j u hu => by
   have hj : j < n * s := by have := (List.getElem?_eq_some_iff.1 hu).1; simpa using this
   rw [List.getElem?_map, List.getElem?_range hj] at hu
   rw [hc j hj]; exact hu) (by rw [hlen]; exact hfit) (fun u hu => by
   obtain ⟨j, hj, rfl⟩ := List.mem_map.1 hu
   exact h1 j (by simpa using hj))
  unfold Oper.wp
  simp [execOp, ho, resolve, invoke, builtin, hd, hv, hrun, Result.andThen]
  refine hK _ _ (h _ _ (by simpa using setRow_heap w g _ (cur.toList.take 0 ++ (List.range (n * s)).map F ++ cur.toList.drop (0 + ((List.range (n * s)).map F).length)).toArray _ _ hg) (by simpa using laid_size cur 0 ((List.range (n * s)).map F) (by rw [hlen]; omega)) (fun j => ?_) (by simpa using only_setRow w g (cur.toList.take 0 ++ (List.range (n * s)).map F ++ cur.toList.drop (0 + ((List.range (n * s)).map F).length)).toArray))
  have := laid_at cur 0 ((List.range (n * s)).map F) (by rw [hlen]; omega) j
  simp only [hlen, Nat.zero_add, Nat.zero_le, true_and, Nat.sub_zero] at this
  by_cases hj : j < n * s
  ·rw [if_pos hj]
   rw [if_pos hj, List.getElem?_map, List.getElem?_range hj] at this
   simpa using this
  ·rw [if_neg hj]
   rw [if_neg hj] at this
   simpa using this
end
theorem made_at (z : Array Value) (n j : Nat) (h : j < n) : (madeCells z n)[j]? = some (z[j % z.size]!) := by simp [madeCells, h]
end Go.Proofs.YtpodmgihlomglaaGreatDoor
