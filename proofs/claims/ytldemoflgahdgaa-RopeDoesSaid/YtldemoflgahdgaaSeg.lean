/- Lists of numbers, wherever they lie: what they read as; lists that nothing else is written into; what is cut of them; what lies from a mark on is as it was. -/
import Derived.Test.YtldemoflgahdgaaInts
import Derived.Test.YtldemoflgahdgaaCells
import Derived.Laws.CopyOwn
import Derived.Deep.OwnRows
import Derived.Deep.Cut
namespace Go.Proofs.Ytldemoflgahdgaa
open Go.RowKit
set_option maxRecDepth 1000000
set_option linter.unusedSimpArgs false

/-- v reads as these numbers, wherever they lie. -/
def SegAt (w : World) (v : Value) (zs : List Int) : Prop := ∃ (a : Option Addr) (cap : Nat), v = .slice a zs.length cap ∧ (0 < zs.length → ∃ ad, a = some ad ∧ ∀ j u, (iv zs)[j]? = some u → w.cell? (ad.add j) = some u)
/-- v is a list of just these numbers that nothing else is written into: nil, if there is none. -/
def LisAt (w : World) (v : Value) (zs : List Int) : Prop :=
  (zs = [] ∧ v = .slice none 0 0) ∨ (0 < zs.length ∧ ∃ (g c : Nat) (cs : Array Value) (fr : Nat × Nat), v = .slice (some ⟨g, 0, none⟩) zs.length c ∧ zs.length ≤ c ∧ w.heap[g]? = some (.cells cs 3 fr) ∧ ∀ (j : Nat) (u : Value), (iv zs)[j]? = some u → cs[j]? = some u)
/-- .. that lies from block B on. -/
def LisFrom (B : Nat) (w : World) (v : Value) (zs : List Int) : Prop :=
  (zs = [] ∧ v = .slice none 0 0) ∨ (0 < zs.length ∧ ∃ (g c : Nat) (cs : Array Value) (fr : Nat × Nat), B ≤ g ∧ v = .slice (some ⟨g, 0, none⟩) zs.length c ∧ zs.length ≤ c ∧ w.heap[g]? = some (.cells cs 3 fr) ∧ ∀ (j : Nat) (u : Value), (iv zs)[j]? = some u → cs[j]? = some u)
theorem LisFrom.at_ {B : Nat} {w : World} {v : Value} {zs : List Int} : LisFrom B w v zs → LisAt w v zs
  | .inl h => .inl h
  | .inr ⟨h0, g, c, cs, fr, _, h⟩ => .inr ⟨h0, g, c, cs, fr, h⟩
theorem SegAt.later {w w' : World} {v : Value} {zs : List Int} (h : SegAt w v zs) (hb : Below w.heap.size w w') : SegAt w' v zs := by
  obtain ⟨a, cap, rfl, h2⟩ := h
  refine ⟨a, cap, rfl, fun h0 => ?_⟩
  obtain ⟨ad, rfl, hc⟩ := h2 h0
  exact ⟨ad, rfl, fun j u hu => (hb.cell (p := ad.add j) (World.block_lt_of_cell? w _ (hc j u hu))).trans (hc j u hu)⟩
theorem LisAt.nil (w : World) : LisAt w (.slice none 0 0) [] := .inl ⟨rfl, rfl⟩
theorem LisAt.kept {w w' : World} {v : Value} {zs : List Int} {row : Option Nat} (h : LisAt w v zs) (hg : w.grownBy w' row) (hT : ∀ X, row = some X → ∃ cs T fr, w.heap[X]? = some (.cells cs T fr) ∧ T ≠ 3) : LisAt w' v zs := by
  rcases h with h | ⟨h0, g, c, cs, fr, h1, h2, h3, h4⟩
  · exact .inl h
  · refine .inr ⟨h0, g, c, cs, fr, h1, h2, ?_, h4⟩
    refine (hg.block g (Array.getElem?_eq_some_iff.1 h3).1 ?_).trans h3
    intro e
    obtain ⟨cs', T, fr', hX, hne⟩ := hT g e.symm
    rw [h3] at hX
    simp only [Option.some.injEq, Obj.cells.injEq] at hX
    exact hne hX.2.1.symm
theorem add_at (g o j : Nat) : (⟨g, o, none⟩ : Addr).add j = ⟨g, o + j, none⟩ := by
  unfold Addr.add; split <;> simp_all
theorem LisAt.cells {w : World} {v : Value} {zs : List Int} (h : LisAt w v zs) : SegAt w v zs := by
  rcases h with ⟨rfl, rfl⟩ | ⟨h0, g, c, cs, fr, rfl, h2, h3, h4⟩
  · exact ⟨none, 0, rfl, fun h => absurd h (by simp)⟩
  · refine ⟨_, c, rfl, fun _ => ⟨_, rfl, fun j u hu => ?_⟩⟩
    rw [add_at, Nat.zero_add]
    exact cell_in h3 (h4 j u hu)
/-- What the first k of these lists have. -/
def catL (ls : List (Value × List Int)) (k : Nat) : List Int := (ls.take k).flatMap (·.2)
theorem cat_succ {ls : List (Value × List Int)} {k : Nat} (hk : k < ls.length) : catL ls (k + 1) = catL ls k ++ ls[k].2 := by
  unfold catL
  rw [List.take_succ_eq_append_getElem hk, List.flatMap_append]
  simp
theorem cat_le {ls : List (Value × List Int)} : ∀ {j : Nat} (k : Nat), k ≤ j → j ≤ ls.length → (catL ls k).length ≤ (catL ls j).length
  | 0, k, hk, _ => by obtain rfl : k = 0 := by omega
                      exact Nat.le_refl _
  | j + 1, k, hk, hj => by
    by_cases e : k = j + 1
    · subst e; exact Nat.le_refl _
    · have := cat_le (ls := ls) (j := j) k (by omega) (by omega)
      rw [cat_succ (by omega), List.length_append]
      omega
/-- The list being filled. -/
def midL (ls : List (Value × List Int)) (k n : Nat) : List Value := iv (catL ls k) ++ List.replicate (n - (catL ls k).length) (.int .i64 0)
theorem mid_len {ls : List (Value × List Int)} {k n : Nat} (h : (catL ls k).length ≤ n) : (midL ls k n).length = n := by
  unfold midL
  rw [List.length_append, iv_len, List.length_replicate]
  omega
theorem mid_succ {ls : List (Value × List Int)} {k n : Nat} (hk : k < ls.length) (h : (catL ls (k + 1)).length ≤ n) : splice (midL ls k n) (catL ls k).length (iv ls[k].2) = midL ls (k + 1) n := by
  have e := cat_succ hk
  have hl : (catL ls (k + 1)).length = (catL ls k).length + ls[k].2.length := by rw [e, List.length_append]
  unfold splice midL
  rw [e, iv_app, List.take_append_of_le_length (by rw [iv_len]; exact Nat.le_refl _), List.take_of_length_le (by rw [iv_len]; exact Nat.le_refl _), List.append_assoc]
  congr 2
  rw [iv_len, List.drop_append, List.drop_of_length_le (by rw [iv_len]; omega), List.nil_append, List.drop_replicate, iv_len, List.length_append]
  congr 1
  omega
theorem wr64 {x : Int} (h0 : -9223372036854775808 ≤ x) (h1 : x ≤ 9223372036854775807) : wrap64 x = x := by unfold wrap64; omega
theorem int_size : (Try.prog.info? 3).map (·.size) = some 1 := by kernel_rfl
theorem LisAt.later {w w' : World} {v : Value} {zs : List Int} (h : LisAt w v zs) (hb : Below w.heap.size w w') : LisAt w' v zs :=
  h.kept (row := none) ⟨hb.os, hb.tape, hb.output, hb.size, fun k hk _ => hb.block k hk⟩ (fun _ e => by cases e)
theorem LisAt.shape {w : World} {v : Value} {zs : List Int} (h : LisAt w v zs) : ∃ a n, v = .slice a zs.length n ∧ zs.length ≤ n := by
  rcases h with ⟨rfl, rfl⟩ | ⟨_, g, c, _, _, rfl, h, _, _⟩
  · exact ⟨none, 0, rfl, Nat.le_refl _⟩
  · exact ⟨_, c, rfl, h⟩
/-- 'list[:lo]' and 'list[hi:]'. -/
theorem sp_cuts {W : World} {v : Value} {l : List Int} (h : LisAt W v l) (lo hi : Nat) (hlo : lo ≤ l.length) (hhi : hi ≤ l.length) : ∃ a1 n1 c1 a3 n3 c3, SegAt W (.slice a1 n1 c1) (l.take lo) ∧ SegAt W (.slice a3 n3 c3) (l.drop hi) ∧
    (∀ w, (Instr.slice 31 v none (some (.int .i64 (lo : Int))) none).run Try.prog w = .ok (.slice a1 n1 c1) w) ∧ (∀ w, (Instr.slice 31 v (some (.int .i64 (hi : Int))) none none).run Try.prog w = .ok (.slice a3 n3 c3) w) := by
  have hu : Try.prog.underlying 31 = some (.slice (Try.prog.elem 31)) := by kernel_rfl
  have hs : ∀ w, (sizeOf (Try.prog.elem 31)).run Try.prog w = .ok 1 w := fun w => by
    have e : Try.prog.elem 31 = 3 := by kernel_rfl
    rw [e]
    obtain ⟨i, hi, _, h1, _⟩ := info_parts int_info
    simp [sizeOf, typeInfo, hi, h1]
  rcases h with ⟨rfl, rfl⟩ | ⟨h0, g, c, cs, fr, rfl, h2, h3, h4⟩
  · obtain rfl : lo = 0 := by simpa using hlo
    obtain rfl : hi = 0 := by simpa using hhi
    refine ⟨none, 0, 0, none, 0, 0, ⟨none, 0, rfl, fun h => absurd h (by simp)⟩, ⟨none, 0, rfl, fun h => absurd h (by simp)⟩, fun w => ?_, fun w => ?_⟩
    · rw [run_slice_h w _ _ _ _ hu _ _ (by simp) (by simp), hs]; rfl
    · rw [run_slice_l w _ _ _ _ hu _ _ (by simp) (by simp), hs]; rfl
  · refine ⟨some ⟨g, 0, none⟩, lo, c, (if c = hi then some ⟨g, 0, none⟩ else some ⟨g, hi, none⟩), l.length - hi, c - hi, ⟨_, c, by rw [List.length_take, Nat.min_eq_left hlo], fun _ => ⟨_, rfl, fun j u hu => ?_⟩⟩, ⟨_, c - hi, by rw [List.length_drop], fun hp => ?_⟩, fun w => ?_, fun w => ?_⟩
    · rw [add_at, Nat.zero_add]
      refine cell_in h3 (h4 j u ?_)
      rw [iv, List.map_take, List.getElem?_take] at hu
      split at hu
      · exact hu
      · cases hu
    · rw [List.length_drop] at hp
      rw [if_neg (by omega)]
      refine ⟨_, rfl, fun j u hu => ?_⟩
      rw [add_at]
      refine cell_in h3 (h4 (hi + j) u ?_)
      rw [iv, List.map_drop, List.getElem?_drop] at hu
      exact hu
    · rw [run_slice_h w _ _ _ _ hu _ _ (by omega) (by omega), hs]
      simp only [Result.andThen_ok, sliced, Int.toNat_natCast, Nat.sub_zero, Nat.zero_mul, Option.map_some, add_at, Nat.add_zero, ite_self]
    · rw [run_slice_l w _ _ _ _ hu _ _ (by omega) (by omega), hs]
      simp only [Result.andThen_ok, sliced, Int.toNat_natCast, Nat.mul_one, Option.map_some, add_at, Nat.zero_add]
theorem IntsAt.range {w : World} {v : Value} {zs : List Int} (h : IntsAt w v zs) : ∀ n ∈ zs, -9223372036854775808 ≤ n ∧ n ≤ 9223372036854775807 := by
  obtain ⟨_, _, _, _, _, _, _, h, _⟩ := h
  exact h
theorem IntsAt.seg {w : World} {v : Value} {zs : List Int} (h : IntsAt w v zs) : SegAt w v zs := by
  obtain ⟨a, cap, b, o, rfl, h1, h2, _⟩ := h
  refine ⟨a, cap, rfl, fun h0 => ⟨_, h1 h0, fun j u hu => ?_⟩⟩
  rw [iv, List.getElem?_map] at hu
  cases hj : zs[j]? with
  | none => rw [hj] at hu; cases hu
  | some z =>
    rw [hj] at hu
    obtain ⟨hlt, hz⟩ := List.getElem?_eq_some_iff.1 hj
    have := h2 j hlt
    rw [List.getD_eq_getElem?_getD, hj] at this
    rw [add_at, this]
    exact hu
/-- What lies from n on is as it was. -/
structure From (n : Nat) (w w' : World) : Prop where
  os : w'.os = w.os
  tape : w'.tape = w.tape
  output : w'.output = w.output
  size : w.heap.size ≤ w'.heap.size
  block : ∀ k, n ≤ k → k < w.heap.size → w'.heap[k]? = w.heap[k]?
theorem From.refl (n : Nat) (w : World) : From n w w := ⟨rfl, rfl, rfl, Nat.le_refl _, fun _ _ _ => rfl⟩
theorem From.trans {n : Nat} {a b c : World} (h : From n a b) (k : From n b c) : From n a c :=
  ⟨k.os.trans h.os, k.tape.trans h.tape, k.output.trans h.output, Nat.le_trans h.size k.size, fun j h1 h2 => (k.block j h1 (Nat.lt_of_lt_of_le h2 h.size)).trans (h.block j h1 h2)⟩
theorem From.below {n : Nat} {a b : World} (h : Below a.heap.size a b) : From n a b := ⟨h.os, h.tape, h.output, h.size, fun j _ h2 => h.block j h2⟩
theorem From.only {n X : Nat} {a b : World} (h : Only X a b) (hX : X < n) : From n a b :=
  ⟨h.by_.os, h.by_.tape, h.by_.output, h.by_.size, fun j h1 h2 => h.by_.block j h2 (by simp; omega)⟩
theorem LisFrom.from_ {B : Nat} {w w' : World} {v : Value} {zs : List Int} (h : LisFrom B w v zs) (hf : From B w w') : LisAt w' v zs := by
  rcases h with h | ⟨h0, g, c, cs, fr, hB, h1, h2, h3, h4⟩
  · exact .inl h
  · exact .inr ⟨h0, g, c, cs, fr, h1, h2, (hf.block g hB (Array.getElem?_eq_some_iff.1 h3).1).trans h3, h4⟩
end Go.Proofs.Ytldemoflgahdgaa
