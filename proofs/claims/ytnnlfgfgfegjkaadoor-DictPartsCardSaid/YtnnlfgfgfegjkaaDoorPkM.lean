/- Texts put together: Strs LsG Buf Ref02Walks. -/
import Derived.Test.YtnnlfgfgfegjkaaDoorPkA
import Derived.Test.YtnnlfgfgfegjkaaDoorPkB
import Derived.Test.YtnnlfgfgfegjkaaDoorChecked
import Derived.WalkKit
import Derived.WalkSpells
import Derived.Outline
import Derived.Lib.Hide
import Derived.Lib.FrozenHead2
import Derived.Deep.Draws
import Derived.Laws.OwnMore
import Derived.Test.YtnnlfgfgfegjkaaDoorPkC
import Derived.LoopTactic
import Derived.WalkLawsBesides
import Derived.Handy
import Derived.Deep.QuietTactic
import Derived.BigQuiet

/- Lists of texts that a call owns (Strs), or that are read (CutS). (made of Hm13 by tools/gen09/strs.py) -/
namespace Go.Proofs.YtnnlfgfgfegjkaaDoor
open Go.RowKit Go.Shelf
set_option maxRecDepth 1000000
set_option linter.unusedSimpArgs false

/-- The cells of texts. -/
def enS (k : ByteArray) : List Value := [.string k]
theorem enS_len (k : ByteArray) : (enS k).length = 1 := rfl
theorem enS_one (k : ByteArray) : ∀ u ∈ enS k, u.oneCell' = true := by
  intro u hu
  simp only [enS, List.mem_cons, List.not_mem_nil, or_false] at hu
  subst hu
  rfl
theorem enS_at (ks : List ByteArray) : ∀ (j : Nat), (en enS ks)[j]? = (ks[j]?).map fun k => Value.string k := by
  induction ks with
  | nil => intro j; simp [en]
  | cons q qs ih =>
    intro j
    cases j with
    | zero => simp [en, enS]
    | succ j => simpa [en, enS] using ih j
theorem str_info : (Tryd.prog.info? 9).map (fun i => (i.zero, i.size, i.bytes)) = some (some (.string ⟨#[]⟩), 1, 16) := by kernel_rfl
theorem str_elem (w : World) : (sizeOf (Tryd.prog.elem 37)).run Tryd.prog w = .ok 1 w := by
  have e : Tryd.prog.elem 37 = 9 := by kernel_rfl
  rw [e]
  obtain ⟨i, hi, _, h1, _⟩ := info_parts str_info
  simp [sizeOf, typeInfo, hi, h1]
theorem str_under : Tryd.prog.underlying 37 = some (.slice (Tryd.prog.elem 37)) := by kernel_rfl
/-- v reads as these texts, anywhere. -/
def CutS (S : Nat → Prop) (w : World) (v : Value) (ks : List ByteArray) : Prop := CutAt S w 1 v (en enS ks) ks.length
/-- v is a list of just these texts in a block from B on. -/
def Strs (B : Nat) (v : Value) (ps : List ByteArray) (w : World) : Prop := w.ownsRow B 9 1 v ps.length (en enS ps) ∧ B ≤ w.heap.size
section
variable {B : Nat} {v : Value} {ps : List ByteArray} {w w1 : World}
theorem Strs.nil (h : B ≤ w.heap.size) : Strs B (.slice none 0 0) [] w := ⟨World.ownsRow_nil _ _ _ _, h⟩
theorem Strs.grown {row : Option Nat} (h : Strs B v ps w) (hg : w.grownBy w1 row) (hne : v.ownBlock = none ∨ v.ownBlock ≠ row) : Strs B v ps w1 := ⟨h.1.kept hg hne, Nat.le_trans h.2 hg.size⟩
theorem Strs.later (h : Strs B v ps w) (hb : Below w.heap.size w w1) : Strs B v ps w1 := h.grown (row := none) ⟨hb.os, hb.tape, hb.output, hb.size, fun k hk _ => hb.block k hk⟩ (by cases v.ownBlock <;> simp)
theorem Strs.low {B' : Nat} (h : Strs B v ps w) (hB : B' ≤ B) : Strs B' v ps w := by
  obtain ⟨⟨h1, h2⟩, h3⟩ := h
  refine ⟨⟨h1, ?_⟩, by omega⟩
  rcases h2 with h2 | ⟨g, cap, cur, a1, a2, a3⟩
  · exact .inl h2
  · exact .inr ⟨g, cap, cur, a1, by omega, a3⟩
theorem Strs.len (h : Strs B v ps w) : ∃ a c, v = .slice a ps.length c := by
  obtain ⟨⟨_, h2⟩, _⟩ := h
  rcases h2 with ⟨rfl, h2⟩ | ⟨g, cap, cur, rfl, _⟩
  · exact ⟨none, 0, by rw [h2]⟩
  · exact ⟨_, _, rfl⟩
theorem Strs.cut (h : Strs B v ps w) : CutAt (fun _ => True) w 1 v (en enS ps) ps.length := (ownsRow_cut h.1).weak fun _ _ => trivial
theorem strs_kept {A C : World} {row : Option Nat} (h : Strs B v ps A) (hg : A.grownBy C row) (hr : ∀ r, row = some r → ∃ o : Obj, A.heap[r]? = some o ∧ o.isCells = false) : Strs B v ps C := by
  refine h.grown hg ?_
  cases hv : v.ownBlock with
  | none => exact .inl rfl
  | some k =>
    refine .inr fun e => ?_
    obtain ⟨o, ho, hc⟩ := hr k e.symm
    obtain ⟨⟨_, h2⟩, _⟩ := h
    rcases h2 with ⟨rfl, _⟩ | ⟨g, cap, cur, rfl, _, hb, _⟩
    · cases hv
    · obtain rfl : g = k := by simpa [Value.ownBlock] using hv
      rw [hb] at ho
      cases ho
      cases hc
/-- A variable of another type is not the list's block. -/
theorem strs_not {L : Nat} {cs : Array Value} {T : TypeId} {fr : Nat × Nat} (h : Strs B v ps w) (hb : w.heap[L]? = some (.cells cs T fr)) (hT : T ≠ 9) : v.ownBlock ≠ some L := by
  intro e
  obtain ⟨⟨_, h2⟩, _⟩ := h
  rcases h2 with ⟨rfl, _⟩ | ⟨g, cap, cur, rfl, _, hg, _⟩
  · cases e
  · obtain rfl : g = L := by simpa [Value.ownBlock] using e
    rw [hb] at hg
    cases hg
    exact hT rfl
theorem Strs.only {L : Nat} {cs : Array Value} {T : TypeId} {fr : Nat × Nat} (h : Strs B v ps w) (k : Only L w w1) (hb : w.heap[L]? = some (.cells cs T fr)) (hT : T ≠ 9) : Strs B v ps w1 := h.grown k.by_ (.inr (strs_not h hb hT))
end
section
variable {B : Nat} {v : Value} {ks : List ByteArray} {w w1 : World} {S S' : Nat → Prop}
theorem CutS.later (h : CutS S w v ks) (hb : Below w.heap.size w w1) : CutS S w1 v ks := CutAt.later h hb
theorem CutS.any (h : CutS S w v ks) : CutS (fun _ => True) w v ks := CutAt.weak h fun _ _ => trivial
theorem CutS.shape (h : CutS S w v ks) : ∃ a c, v = .slice a ks.length c ∧ ks.length ≤ c := CutAt.shape h
theorem Strs.cutS (h : Strs B v ks w) : CutS (fun g => B ≤ g) w v ks := ownsRow_cut h.1
theorem CutS.kept {row : Option Nat} (h : CutS S w v ks) (hg : w.grownBy w1 row) (hr : ∀ X, row = some X → ¬ S X) : CutS S w1 v ks := CutAt.kept h hg hr
/-- Its texts lie in their cells. -/
theorem CutS.cell (h : CutS S w v ks) {j : Nat} (hj : j < ks.length) : ∃ g o c, v = .slice (some ⟨g, o, none⟩) ks.length c ∧ S g ∧ w.cell? ⟨g, o + j, none⟩ = some (.string ks[j]) := by
  obtain ⟨g, o, c, h1, _, hS, _, h2⟩ := CutAt.pos h (by omega)
  exact ⟨g, o, c, h1, hS, h2 j _ (by rw [enS_at, List.getElem?_eq_getElem hj]; rfl)⟩
theorem cutS_h (h : CutS S w v ks) {k : Nat} (hk : k ≤ ks.length) : ∃ a c, CutS S w (.slice a k c) (ks.take k) ∧ ∀ w, (Instr.slice 37 v none (some (.int .i64 (k : Int))) none).run Tryd.prog w = .ok (.slice a k c) w := by
  obtain ⟨a, c, h1, h2⟩ := cut_h 37 str_under str_elem h (hi := k) hk
  rw [en_take enS_len] at h1
  refine ⟨a, c, ?_, h2⟩
  show CutAt _ _ _ _ _ _
  rwa [show (ks.take k).length = k by rw [List.length_take]; omega]
theorem cutS_l (h : CutS S w v ks) {k : Nat} (hk : k ≤ ks.length) : ∃ a c, CutS S w (.slice a (ks.length - k) c) (ks.drop k) ∧ ∀ w, (Instr.slice 37 v (some (.int .i64 (k : Int))) none none).run Tryd.prog w = .ok (.slice a (ks.length - k) c) w := by
  obtain ⟨a, c, h1, h2⟩ := cut_l 37 str_under str_elem h (lo := k) hk
  rw [en_drop enS_len] at h1
  refine ⟨a, c, ?_, h2⟩
  show CutAt _ _ _ _ _ _
  rwa [show (ks.drop k).length = ks.length - k by rw [List.length_drop]]
theorem strs_low {n : Nat} (h : Strs n v ks w) : ∀ k, v.ownBlock = some k → n ≤ k := ownsRow_low h.1
end
/-- A list that has just been laid. -/
theorem cutS_new {w : World} {cs : Array Value} {ks : List ByteArray} (hc : cs.toList = en enS ks) {n : Nat} (hn : n = ks.length) : CutS (fun g => w.heap.size ≤ g) (w.alloc (.cells cs 9)) (.slice (some ⟨w.heap.size, 0, none⟩) n n) ks := by
  subst hn
  refine ⟨_, _, rfl, Nat.le_refl _, by rw [en_len enS_len], .inr ⟨_, 0, rfl, Nat.le_refl _, by simp, fun j u hu => ?_⟩⟩
  rw [Nat.zero_add]
  refine cell_in (heap_alloc_last w _) ?_
  rw [← hc] at hu
  rwa [Array.getElem?_toList] at hu
theorem cutS_lit {W : World} {g : Nat} {k : ByteArray} (h : W.heap[g]? = some (.cells #[.string k] 9 (0, 0))) : CutS (fun _ => True) W (.slice (some ⟨g, 0, none⟩) 1 1) [k] :=
  ⟨_, 1, rfl, Nat.le_refl _, rfl, .inr ⟨g, 0, rfl, trivial, (Array.getElem?_eq_some_iff.1 h).1, fun j u hu => by
    rw [Nat.zero_add]
    refine cell_in h ?_
    simpa [en, enS] using hu⟩⟩
/-- 'append(own, list..)': the operation. -/
theorem strs_wp {o : Oper} {a : Act} {K : Act → World → Prop} {Q : Exit → Act → World → Prop} {w : World} (s x : Operand)
    (ho : o.op = .call { callee := .builtin .append, args := #[s, x], argTypes := #[37, 37] })
    {B : Nat} {v vr : Value} {ps rs : List ByteArray} (hs : a.eval s = v) (hb : Strs B v ps w) (hx : a.eval x = vr) {S : Nat → Prop} (hc : CutS S w vr rs) (hlen : ps.length + rs.length ≤ 1000000000000)
    (h : ∀ v' w', Strs B v' (ps ++ rs) w' → w.grownBy w' v.ownBlock → K (a.put o.dst v') w') : o.wp Tryd.prog a w K Q := by
  obtain ⟨i, hi, hz, h1, h2⟩ := info_parts str_info
  obtain ⟨v', w', r1, r2, r3⟩ := run_append_cut (P := Tryd.prog) (w := w) B 37 o.type 9 i (.string ⟨#[]⟩) 16 Tryd.underlying37 hi hz h1 h2 rfl (by decide) hb.1 hc (en_one enS_one _)
    (by unfold maxLen; omega) (by omega) hb.2
  unfold Oper.wp execOp
  simp only [ho, resolve, invoke, builtin, Sem.run_bind, Sem.run_pure, Result.andThen_ok, List.map_toArray, List.map_cons, List.map_nil, hs, hx, r1]
  exact h v' w' ⟨by rw [List.length_append, en_app]; exact r2, Nat.le_trans hb.2 r3.size⟩ r3
theorem strs_list {ops : Array Oper} {rest : List Oper} {o : Oper} {a : Act} {Q : Exit → Act → World → Prop} {w : World} (hgd : o.guard = none) (s x : Operand)
    (ho : o.op = .call { callee := .builtin .append, args := #[s, x], argTypes := #[37, 37] })
    {B : Nat} {v vr : Value} {ps rs : List ByteArray} (hs : a.eval s = v) (hb : Strs B v ps w) (hx : a.eval x = vr) {S : Nat → Prop} (hc : CutS S w vr rs) (hlen : ps.length + rs.length ≤ 1000000000000)
    (h : ∀ v' w', Strs B v' (ps ++ rs) w' → w.grownBy w' v.ownBlock → wpList Tryd.prog ops Q rest (a.put o.dst v') w') : wpList Tryd.prog ops Q (o :: rest) a w :=
  wpList_plain hgd fun _ hK => strs_wp s x ho hs hb hx hc hlen fun v' w' h1 h2 => hK _ _ (h v' w' h1 h2)
theorem strs_if {ops : Array Oper} {rest : List Oper} {o : Oper} {a : Act} {Q : Exit → Act → World → Prop} {w : World} (hwd : Region.wanted o (yielded ops a.tmps) = true) (s x : Operand)
    (ho : o.op = .call { callee := .builtin .append, args := #[s, x], argTypes := #[37, 37] })
    {B : Nat} {v vr : Value} {ps rs : List ByteArray} (hs : a.eval s = v) (hb : Strs B v ps w) (hx : a.eval x = vr) {S : Nat → Prop} (hc : CutS S w vr rs) (hlen : ps.length + rs.length ≤ 1000000000000)
    (h : ∀ v' w', Strs B v' (ps ++ rs) w' → w.grownBy w' v.ownBlock → wpList Tryd.prog ops Q rest (a.put o.dst v') w') : wpList Tryd.prog ops Q (o :: rest) a w :=
  wpList_step fun _ hK => by
    rw [if_pos hwd]
    exact strs_wp s x ho hs hb hx hc hlen fun v' w' h1 h2 => hK _ _ (h v' w' h1 h2)
/-- 'make([]string, 0, n)'. -/
theorem strs_make {ops : Array Oper} {rest : List Oper} {o : Oper} {a : Act} {Q : Exit → Act → World → Prop} {w : World} (hgd : o.guard = none) (l c : Operand) (hop : o.op = .makeSlice 37 l c)
    {B : Nat} (kl kc : IntKind) (C : Int) (n : Nat) (hl : a.eval l = .int kl 0) (hc : a.eval c = .int kc C) (hC : C = (n : Int)) (hn : n ≤ 10000000) (hB : B ≤ w.heap.size)
    (h : ∀ w', Strs B (.slice (some ⟨w.heap.size, 0, none⟩) 0 n) [] w' → Below w.heap.size w w' → wpList Tryd.prog ops Q rest (a.put o.dst (.slice (some ⟨w.heap.size, 0, none⟩) 0 n)) w') : wpList Tryd.prog ops Q (o :: rest) a w := by
  obtain ⟨i, hi, hz, h1, h2⟩ := info_parts str_info
  refine wpList_make_own w hgd l c 37 hop B 9 i (.string ⟨#[]⟩) 1 Tryd.underlying37 hi hz h1 kl kc C n hl hc hC (by rw [h2]; omega) (by unfold maxLen; omega) hB fun w' r1 r2 => ?_
  have hb : Below w.heap.size w w' := (Below.refl _ _).grown r2 (Nat.le_refl _) (fun k hk => by cases hk)
  exact h _ ⟨r1, Nat.le_trans hB hb.size⟩ hb
end Go.Proofs.YtnnlfgfgfegjkaaDoor

/- Lists of one cell each (texts, numbers) that are read, at the head of a block; numbers read anywhere; appends and stores in regions that draw their order. -/
namespace Go.Proofs.YtnnlfgfgfegjkaaDoor
open Go.RowKit Go.Shelf
set_option maxRecDepth 1000000
set_option linter.unusedSimpArgs false

/-- v is a list that reads as these: nil, or at the head of a block of the type T. -/
def LsG {α : Type} (T : TypeId) (enc : α → Value) (w : World) (v : Value) (xs : List α) : Prop := ∃ (a : Option Addr) (c : Nat), v = .slice a xs.length c ∧ xs.length ≤ c ∧
  ((a = none ∧ c = 0) ∨ ∃ (g : Nat) (cs : Array Value) (fr : Nat × Nat), a = some ⟨g, 0, none⟩ ∧ w.heap[g]? = some (.cells cs T fr) ∧ ∀ j (h : j < xs.length), cs[j]? = some (enc xs[j]))
/-- Texts, numbers. -/
abbrev LsS (w : World) (v : Value) (ks : List ByteArray) : Prop := LsG 9 Value.string w v ks
abbrev LsI (w : World) (v : Value) (xs : List Int) : Prop := LsG 3 (Value.int .i64) w v xs
section
variable {α : Type} {T : TypeId} {enc : α → Value} {w w' : World} {v : Value} {xs : List α}
theorem LsG.kept {row : Option Nat} (h : LsG T enc w v xs) (hg : w.grownBy w' row) (hT : ∀ X, row = some X → ∀ cs fr, w.heap[X]? ≠ some (.cells cs T fr)) : LsG T enc w' v xs := by
  obtain ⟨a, c, h1, h2, h3⟩ := h
  refine ⟨a, c, h1, h2, h3.imp_right ?_⟩
  rintro ⟨g, cs, fr, h4, h5, h6⟩
  exact ⟨g, cs, fr, h4, (hg.block g (Array.getElem?_eq_some_iff.1 h5).1 (fun e => hT g e.symm cs fr h5)).trans h5, h6⟩
theorem LsG.later (h : LsG T enc w v xs) (hb : Below w.heap.size w w') : LsG T enc w' v xs := h.kept (row := none) ⟨hb.os, hb.tape, hb.output, hb.size, fun k hk _ => hb.block k hk⟩ (fun X e => by cases e)
theorem LsG.but {X : Nat} {cs : Array Value} {U : TypeId} {fr : Nat × Nat} (h : LsG T enc w v xs) (k : Only X w w') (hX : w.heap[X]? = some (.cells cs U fr)) (hT : U ≠ T) : LsG T enc w' v xs := h.kept k.by_ (fun Y e cs' fr' h' => by
  cases e
  rw [hX] at h'
  simp only [Option.some.injEq, Obj.cells.injEq] at h'
  exact hT h'.2.1)
theorem LsG.shape (h : LsG T enc w v xs) : ∃ a c, v = .slice a xs.length c ∧ xs.length ≤ c := by
  obtain ⟨a, c, h1, h2, _⟩ := h
  exact ⟨a, c, h1, h2⟩
theorem LsG.nil (T : TypeId) (enc : α → Value) (w : World) : LsG T enc w (.slice none 0 0) [] := ⟨none, 0, rfl, Nat.le_refl _, .inl ⟨rfl, rfl⟩⟩
theorem LsG.one (h : LsG T enc w v xs) : v.oneCell' = true := by
  obtain ⟨a, c, rfl, _⟩ := h
  rfl
/-- A thing's cell. -/
theorem LsG.cell (h : LsG T enc w v xs) {j : Nat} (hj : j < xs.length) : ∃ g c, v = .slice (some ⟨g, 0, none⟩) xs.length c ∧ w.cell? ⟨g, j, none⟩ = some (enc xs[j]) := by
  obtain ⟨a, c, h1, h2, h3⟩ := h
  rcases h3 with ⟨_, rfl⟩ | ⟨g, cs, fr, rfl, h5, h6⟩
  · omega
  · exact ⟨g, c, h1, cell_in h5 (h6 j hj)⟩
theorem map_at (j : Nat) (u : Value) (hu : (xs.map enc)[j]? = some u) : ∃ h : j < xs.length, u = enc xs[j] := by
  have hj := (List.getElem?_eq_some_iff.1 hu).1
  rw [List.length_map] at hj
  rw [List.getElem?_map, List.getElem?_eq_getElem hj] at hu
  exact ⟨hj, (Option.some.inj hu).symm⟩
theorem LsG.cut (h : LsG T enc w v xs) : CutAt (fun _ => True) w 1 v (xs.map enc) xs.length := by
  obtain ⟨a, c, rfl, h2, h3⟩ := h
  refine ⟨a, c, rfl, h2, by rw [List.length_map, Nat.mul_one], h3.imp_right ?_⟩
  rintro ⟨g, cs', fr, rfl, h5, h6⟩
  refine ⟨g, 0, rfl, trivial, (Array.getElem?_eq_some_iff.1 h5).1, fun j u hu => ?_⟩
  obtain ⟨hj, rfl⟩ := map_at j u hu
  rw [Nat.zero_add]
  exact cell_in h5 (h6 j hj)
theorem LsG.of {B : Nat} (ho : w.ownsRow B T 1 v xs.length (xs.map enc)) : LsG T enc w v xs := by
  obtain ⟨hl, ⟨rfl, h2⟩ | ⟨g, cap, cur, rfl, _, hg, h3, h4, h5, h6⟩⟩ := ho
  · exact ⟨none, 0, by rw [h2], by omega, .inl ⟨rfl, rfl⟩⟩
  · refine ⟨_, cap, rfl, h3, .inr ⟨g, cur, (0, 0), rfl, hg, fun j hj => ?_⟩⟩
    have hu : (xs.map enc)[j]? = some (enc xs[j]) := by rw [List.getElem?_map, List.getElem?_eq_getElem hj]; rfl
    rw [← h6, List.getElem?_take_of_lt (by omega), Array.getElem?_toList] at hu
    exact hu
/-- What is laid as it is written. -/
theorem LsG.lit {cs : Array Value} (hc : cs.toList = xs.map enc) {n : Nat} (hn : n = xs.length) : LsG T enc (w.alloc (.cells cs T)) (.slice (some ⟨w.heap.size, 0, none⟩) n n) xs := by
  subst hn
  refine ⟨_, _, rfl, Nat.le_refl _, .inr ⟨_, _, _, rfl, heap_alloc_last w _, fun j hj => ?_⟩⟩
  rw [← Array.getElem?_toList, hc, List.getElem?_map, List.getElem?_eq_getElem hj]
  rfl
end
theorem enS_map (ks : List ByteArray) : en enS ks = ks.map Value.string := by
  induction ks with
  | nil => rfl
  | cons k ks ih => rw [List.map_cons, ← ih]; rfl
theorem LsG.cutS {w : World} {v : Value} {ks : List ByteArray} (h : LsS w v ks) : CutS (fun _ => True) w v ks := by
  have := LsG.cut h
  rw [← enS_map] at this
  exact this
theorem Strs.lsS {B : Nat} {w : World} {v : Value} {ks : List ByteArray} (h : Strs B v ks w) : LsS w v ks := LsG.of (B := B) (by rw [← enS_map]; exact h.1)
theorem Owns.lsI {B : Nat} {w : World} {v : Value} {xs : List Int} (h : Owns B v xs w) : LsI w v xs := LsG.of (B := B) h.1
/-- v reads as these numbers, anywhere. -/
def CutN (S : Nat → Prop) (w : World) (v : Value) (xs : List Int) : Prop := CutAt S w 1 v (iv xs) xs.length
theorem LsG.cutN {w : World} {v : Value} {xs : List Int} (h : LsI w v xs) : CutN (fun _ => True) w v xs := LsG.cut h
theorem CutN.later {S : Nat → Prop} {w w' : World} {v : Value} {xs : List Int} (h : CutN S w v xs) (hb : Below w.heap.size w w') : CutN S w' v xs := CutAt.later h hb
theorem CutN.kept {S : Nat → Prop} {w w' : World} {v : Value} {xs : List Int} {row : Option Nat} (h : CutN S w v xs) (hg : w.grownBy w' row) (hr : ∀ X, row = some X → ¬ S X) : CutN S w' v xs := CutAt.kept h hg hr
theorem it_elem (w : World) : (sizeOf (Tryd.prog.elem 38)).run Tryd.prog w = .ok 1 w := by
  have e : Tryd.prog.elem 38 = 3 := by kernel_rfl
  rw [e]
  obtain ⟨i, hi, _, h1, _⟩ := info_parts int_info
  simp [sizeOf, typeInfo, hi, h1]
theorem it_under : Tryd.prog.underlying 38 = some (.slice (Tryd.prog.elem 38)) := by kernel_rfl
theorem cutN_h {S : Nat → Prop} {W : World} {v : Value} {l : List Int} (h : CutN S W v l) {k : Nat} (hk : k ≤ l.length) : ∃ a c, CutN S W (.slice a k c) (l.take k) ∧ ∀ w, (Instr.slice 38 v none (some (.int .i64 (k : Int))) none).run Tryd.prog w = .ok (.slice a k c) w := by
  obtain ⟨a, c, h1, h2⟩ := cut_h 38 it_under it_elem h (hi := k) hk
  rw [Nat.mul_one, iv, ← List.map_take] at h1
  refine ⟨a, c, ?_, h2⟩
  show CutAt _ _ _ _ _ _
  rwa [show (l.take k).length = k by rw [List.length_take]; omega]
theorem cutN_l {S : Nat → Prop} {W : World} {v : Value} {l : List Int} (h : CutN S W v l) {k : Nat} (hk : k ≤ l.length) : ∃ a c, CutN S W (.slice a (l.length - k) c) (l.drop k) ∧ ∀ w, (Instr.slice 38 v (some (.int .i64 (k : Int))) none none).run Tryd.prog w = .ok (.slice a (l.length - k) c) w := by
  obtain ⟨a, c, h1, h2⟩ := cut_l 38 it_under it_elem h (lo := k) hk
  rw [Nat.mul_one, iv, ← List.map_drop] at h1
  refine ⟨a, c, ?_, h2⟩
  show CutAt _ _ _ _ _ _
  rwa [show (l.drop k).length = l.length - k by rw [List.length_drop]]
theorem cutN_lit {W : World} {g : Nat} {x : Int} (h : W.heap[g]? = some (.cells #[.int .i64 x] 3 (0, 0))) : CutN (fun _ => True) W (.slice (some ⟨g, 0, none⟩) 1 1) [x] :=
  ⟨_, 1, rfl, Nat.le_refl _, rfl, .inr ⟨g, 0, rfl, trivial, (Array.getElem?_eq_some_iff.1 h).1, fun j u hu => by
    rw [Nat.zero_add]
    refine cell_in h ?_
    simpa [iv] using hu⟩⟩
/-- 'append(own, list..)' of numbers: the operation. -/
theorem ownsN_wp {o : Oper} {a : Act} {K : Act → World → Prop} {Q : Exit → Act → World → Prop} {w : World} (s x : Operand)
    (ho : o.op = .call { callee := .builtin .append, args := #[s, x], argTypes := #[38, 38] })
    {B : Nat} {v vr : Value} {ps rs : List Int} (hs : a.eval s = v) (hb : Owns B v ps w) (hx : a.eval x = vr) {S : Nat → Prop} (hc : CutN S w vr rs) (hlen : ps.length + rs.length ≤ 1000000000000)
    (h : ∀ v' w', Owns B v' (ps ++ rs) w' → w.grownBy w' v.ownBlock → K (a.put o.dst v') w') : o.wp Tryd.prog a w K Q := by
  obtain ⟨i, hi, hz, h1, h2⟩ := info_parts int_info
  obtain ⟨v', w', r1, r2, r3⟩ := run_append_cut (P := Tryd.prog) (w := w) B 38 o.type 3 i (.int .i64 0) 8 Tryd.underlying38 hi hz h1 h2 rfl (by decide) hb.1 hc iv_one
    (by unfold maxLen; omega) (by omega) hb.2
  unfold Oper.wp execOp
  simp only [ho, resolve, invoke, builtin, Sem.run_bind, Sem.run_pure, Result.andThen_ok, List.map_toArray, List.map_cons, List.map_nil, hs, hx, r1]
  exact h v' w' ⟨by rw [List.length_append, iv_app]; exact r2, Nat.le_trans hb.2 r3.size⟩ r3
/-- One cell of a variable is written. -/
theorem st_cell_wp {o : Oper} {a : Act} {w : World} {K : Act → World → Prop} {Q : Exit → Act → World → Prop} (ty : TypeId) (x y : Operand) (ho : o.op = .store ty x y)
    (X k : Nat) (v : Value) (hx : a.eval x = .pointer (some ⟨X, k, none⟩)) (hy : a.eval y = v) (h1 : v.oneCell' = true) (T : TypeId) (c : Array Value) (hB : w.heap[X]? = some (.cells c T (0, 0))) (hk : k < c.size)
    (hi : (Tryd.prog.info? ty).map (·.size) = some 1)
    (h : ∀ w', w'.heap[X]? = some (.cells (c.setIfInBounds k v) T (0, 0)) → Only X w w' → K (a.put o.dst undef) w') : o.wp Tryd.prog a w K Q := by
  unfold Oper.wp execOp
  simp only [ho, hx, hy, Instr.storeAt, Instr.sureAddr, Sem.run_bind, Sem.run_pure, Result.andThen_ok, run_storeVar_cell w X k T ty c v hB hk hi h1]
  exact h _ (setRow_heap w X _ _ _ _ hB) (only_setRow _ _ _)
theorem strs_size : (Tryd.prog.info? 37).map (·.size) = some 1 := by kernel_rfl
theorem ints_size : (Tryd.prog.info? 38).map (·.size) = some 1 := by kernel_rfl
theorem strs_row {B g : Nat} {v : Value} {ks : List ByteArray} {w w' : World} {cs : Array Value} {T : TypeId} {fr : Nat × Nat} (h : Strs B v ks w) (hg : w.grownBy w' v.ownBlock) (hk : w.heap[g]? = some (.cells cs T fr)) (hT : T ≠ 9) : w'.heap[g]? = some (.cells cs T fr) :=
  (hg.block g (Array.getElem?_eq_some_iff.1 hk).1 (fun e => strs_not h hk hT e.symm)).trans hk
theorem owns_row {B g : Nat} {v : Value} {l : List Int} {w w' : World} {cs : Array Value} {T : TypeId} {fr : Nat × Nat} (h : Owns B v l w) (hg : w.grownBy w' v.ownBlock) (hk : w.heap[g]? = some (.cells cs T fr)) (hT : T ≠ 3) : w'.heap[g]? = some (.cells cs T fr) :=
  (hg.block g (Array.getElem?_eq_some_iff.1 hk).1 (fun e => owns_not h hk hT e)).trans hk
/-- Texts and numbers that a call owns lie in blocks of their own. -/
theorem strs_owns {B B' : Nat} {v v' : Value} {ks : List ByteArray} {l : List Int} {w w' : World} (h : Strs B v ks w) (hg : w.grownBy w' v.ownBlock) (h' : Owns B' v' l w) : Owns B' v' l w' := by
  refine h'.grown hg ?_
  cases hv : v'.ownBlock with
  | none => exact .inl rfl
  | some k =>
    refine .inr fun e => ?_
    obtain ⟨⟨_, h2⟩, _⟩ := h'
    rcases h2 with ⟨rfl, _⟩ | ⟨g, cap, cur, rfl, _, hgg, _⟩
    · cases hv
    · obtain rfl : g = k := by simpa [Value.ownBlock] using hv
      exact strs_not h hgg (by decide) e.symm
theorem owns_strs {B B' : Nat} {v v' : Value} {ks : List ByteArray} {l : List Int} {w w' : World} (h : Owns B v l w) (hg : w.grownBy w' v.ownBlock) (h' : Strs B' v' ks w) : Strs B' v' ks w' := by
  refine h'.grown hg ?_
  cases hv : v'.ownBlock with
  | none => exact .inl rfl
  | some k =>
    refine .inr fun e => ?_
    obtain ⟨⟨_, h2⟩, _⟩ := h'
    rcases h2 with ⟨rfl, _⟩ | ⟨g, cap, cur, rfl, _, hgg, _⟩
    · cases hv
    · obtain rfl : g = k := by simpa [Value.ownBlock] using hv
      exact owns_not h hgg (by decide) e
theorem strs_belowB {B B' : Nat} {v : Value} {ks : List ByteArray} {w w' : World} (h : Strs B v ks w) (hg : w.grownBy w' v.ownBlock) (hB : B' ≤ B) : Below B' w w' := (Below.refl _ _).grown hg (Nat.le_trans hB h.2) (fun k e => Nat.le_trans hB (strs_low h k e))
theorem owns_belowB {B B' : Nat} {v : Value} {l : List Int} {w w' : World} (h : Owns B v l w) (hg : w.grownBy w' v.ownBlock) (hB : B' ≤ B) : Below B' w w' := (Below.refl _ _).grown hg (Nat.le_trans hB h.2) (fun k e => Nat.le_trans hB (owns_low h k e.symm))
end Go.Proofs.YtnnlfgfgfegjkaaDoor

/- Lists of bytes that a call owns: what they hold, how they grow, and what text they are. -/
namespace Go.Proofs.YtnnlfgfgfegjkaaDoor
open Go.RowKit

/-- The cells of these bytes. -/
def bv (l : List UInt8) : List Value := l.map fun c => .int .u8 (c.toNat : Int)
theorem bv_len (l : List UInt8) : (bv l).length = l.length := by simp [bv]
theorem bv_app (l r : List UInt8) : bv (l ++ r) = bv l ++ bv r := by simp [bv]
theorem bv_get {l : List UInt8} {j : Nat} {u : Value} (h : (bv l)[j]? = some u) : ∃ c, l[j]? = some c ∧ u = .int .u8 (c.toNat : Int) := by
  unfold bv at h
  rw [List.getElem?_map, Option.map_eq_some_iff] at h
  obtain ⟨c, h1, h2⟩ := h
  exact ⟨c, h1, h2.symm⟩
theorem bv_one {l : List UInt8} : ∀ u ∈ bv l, u.oneCell' = true := by
  intro u hu
  unfold bv at hu
  rw [List.mem_map] at hu
  obtain ⟨c, _, rfl⟩ := hu
  rfl

/-- v is a list of just these bytes, in a block from B on. -/
def Buf (B : Nat) (v : Value) (l : List UInt8) (w : World) : Prop := w.ownsRowF B 5 1 v l.length (bv l) ∧ B ≤ w.heap.size

section
variable {B : Nat} {v : Value} {l : List UInt8} {w w1 : World}
theorem Buf.nil (h : B ≤ w.heap.size) : Buf B (.slice none 0 0) [] w := ⟨World.ownsRowF_nil _ _ _ _, h⟩
theorem Buf.lit (hB : B ≤ w.heap.size) (cs : Array Value) (l : List UInt8) (hc : cs.toList = bv l) (hl4 : l.length ≤ 4096) :
    Buf B (.slice (some ⟨w.heap.size, 0, none⟩) l.length l.length) l (w.alloc (.cells cs 5)) := by
  have hl : l.length ≤ maxLen := by unfold maxLen; omega
  have hs : cs.size = l.length * 1 := by rw [← Array.length_toList, hc, bv_len]; omega
  refine ⟨?_, by simp; omega⟩
  have := World.ownsRowF_of (World.ownsRow_lit (base := B) (e := 5) (size := 1) w cs l.length hB hl hs)
  rwa [hc] at this
theorem Below.newly (w : World) (o : Obj) : Below w.heap.size w (w.alloc o) := (Below.refl _ _).alloc (Nat.le_refl _) o
/-- One call behind the other. -/
theorem Below.after {w w1 w2 : World} (h1 : Below w.heap.size w w1) (h2 : Below w1.heap.size w1 w2) : Below w.heap.size w w2 := h1.trans (h2.mono h1.size)
theorem Buf.drewN (h : Buf B v l w) (n : Nat) : Buf B v l (w.drewN n) := h
theorem Buf.alloc (h : Buf B v l w) (o : Obj) : Buf B v l (w.alloc o) := ⟨h.1.alloc o, by have := h.2; simp; omega⟩
theorem Buf.drew (h : Buf B v l w) : Buf B v l w.drew := h
theorem Buf.low {B' : Nat} (h : Buf B v l w) (hB : B' ≤ B) : Buf B' v l w := by
  obtain ⟨⟨h1, h2⟩, h3⟩ := h
  refine ⟨⟨h1, ?_⟩, by omega⟩
  rcases h2 with h2 | ⟨g, cap, cur, fz, a1, a2, a3⟩
  · exact .inl h2
  · exact .inr ⟨g, cap, cur, fz, a1, by omega, a3⟩
theorem Buf.later (h : Buf B v l w) (hb : Below w.heap.size w w1) : Buf B v l w1 := by
  obtain ⟨⟨h1, h2⟩, h3⟩ := h
  refine ⟨⟨h1, ?_⟩, Nat.le_trans h3 hb.size⟩
  rcases h2 with h2 | ⟨g, cap, cur, fz, a1, a2, a3, a4⟩
  · exact .inl h2
  · have hg : g < w.heap.size := by
      rcases Nat.lt_or_ge g w.heap.size with hlt | hge
      · exact hlt
      · rw [Array.getElem?_eq_none hge] at a3; cases a3
    exact .inr ⟨g, cap, cur, fz, a1, a2, (hb.block g hg).trans a3, a4⟩
/-- What a list yields that is appended: an address, and the bytes behind it. -/
theorem Buf.src (h : Buf B v l w) (hn : l ≠ []) : ∃ ad c, v = .slice (some ad) l.length c ∧ ∀ j u, (bv l)[j]? = some u → w.cell? (ad.add j) = some u := by
  obtain ⟨hr, _⟩ := h
  have hr' := hr
  obtain ⟨h1, h2⟩ := hr
  rcases h2 with ⟨_, h2⟩ | ⟨g, cap, cur, fz, a1, a2, a3, a4⟩
  · exact absurd (List.eq_nil_of_length_eq_zero h2) hn
  · subst a1
    exact ⟨⟨g, 0, none⟩, cap, rfl, hr'.cells rfl⟩
theorem Buf.len (h : Buf B v l w) : ∃ a c, v = .slice a l.length c := by
  obtain ⟨⟨_, h2⟩, _⟩ := h
  rcases h2 with ⟨rfl, h2⟩ | ⟨g, cap, cur, fz, rfl, _⟩
  · exact ⟨none, 0, by rw [h2]⟩
  · exact ⟨_, _, rfl⟩
end

theorem u8_info : (Tryd.prog.info? 5).map (fun i => (i.zero, i.size, i.bytes)) = some (some (.int .u8 0), 1, 1) := by kernel_rfl

/-- The cells of bytes that a statement has just laid. -/
theorem new_cells (w : World) (r : List UInt8) (cs : Array Value) (hcs : cs = (bv r).toArray) : ∀ j u, (bv r)[j]? = some u → (w.alloc (.cells cs 5)).cell? ((⟨w.heap.size, 0, none⟩ : Addr).add j) = some u := by
  subst hcs
  intro j u hu
  have e : (⟨w.heap.size, 0, none⟩ : Addr).add j = ⟨w.heap.size, j, none⟩ := by
    simp [Addr.add]
    intro hj; exact hj.symm
  rw [e]
  simpa using hu
end Go.Proofs.YtnnlfgfgfegjkaaDoor

/- The contracts of the document's own answers for layer 2. -/
namespace Go.Proofs.YtnnlfgfgfegjkaaDoor
open Go.RowKit

/-- Nothing but draws. -/
def Drawn (w w' : World) : Prop := ∃ n, w' = w.drewN n
theorem Drawn.refl (w : World) : Drawn w w := ⟨0, rfl⟩
theorem Drawn.more {w w1 : World} (h : Drawn w w1) (n : Nat) : Drawn w (w1.drewN n) := by
  obtain ⟨k, rfl⟩ := h
  exact ⟨k + n, by rw [World.drewN_drewN]⟩
theorem Drawn.below {w w1 : World} (h : Drawn w w1) : Below w.heap.size w w1 := by
  obtain ⟨n, rfl⟩ := h
  exact ⟨rfl, rfl, rfl, Nat.le_refl _, fun _ _ => rfl⟩
theorem len_bytes (s : ByteArray) : s.data.toList.length = s.size := by simp
theorem take_bytes (s : ByteArray) (k : Nat) (h : k < s.size) : s.data.toList.take (k + 1) = s.data.toList.take k ++ [s[k]] := by
  rw [List.take_succ_eq_append_getElem (by simpa using h)]; rfl
theorem get_bytes (s : ByteArray) (k : Nat) (h : k < s.size) : s.data.toList[k]? = some s[k] := by
  rw [List.getElem?_eq_getElem (by simpa using h)]; rfl
theorem ret_nat {x y : Int} (h : x = y) : Ending.returned (.int .i64 x) = .returned (.int .i64 y) := by rw [h]

set_option maxHeartbeats 1000000 in
theorem ref_Common (a b : ByteArray) (w : World) (ha : a.size ≤ maxLen) : Calls Tryd.prog 73 #[.string a, .string b] w fun e w' => e = .returned (.int .i64 (commonS a.data.toList b.data.toList : Nat)) ∧ Drawn w w' := by
  unfold maxLen at ha
  go_enter Tryd.func73, Tryd.ntmps73
  go_wp2
  go_loopw [5] (fun n wr => ∃ k : Nat, k ≤ a.size ∧ k ≤ b.size ∧ n = .int .i64 k ∧ a.data.toList.take k = b.data.toList.take k ∧ Drawn w wr) (fun n _ => a.size - (intOf n).toNat)
  case atStart => exact ⟨0, Nat.zero_le _, Nat.zero_le _, rfl, rfl, Drawn.refl _⟩
  case round =>
    obtain ⟨k, hka, hkb, rfl, ht, hd⟩ := hrel
    have HT := Lib.hid ht
    have HD := Lib.hid hd
    clear ht hd
    by_cases h1 : k < a.size
    · by_cases h2 : k < b.size
      · have h1' : decide ((k : Int) < (a.size : Int)) = true := by simp; omega
        have h2' : decide ((k : Int) < (b.size : Int)) = true := by simp; omega
        by_cases h3 : a[k] = b[k]
        · have HS : Hid (a.data.toList.take (k + 1) = b.data.toList.take (k + 1)) := by
            show _ = _
            rw [take_bytes a k h1, take_bytes b k h2, HT.out, h3]
          have h4 : ((a[k].toNat : Int) == (b[k].toNat : Int)) = true := by rw [h3]; exact beq_self_eq_true _
          have h5 : (a[k].toNat : Int) = (b[k].toNat : Int) := by rw [h3]
          clear h3
          go_wp2
          go_quiet (fail)
          go_wp2
          go_roundw
          case rel => exact ⟨k + 1, by omega, by omega, by go_num, HS.out, HD.out.more _⟩
          case measure => simp [intOf]; omega
        · have HF : Hid (commonS a.data.toList b.data.toList = k) := by
            refine commonS_of k _ _ HT.out (by rw [len_bytes]; omega) (by rw [len_bytes]; omega) (.inr (.inr ?_))
            rw [get_bytes a k h1, get_bytes b k h2]; simpa using h3
          have h5 : ¬ (a[k].toNat : Int) = (b[k].toNat : Int) := fun e => h3 (UInt8.toNat_inj.1 (by omega))
          have h4 : ((a[k].toNat : Int) == (b[k].toNat : Int)) = false := beq_eq_false_iff_ne.2 h5
          clear h3
          go_wp2
          go_quiet (fail)
          go_wp2
          go_ret
          exact ⟨ret_nat (by rw [HF.out]), HD.out.more _⟩
      · have HF : Hid (commonS a.data.toList b.data.toList = k) :=
          commonS_of k _ _ HT.out (by rw [len_bytes]; omega) (by rw [len_bytes]; omega) (.inr (.inl (by rw [len_bytes]; omega)))
        have h1' : decide ((k : Int) < (a.size : Int)) = true := by simp; omega
        have h2' : decide ((k : Int) < (b.size : Int)) = false := by simp; omega
        go_wp2
        go_quiet (fail)
        go_wp2
        go_ret
        exact ⟨ret_nat (by rw [HF.out]), HD.out.more _⟩
    · have HF : Hid (commonS a.data.toList b.data.toList = k) :=
        commonS_of k _ _ HT.out (by rw [len_bytes]; omega) (by rw [len_bytes]; omega) (.inl (by rw [len_bytes]; omega))
      have h1' : decide ((k : Int) < (a.size : Int)) = false := by simp; omega
      go_wp2
      go_quiet (fail)
      go_wp2
      go_ret
      exact ⟨ret_nat (by rw [HF.out]), HD.out.more _⟩

theorem order_bytes (a b : ByteArray) (k : Nat) (ht : a.data.toList.take k = b.data.toList.take k) (ha : k ≤ a.size) (hb : k ≤ b.size) :
    (k = a.size → k = b.size → orderS a.data.toList b.data.toList = 0) ∧ (k = a.size → ¬ k = b.size → orderS a.data.toList b.data.toList = -1) ∧ (¬ k = a.size → k = b.size → orderS a.data.toList b.data.toList = 1) ∧
    (∀ (h1 : k < a.size) (h2 : k < b.size), ((a[k].toNat : Int) < (b[k].toNat : Int) → orderS a.data.toList b.data.toList = -1) ∧ ((b[k].toNat : Int) < (a[k].toNat : Int) → orderS a.data.toList b.data.toList = 1)) := by
  obtain ⟨h1, h2, h3, h4⟩ := order_of a.data.toList b.data.toList k ht (by rw [len_bytes]; exact ha) (by rw [len_bytes]; exact hb)
  rw [len_bytes, len_bytes] at h1 h2 h3
  refine ⟨h1, h2, h3, fun g1 g2 => ?_⟩
  have := h4 (by rw [len_bytes]; exact g1) (by rw [len_bytes]; exact g2)
  exact ⟨fun h => this.1 (by rw [UInt8.lt_iff_toNat_lt]; show a[k].toNat < b[k].toNat; omega), fun h => this.2 (by rw [UInt8.lt_iff_toNat_lt]; show b[k].toNat < a[k].toNat; omega)⟩

set_option maxHeartbeats 1000000 in
theorem ref_Order (a b : ByteArray) (w : World) (ha : a.size ≤ maxLen) : Calls Tryd.prog 53 #[.string a, .string b] w fun e w' => e = .returned (.int .i64 (orderS a.data.toList b.data.toList)) ∧ Drawn w w' := by
  have HC := Lib.hid (ref_Common a b w ha)
  unfold maxLen at ha
  obtain ⟨k, hk⟩ : ∃ k, commonS a.data.toList b.data.toList = k := ⟨_, rfl⟩
  obtain ⟨h1, h2, h3, h4⟩ := commonS_le a.data.toList b.data.toList
  rw [hk] at h1 h2 h3 h4 HC
  rw [len_bytes] at h1 h2
  clear hk
  obtain ⟨o1, o2, o3, o4⟩ := order_bytes a b k h3 h1 h2
  have H4 : Hid (∀ (g1 : k < a.size) (g2 : k < b.size), (a[k].toNat : Int) < (b[k].toNat : Int) ∨ (b[k].toNat : Int) < (a[k].toNat : Int)) := by
    intro g1 g2
    rcases h4 with h4 | h4 | h4
    · rw [len_bytes] at h4; omega
    · rw [len_bytes] at h4; omega
    · rw [get_bytes a k g1, get_bytes b k g2] at h4
      have : ¬ a[k].toNat = b[k].toNat := fun e => h4 (by rw [UInt8.toNat_inj.1 e])
      omega
  have O1 := Lib.hid o1
  have O2 := Lib.hid o2
  have O3 := Lib.hid o3
  have O4 := Lib.hid o4
  clear o1 o2 o3 o4 h3 h4
  by_cases e1 : k = a.size <;> by_cases e2 : k = b.size
  · have H := Lib.hid (O1.out e1 e2)
    have b1 : ((k : Int) == (a.size : Int)) = true := beq_iff_eq.2 (by omega)
    have b2 : ((k : Int) == (b.size : Int)) = true := beq_iff_eq.2 (by omega)
    have i1 : (k : Int) = (a.size : Int) := by omega
    have i2 : (k : Int) = (b.size : Int) := by omega
    clear e1 e2
    go_enter Tryd.func53, Tryd.ntmps53
    go_wp2_with fail
    refine HC.out.mono ?_
    rintro e w1 ⟨rfl, hd⟩
    have HD := Lib.hid hd; clear hd
    go_wp2_with fail
    go_ret
    exact ⟨by rw [H.out]; rfl, HD.out⟩
  · have H := Lib.hid (O2.out e1 e2)
    have b1 : ((k : Int) == (a.size : Int)) = true := beq_iff_eq.2 (by omega)
    have b2 : ((k : Int) == (b.size : Int)) = false := beq_eq_false_iff_ne.2 (by omega)
    have i1 : (k : Int) = (a.size : Int) := by omega
    have i2 : ¬ (k : Int) = (b.size : Int) := by omega
    clear e1 e2
    go_enter Tryd.func53, Tryd.ntmps53
    go_wp2_with fail
    refine HC.out.mono ?_
    rintro e w1 ⟨rfl, hd⟩
    have HD := Lib.hid hd; clear hd
    go_wp2_with fail
    go_ret
    exact ⟨by rw [H.out]; rfl, HD.out⟩
  · have H := Lib.hid (O3.out e1 e2)
    have b1 : ((k : Int) == (a.size : Int)) = false := beq_eq_false_iff_ne.2 (by omega)
    have b2 : ((k : Int) == (b.size : Int)) = true := beq_iff_eq.2 (by omega)
    have i1 : ¬ (k : Int) = (a.size : Int) := by omega
    have i2 : (k : Int) = (b.size : Int) := by omega
    clear e1 e2
    go_enter Tryd.func53, Tryd.ntmps53
    go_wp2_with fail
    refine HC.out.mono ?_
    rintro e w1 ⟨rfl, hd⟩
    have HD := Lib.hid hd; clear hd
    go_wp2_with fail
    go_ret
    exact ⟨by rw [H.out]; rfl, HD.out⟩
  · have g1 : k < a.size := by omega
    have g2 : k < b.size := by omega
    have b1 : ((k : Int) == (a.size : Int)) = false := beq_eq_false_iff_ne.2 (by omega)
    have b2 : ((k : Int) == (b.size : Int)) = false := beq_eq_false_iff_ne.2 (by omega)
    have i1 : ¬ (k : Int) = (a.size : Int) := by omega
    have i2 : ¬ (k : Int) = (b.size : Int) := by omega
    clear e1 e2
    rcases H4.out g1 g2 with hlt | hlt
    · have H := Lib.hid ((O4.out g1 g2).1 hlt)
      go_enter Tryd.func53, Tryd.ntmps53
      go_wp2_with fail
      refine HC.out.mono ?_
      rintro e w1 ⟨rfl, hd⟩
      have HD := Lib.hid hd; clear hd
      go_wp2_with fail
      go_quiet (fail)
      go_wp2_with fail
      go_ret
      exact ⟨by rw [H.out]; rfl, HD.out.more _⟩
    · have H := Lib.hid ((O4.out g1 g2).2 hlt)
      have hge : ¬ (a[k].toNat : Int) < (b[k].toNat : Int) := by omega
      have hge2 : (b[k].toNat : Int) ≤ (a[k].toNat : Int) := by omega
      go_enter Tryd.func53, Tryd.ntmps53
      go_wp2_with fail
      refine HC.out.mono ?_
      rintro e w1 ⟨rfl, hd⟩
      have HD := Lib.hid hd; clear hd
      go_wp2_with fail
      go_quiet (fail)
      go_wp2_with fail
      go_ret
      exact ⟨by rw [H.out]; rfl, HD.out.more _⟩
end Go.Proofs.YtnnlfgfgfegjkaaDoor
