/- Lists of structs, arrays or lists that a call owns. -/
import Derived.Test.YtldemoflgahdgaaCells
import Derived.Great.BuildSlice
namespace Go.Proofs.Ytldemoflgahdgaa
open Go.RowKit
set_option maxRecDepth 1000000

/-- v is a list of just these structs or arrays of s cells each, in a block from B on. -/
def RowsOwn (B : Nat) (e : TypeId) (s : Nat) (v : Value) (cs : List (Array Value)) (w : World) : Prop :=
  w.ownsRowF B e s v cs.length (cs.flatMap Array.toList) ∧ B ≤ w.heap.size ∧ ∀ c ∈ cs, c.size = s
theorem flat_len' (s : Nat) : ∀ cs : List (Array Value), (∀ c ∈ cs, c.size = s) → (cs.flatMap Array.toList).length = cs.length * s
  | [], _ => by simp
  | c :: cs, h => by
    rw [List.flatMap_cons, List.length_append, flat_len' s cs (fun x hx => h x (List.mem_cons_of_mem _ hx)), Array.length_toList, h c (List.mem_cons_self ..), List.length_cons, Nat.add_mul]
    omega
theorem flat_get (s : Nat) : ∀ (cs : List (Array Value)) (i k : Nat) (c : Array Value), (∀ c ∈ cs, c.size = s) → cs[i]? = some c → k < s → (cs.flatMap Array.toList)[i * s + k]? = c[k]?
  | [], _, _, _, _, h, _ => by simp at h
  | a :: cs, 0, k, c, hs, h, hk => by
    simp at h
    subst h
    have := hs a (List.mem_cons_self ..)
    rw [List.flatMap_cons, List.getElem?_append_left (by simp; omega)]
    simp
  | a :: cs, i + 1, k, c, hs, h, hk => by
    have ha := hs a (List.mem_cons_self ..)
    rw [List.flatMap_cons, List.getElem?_append_right (by simp [ha, Nat.add_mul]; omega), Array.length_toList, ha,
      show (i + 1) * s + k - s = i * s + k by rw [Nat.add_mul]; omega]
    exact flat_get s cs i k c (fun x hx => hs x (List.mem_cons_of_mem _ hx)) (by simpa using h) hk
section
variable {B : Nat} {e : TypeId} {s : Nat} {v : Value} {cs : List (Array Value)} {w w' : World}
theorem RowsOwn.grown {row : Option Nat} (h : RowsOwn B e s v cs w) (hg : w.grownBy w' row) (hne : v.ownBlock = none ∨ v.ownBlock ≠ row) : RowsOwn B e s v cs w' :=
  ⟨h.1.kept hg hne, Nat.le_trans h.2.1 hg.size, h.2.2⟩
theorem RowsOwn.later (h : RowsOwn B e s v cs w) (hb : Below w.heap.size w w') : RowsOwn B e s v cs w' := h.grown (row := none) ⟨hb.os, hb.tape, hb.output, hb.size, fun k hk _ => hb.block k hk⟩ (by cases v.ownBlock <;> simp)
/-- Its block. -/
theorem RowsOwn.at_ (h : RowsOwn B e s v cs w) (hn : cs ≠ []) : ∃ g cap cur fz, v = .slice (some ⟨g, 0, none⟩) cs.length cap ∧ v.ownBlock = some g ∧ B ≤ g ∧ w.heap[g]? = some (.cells cur e fz) := by
  obtain ⟨⟨_, h2⟩, _, _⟩ := h
  rcases h2 with ⟨_, h2⟩ | ⟨g, cap, cur, fz, rfl, a2, a3, _⟩
  · exact absurd (List.eq_nil_of_length_eq_zero h2) hn
  · exact ⟨g, cap, cur, fz, rfl, rfl, a2, a3⟩
/-- Another variable is written. -/
theorem RowsOwn.but {X : Nat} (h : RowsOwn B e s v cs w) (hn : cs ≠ []) (k : Only X w w') (hX : X < B) : RowsOwn B e s v cs w' := by
  obtain ⟨g, cap, cur, fz, _, h2, h3, _⟩ := h.at_ hn
  exact h.grown k.by_ (.inr (by rw [h2]; simp; omega))
/-- Another list of another type grows. -/
theorem RowsOwn.apart {e' : TypeId} {s' : Nat} {v' : Value} {cs' : List (Array Value)} (h : RowsOwn B e s v cs w) (hn : cs ≠ []) (h' : RowsOwn B e' s' v' cs' w) (hn' : cs' ≠ []) (hT : e ≠ e') (hg : w.grownBy w' v'.ownBlock) : RowsOwn B e s v cs w' := by
  obtain ⟨g, cap, cur, fz, _, h2, _, h4⟩ := h.at_ hn
  obtain ⟨g', cap', cur', fz', _, h2', _, h4'⟩ := h'.at_ hn'
  refine h.grown hg (.inr ?_)
  rw [h2, h2']
  intro x
  obtain rfl := Option.some.inj x
  rw [h4] at h4'
  simp only [Option.some.injEq, Obj.cells.injEq] at h4'
  exact hT h4'.2.1
/-- What the list holds at i lies there. -/
theorem RowsOwn.read (h : RowsOwn B e s v cs w) {g cap n i : Nat} (hv : v = .slice (some ⟨g, 0, none⟩) n cap) {c : Array Value} (hc : cs[i]? = some c) : w.rangeAt g (i * s) c.toList := by
  obtain ⟨hr, _, hs⟩ := h
  intro j u hu
  have hcs : c.size = s := hs c (List.mem_of_getElem? hc)
  have hj : j < s := by have := (List.getElem?_eq_some_iff.1 hu).1; simp at this; omega
  have h1 := flat_get s cs i j c hs hc hj
  have h2 : (cs.flatMap Array.toList)[i * s + j]? = some u := by rw [h1]; simpa using hu
  have hr' := hr
  rcases hr.2 with ⟨h3, _⟩ | ⟨g', cap', cur, fz, h3, _⟩
  · rw [hv] at h3; cases h3
  · rw [hv] at h3
    simp only [Value.slice.injEq, Option.some.injEq, Addr.mk.injEq] at h3
    obtain ⟨⟨rfl, _, _⟩, rfl, rfl⟩ := h3
    have h4 := hr'.cells (by rw [hv]; rfl) _ u h2
    have e : (⟨g, 0, none⟩ : Addr).add (i * s + j) = ⟨g, i * s + j, none⟩ := by unfold Addr.add; split <;> simp_all
    rw [e] at h4
    exact h4
end
/-- A list of one struct: 'append(x, s)', '[]T{s}'. -/
theorem bs_wp {o : Oper} {a : Act} {w : World} {K : Act → World → Prop} {Q : Exit → Act → World → Prop} (t e : TypeId) (y : Operand) (ho : o.op = .buildSlice t 1 #[(0, y)]) (c : Array Value) (s : Nat) (z : Value)
    (hy : a.eval y = .agg c) (hc : c.size = s) (hs : 0 < s) (hs2 : s ≤ 4096) (hu : Try.prog.underlying t = some (.slice e)) (hi : (Try.prog.info? e).map (fun i => (i.size, i.zero)) = some (s, some z))
    (h : ∀ w', w'.heap[w.heap.size]? = some (.cells c e (0, 0)) → Below w.heap.size w w' → w'.heap.size = w.heap.size + 1 → K (a.put o.dst (.slice (some ⟨w.heap.size, 0, none⟩) 1 1)) w') : o.wp Try.prog a w K Q := by
  cases hq : Try.prog.info? e with
  | none => simp [hq] at hi
  | some i =>
    simp only [hq, Option.map_some, Option.some.injEq, Prod.mk.injEq] at hi
    obtain ⟨r, r1, r2, r3⟩ := Great.fill_dense hs [.agg c] 0 ((Array.range (1 * i.size)).map (z.cells[· % z.cells.size]!)) (fun v hv => by simp at hv; subst hv; exact hc) (by simp [hi.1])
    have e1 : r = c := by
      apply Array.ext_getElem?
      intro k
      rw [r3 k]
      by_cases hk : k < s
      · rw [if_pos ⟨by omega, by simp; omega⟩, Nat.div_eq_of_lt hk, Nat.mod_eq_of_lt hk]
        simp [Value.cells]
      · rw [if_neg (by simp; omega), Array.getElem?_eq_none (by simp [hi.1]; omega), Array.getElem?_eq_none (by omega)]
    subst e1
    refine wp_buildSlice t e 1 _ ho r i z hu hq hi.2 (by rw [hi.1]; omega) (by rw [hi.1]; omega) ?_ ?_
    · rw [← hi.1] at r1
      simpa [hy] using r1
    · refine h _ (heap_alloc_last w _) (Below.newly' _ _) (by simp)
theorem rows_lit {B : Nat} {e : TypeId} {s g : Nat} {c : Array Value} {w : World} (hB : B ≤ g) (hg : w.heap[g]? = some (.cells c e (0, 0))) (hc : c.size = s) : RowsOwn B e s (.slice (some ⟨g, 0, none⟩) 1 1) [c] w := by
  have hlt := (Array.getElem?_eq_some_iff.1 hg).1
  refine ⟨⟨by simp [hc], .inr ⟨g, 1, c, (0, 0), rfl, hB, hg, by simp, Nat.le_refl _, by decide, by omega, ?_⟩⟩, by omega, fun x hx => by simp at hx; subst hx; exact hc⟩
  rw [List.take_of_length_le (by simp; omega)]
  simp
/-- 'append(rows, x)' where the list of x has just been laid: the operation. -/
theorem rows_wp {o : Oper} {a : Act} {K : Act → World → Prop} {Q : Exit → Act → World → Prop} {w : World} (t e : TypeId) (p q : Operand)
    (ho : o.op = .call { callee := .builtin .append, args := #[p, q], argTypes := #[t, t] })
    {B s by_ : Nat} {z v : Value} {cs : List (Array Value)} {c : Array Value} (hs : a.eval p = v) (hb : RowsOwn B e s v cs w) (g : Nat) (hx : a.eval q = .slice (some ⟨g, 0, none⟩) 1 1)
    (hg : w.heap[g]? = some (.cells c e (0, 0))) (hc : c.size = s) (h1 : c.all (·.oneCell') = true) (hu : Try.prog.underlying t = some (.slice e)) (hi : (Try.prog.info? e).map (fun i => (i.zero, i.size, i.bytes)) = some (some z, s, by_))
    (hzs : z.cells.size = s) (hsz : 0 < s) (hlen : cs.length ≤ 100000) (hby : by_ ≤ 1000000)
    (h : ∀ v' w', RowsOwn B e s v' (cs ++ [c]) w' → w.grownBy w' v.ownBlock → K (a.put o.dst v') w') : o.wp Try.prog a w K Q := by
  obtain ⟨i, hi0, hz, h2, h3⟩ := info_parts hi
  have hcell : ∀ j u, c.toList[j]? = some u → w.cell? ((⟨g, 0, none⟩ : Addr).add j) = some u := fun j u hj => by
    have e : (⟨g, 0, none⟩ : Addr).add j = ⟨g, j, none⟩ := by unfold Addr.add; split <;> simp_all
    rw [e]
    exact cell_in hg (by simpa using hj)
  have hbytes : (cs.length + 1) * by_ ≤ 140737488355328 := by
    have : (cs.length + 1) * by_ ≤ 100001 * 1000000 := Nat.mul_le_mul (by omega) hby
    omega
  obtain ⟨v', w', hr, g1, g2, _⟩ := run_append_ownF (P := Try.prog) w B t o.type e i z s by_ hu hi0 hz h2 h3 hzs hsz v cs.length (cs.flatMap Array.toList) hb.1 ⟨g, 0, none⟩ 1 1 c.toList (by simp [hc]) hcell
    (fun u hu => (Array.all_eq_true_iff_forall_mem.1 h1) u (by simpa using hu)) (by unfold maxLen; omega) hbytes hb.2.1
  unfold Oper.wp execOp
  simp only [ho, resolve, invoke, builtin, Sem.run_bind, Sem.run_pure, Result.andThen_ok, List.map_toArray, List.map_cons, List.map_nil, hs, hx, hr]
  refine h v' w' ⟨?_, Nat.le_trans hb.2.1 g2.size, fun x hx => ?_⟩ g2
  · rw [List.length_append, List.flatMap_append]
    simpa using g1
  · rcases List.mem_append.1 hx with hx | hx
    · exact hb.2.2 x hx
    · simp at hx; subst hx; exact hc
section
variable {B : Nat} {e : TypeId} {s : Nat} {v : Value} {cs : List (Array Value)} {w w' : World}
theorem RowsOwn.own (h : RowsOwn B e s v cs w) : v.ownBlock = none ∨ ∃ g cur fz, v.ownBlock = some g ∧ B ≤ g ∧ w.heap[g]? = some (.cells cur e fz) := by
  obtain ⟨⟨_, h2⟩, _, _⟩ := h
  rcases h2 with ⟨rfl, _⟩ | ⟨g, cap, cur, fz, rfl, a2, a3, _⟩
  · exact .inl rfl
  · exact .inr ⟨g, cur, fz, rfl, a2, a3⟩
theorem RowsOwn.keeps (h : RowsOwn B e s v cs w) (hg : w.grownBy w' v.ownBlock) {X : Nat} {o : Obj} (hX : X < B) (ho : w.heap[X]? = some o) : w'.heap[X]? = some o := by
  refine (hg.block X (Array.getElem?_eq_some_iff.1 ho).1 ?_).trans ho
  rcases h.own with h1 | ⟨g, _, _, h1, h2, _⟩
  · rw [h1]; simp
  · rw [h1]; simp; omega
theorem RowsOwn.keepsT (h : RowsOwn B e s v cs w) (hg : w.grownBy w' v.ownBlock) {Y : Nat} {c : Array Value} {T : TypeId} {fr : Nat × Nat} (hT : e ≠ T) (ho : w.heap[Y]? = some (.cells c T fr)) : w'.heap[Y]? = some (.cells c T fr) := by
  refine (hg.block Y (Array.getElem?_eq_some_iff.1 ho).1 ?_).trans ho
  rcases h.own with h1 | ⟨g, _, _, h1, _, h3⟩
  · rw [h1]; simp
  · rw [h1]
    intro x
    obtain rfl := Option.some.inj x
    rw [h3] at ho
    simp only [Option.some.injEq, Obj.cells.injEq] at ho
    exact hT ho.2.1
theorem RowsOwn.typed' (h : RowsOwn B e s v cs w) : ∀ X, v.ownBlock = some X → ∃ cs fr, w.heap[X]? = some (.cells cs e fr) := by
  intro X hX
  rcases h.own with h1 | ⟨g, cur, fz, h1, _, h3⟩
  · rw [h1] at hX; cases hX
  · rw [h1] at hX
    obtain rfl := Option.some.inj hX
    exact ⟨cur, fz, h3⟩
theorem RowsOwn.typed (h : RowsOwn B e s v cs w) (hT : e ≠ 3) : ∀ X, v.ownBlock = some X → ∃ cs T fr, w.heap[X]? = some (.cells cs T fr) ∧ T ≠ 3 := by
  intro X hX
  rcases h.own with h1 | ⟨g, cur, fz, h1, _, h3⟩
  · rw [h1] at hX; cases hX
  · rw [h1] at hX
    obtain rfl := Option.some.inj hX
    exact ⟨cur, e, fz, h3, hT⟩
theorem RowsOwn.below (h : RowsOwn B e s v cs w) (hg : w.grownBy w' v.ownBlock) {X : Nat} (hX : X ≤ B) (hw : X ≤ w.heap.size) : Below X w w' := by
  refine ⟨hg.os, hg.tape, hg.output, hg.size, fun k hk => hg.block k (by omega) ?_⟩
  rcases h.own with h1 | ⟨g, _, _, h1, h2, _⟩
  · rw [h1]; simp
  · rw [h1]; simp; omega
end
/-- A struct that lies within a list is read whole. -/
theorem yieldsIf_arr {ops : Array Oper} {S : World → Prop} {op : Oper} {a : Act} (hw : Region.wanted op (yielded ops a.tmps) = true) (ty : TypeId) (y : Operand) (ho : op.op = .load ty y)
    (b k : Nat) (hx : a.eval y = .pointer (some ⟨b, k, none⟩)) (c : Array Value) (d : TypeDesc) (hS : ∀ w, S w → w.rangeAt b k c.toList) (hu : Try.prog.underlying ty = some d) (hd : d.isRow = true) (hi : (Try.prog.info? ty).map (·.size) = some c.size) : YieldsIf Try.prog ops S op (.agg c) a := by
  have h := yieldsIf_load_mid (P := Try.prog) hw ty y ho b k hx c.toList d hS hu hd (by rw [hi]; simp)
  simpa using h
theorem rangeAt_later {w w' : World} {b o : Nat} {cs : List Value} (h : w.rangeAt b o cs) (hb : Below w.heap.size w w') : w'.rangeAt b o cs := fun j v hv => (hb.cell (World.block_lt_of_cell? w _ (h j v hv))).trans (h j v hv)
/-- .. in a plain region. -/
theorem bs_list {ops : Array Oper} {rest : List Oper} {o : Oper} {a : Act} {w : World} {Q : Exit → Act → World → Prop} (hgd : o.guard = none) (t e : TypeId) (y : Operand) (ho : o.op = .buildSlice t 1 #[(0, y)]) (c : Array Value) (s : Nat) (z : Value)
    (hy : a.eval y = .agg c) (hc : c.size = s) (hs : 0 < s) (hs2 : s ≤ 4096) (hu : Try.prog.underlying t = some (.slice e)) (hi : (Try.prog.info? e).map (fun i => (i.size, i.zero)) = some (s, some z))
    (h : ∀ w', w'.heap[w.heap.size]? = some (.cells c e (0, 0)) → Below w.heap.size w w' → w'.heap.size = w.heap.size + 1 → wpList Try.prog ops Q rest (a.put o.dst (.slice (some ⟨w.heap.size, 0, none⟩) 1 1)) w') : wpList Try.prog ops Q (o :: rest) a w :=
  wpList_plain hgd fun _ hK => bs_wp t e y ho c s z hy hc hs hs2 hu hi fun w' h1 h2 h3 => hK _ _ (h w' h1 h2 h3)
theorem rows_list {ops : Array Oper} {rest : List Oper} {o : Oper} {a : Act} {Q : Exit → Act → World → Prop} {w : World} (hgd : o.guard = none) (t e : TypeId) (p q : Operand)
    (ho : o.op = .call { callee := .builtin .append, args := #[p, q], argTypes := #[t, t] })
    {B s by_ : Nat} {z v : Value} {cs : List (Array Value)} {c : Array Value} (hs : a.eval p = v) (hb : RowsOwn B e s v cs w) (g : Nat) (hx : a.eval q = .slice (some ⟨g, 0, none⟩) 1 1)
    (hg : w.heap[g]? = some (.cells c e (0, 0))) (hc : c.size = s) (h1 : c.all (·.oneCell') = true) (hu : Try.prog.underlying t = some (.slice e)) (hi : (Try.prog.info? e).map (fun i => (i.zero, i.size, i.bytes)) = some (some z, s, by_))
    (hzs : z.cells.size = s) (hsz : 0 < s) (hlen : cs.length ≤ 100000) (hby : by_ ≤ 1000000)
    (h : ∀ v' w', RowsOwn B e s v' (cs ++ [c]) w' → w.grownBy w' v.ownBlock → wpList Try.prog ops Q rest (a.put o.dst v') w') : wpList Try.prog ops Q (o :: rest) a w :=
  wpList_plain hgd fun _ hK => rows_wp t e p q ho hs hb g hx hg hc h1 hu hi hzs hsz hlen hby fun v' w' h1 h2 => hK _ _ (h v' w' h1 h2)
end Go.Proofs.Ytldemoflgahdgaa
