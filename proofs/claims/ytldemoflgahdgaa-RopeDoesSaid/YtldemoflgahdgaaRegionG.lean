/- Regions that draw their order: a group of operations that come up in any order, by what holds of those that have come up. -/
import Derived.Test.YtldemoflgahdgaaRegionT
import Derived.Test.YtldemoflgahdgaaCells
namespace Go.Proofs.Ytldemoflgahdgaa
open Go.RowKit

section
variable {P : Program} {md : Region.Mode} {ops : Array Oper} {Q : Exit → Act → World → Prop} {S : World → Prop} {U : List Nat}
/-- These have come up, too. -/
def markG (listed : Array Bool) : List Nat → Array Bool
  | [] => listed
  | i :: m => (markG listed m).setIfInBounds i true
theorem markG_size (listed : Array Bool) : ∀ m, (markG listed m).size = listed.size
  | [] => rfl
  | i :: m => by rw [markG, Array.size_setIfInBounds, markG_size listed m]
theorem markG_get (listed : Array Bool) (k : Nat) : ∀ m, k ∉ m → (markG listed m).getD k false = listed.getD k false
  | [], _ => rfl
  | i :: m, h => by
    rw [List.mem_cons, not_or] at h
    rw [markG, getD_set_ne false (fun e => h.1 e.symm), markG_get listed k m h.2]
theorem markG_getT (listed : Array Bool) (k : Nat) : ∀ m, k ∉ m → (markG listed m).getD k true = listed.getD k true
  | [], _ => rfl
  | i :: m, h => by
    rw [List.mem_cons, not_or] at h
    rw [markG, getD_set_ne true (fun e => h.1 e.symm), markG_getT listed k m h.2]
theorem markG_in (listed : Array Bool) (k : Nat) : ∀ m, k ∈ m → (markG listed m).getD k true = true
  | i :: m, h => by
    rw [markG]
    by_cases hk : i = k
    · subst hk
      rw [Array.getD_eq_getD_getElem?, Array.getElem?_setIfInBounds_self]
      split <;> rfl
    · rw [getD_set_ne true hk]
      exact markG_in listed k m ((List.mem_cons.1 h).resolve_left fun e => hk e.symm)
theorem markG_congr (listed : Array Bool) {m m' : List Nat} (h : ∀ k, k ∈ m ↔ k ∈ m') : markG listed m = markG listed m' := by
  apply Array.ext
  · rw [markG_size, markG_size]
  · intro k h1 h2
    have e : ∀ (a : Array Bool) (h : k < a.size), a[k] = a.getD k true := fun a h => by simp [h]
    rw [e, e]
    by_cases hk : k ∈ m
    · rw [markG_in listed k m hk, markG_in listed k m' ((h k).1 hk)]
    · rw [markG_getT listed k m hk, markG_getT listed k m' (fun h' => hk ((h k).2 h'))]
def subsG : List Nat → List (List Nat)
  | [] => [[]]
  | x :: xs => subsG xs ++ (subsG xs).map (x :: ·)
theorem filter_subsG (p : Nat → Bool) : ∀ G : List Nat, G.filter p ∈ subsG G
  | [] => by simp [subsG]
  | x :: xs => by
    rw [subsG, List.mem_append, List.mem_map, List.filter_cons]
    by_cases h : p x = true
    · rw [if_pos h]; exact .inr ⟨_, filter_subsG p xs, rfl⟩
    · rw [if_neg h]; exact .inl (filter_subsG p xs)
/-- Operation i waits for operation j. -/
def waitsG (md : Region.Mode) (ops : Array Oper) (i j : Nat) : Bool := match ops[i]? with | some o => o.after.any (fun e => Region.binds md e && e.on == j) | none => false
/-- These have come up with all of the group that they wait for. -/
def closedG (md : Region.Mode) (ops : Array Oper) (G m : List Nat) : Bool := m.all fun i => G.all fun j => !waitsG md ops i j || m.contains j
/-- Till all of the group have come up, one of the group may come up next, and no other operation. -/
def groupOk (md : Region.Mode) (ops : Array Oper) (listed : Array Bool) (G U : List Nat) : Bool :=
  decide G.Nodup && G.all (fun i => !U.contains i && !listed.getD i false) &&
  (subsG G).all fun m => !closedG md ops G m || m.length == G.length || (!(Region.ready md ops (markG listed m)).isEmpty && (Region.ready md ops (markG listed m)).all G.contains)
theorem group_len {G m : List Nat} {i : Nat} (hnd : G.Nodup) (hi : i ∈ G) (hm : i ∉ m) : (G.filter fun k => !(i :: m).contains k).length + 1 = (G.filter fun k => !m.contains k).length := by
  induction G with
  | nil => cases hi
  | cons x xs ih =>
    rw [List.nodup_cons] at hnd
    by_cases hx : x = i
    · subst hx
      have e : (xs.filter fun k => !(x :: m).contains k) = xs.filter fun k => !m.contains k := by
        apply List.filter_congr
        intro k hk
        have : k ≠ x := fun e => hnd.1 (e ▸ hk)
        simp [this]
      rw [List.filter_cons, List.filter_cons, if_neg (by simp), if_pos (by simpa using hm), e, List.length_cons]
    · have hi' := (List.mem_cons.1 hi).resolve_left fun e => hx e.symm
      have := ih hnd.2 hi'
      rw [List.filter_cons, List.filter_cons]
      by_cases hxm : x ∈ m
      · rw [if_neg (by simp [hxm]), if_neg (by simpa using hxm)]; exact this
      · rw [if_pos (by simp [hxm, hx]), if_pos (by simpa using hxm), List.length_cons, List.length_cons]; omega
theorem wpAnyT_group (G : List Nat) (I : List Nat → Act → World → Prop) {n fuel : Nat} {listed : Array Bool} {a : Act} {w : World} (hf : fuel = n + G.length) (hG : groupOk md ops listed G U = true)
    (h0 : I [] a w) (hS : S w)
    (hstep : ∀ (m : List Nat) (i : Nat) (a : Act) (w : World), i ∈ G → i ∉ m → (∀ j, G.contains j = true → waitsG md ops i j = true → j ∈ m) → I m a w → S w → wpOp P ops Q i (fun a' w' => S w' ∧ I (i :: m) a' w') a w)
    (hdone : ∀ (m : List Nat) (a : Act) (w : World), (∀ j, G.contains j = true → j ∈ m) → I m a w → S w → wpAnyT P md ops Q S U n (markG listed G) a w) :
    wpAnyT P md ops Q S U fuel listed a w := by
  unfold groupOk at hG
  rw [Bool.and_eq_true, Bool.and_eq_true, decide_eq_true_iff, List.all_eq_true, List.all_eq_true] at hG
  obtain ⟨⟨hnd, hout⟩, hall⟩ := hG
  have key : ∀ (r : Nat) (m : List Nat) (a : Act) (w : World), (G.filter fun k => !m.contains k).length = r → (∀ k ∈ m, k ∈ G) → (∀ i ∈ m, ∀ j ∈ G, waitsG md ops i j = true → j ∈ m) → I m a w → S w → wpAnyT P md ops Q S U (n + r) (markG listed m) a w := by
    intro r
    induction r with
    | zero =>
      intro m a w hr hsub hcl hI hS
      have hin : ∀ j ∈ G, j ∈ m := fun j hj => by
        have := List.eq_nil_of_length_eq_zero hr
        rw [List.filter_eq_nil_iff] at this
        have := this j hj
        simpa using this
      rw [markG_congr listed (m := m) (m' := G) fun k => ⟨hsub k, hin k⟩]
      exact hdone m a w (fun j hj => hin j (by simpa using hj)) hI hS
    | succ r ih =>
      intro m a w hr hsub hcl hI hS
      have hm' := hall _ (filter_subsG (fun k => m.contains k) G)
      have hne : (G.filter fun k => m.contains k).length ≠ G.length := fun e => by
        have h1 := List.length_filter_eq_length_iff.1 e
        have h2 : (G.filter fun k => !m.contains k) = [] := by
          rw [List.filter_eq_nil_iff]
          intro k hk
          have := h1 k hk
          rw [this]; simp
        rw [h2] at hr
        simp at hr
      have hclF : closedG md ops G (G.filter fun k => m.contains k) = true := by
        unfold closedG
        rw [List.all_eq_true]
        intro i hi
        rw [List.all_eq_true]
        intro j hj
        rw [List.mem_filter] at hi
        cases hwt : waitsG md ops i j with
        | false => rfl
        | true =>
          have := hcl i (by simpa using hi.2) j hj hwt
          simp [hj, this]
      rw [hclF, Bool.or_eq_true, Bool.or_eq_true, beq_iff_eq, Bool.and_eq_true, List.all_eq_true] at hm'
      have hm2 := hm'.resolve_left (fun h => h.elim (fun h => by cases h) hne)
      rw [markG_congr listed (m := G.filter fun k => m.contains k) (m' := m) fun k => ⟨fun h => by simpa using (List.mem_filter.1 h).2, fun h => List.mem_filter.2 ⟨hsub k h, by simpa using h⟩⟩] at hm2
      refine ⟨fun h => (by rw [h] at hm2; simp at hm2), fun i hi => ?_⟩
      have hiG : i ∈ G := by simpa using hm2.2 i hi
      obtain ⟨hun, o, ho, hdep⟩ := mem_ready.1 hi
      have him : i ∉ m := fun h => by rw [markG_in listed i m h] at hun; cases hun
      have hw : ∀ j, G.contains j = true → waitsG md ops i j = true → j ∈ m := fun j hj hwj => by
        unfold waitsG at hwj
        rw [ho] at hwj
        simp only at hwj
        rw [Array.any_eq_true] at hwj
        obtain ⟨k, hk, h2⟩ := hwj
        rw [Bool.and_eq_true, beq_iff_eq] at h2
        have h3 := hdep _ (Array.getElem_mem hk) h2.1
        rw [h2.2] at h3
        refine Classical.byContradiction fun hjm => ?_
        rw [markG_get listed j m hjm] at h3
        have h4 := hout j (by simpa using hj)
        rw [h3] at h4
        simp at h4
      refine wpOp_mono (fun a' w' h => ⟨fun _ => h.1, ih (i :: m) a' w' ?_ ?_ ?_ h.2 h.1⟩) (hstep m i a w hiG him hw hI hS)
      · have := group_len hnd hiG him
        omega
      · intro k hk
        rcases List.mem_cons.1 hk with rfl | hk
        · exact hiG
        · exact hsub k hk
      · intro k hk j hj hwk
        rcases List.mem_cons.1 hk with rfl | hk
        · exact List.mem_cons_of_mem _ (hw j (by simpa using hj) hwk)
        · exact List.mem_cons_of_mem _ (hcl k hk j hj hwk)
  have h := key _ [] a w rfl (fun k hk => by cases hk) (fun k hk => by cases hk) h0 hS
  have e : (G.filter fun k => !([] : List Nat).contains k) = G := by
    rw [List.filter_eq_self]
    intro k _
    simp
  rw [e] at h
  rw [hf]
  exact h
/-- .. where what holds may name the action that the group begins with. -/
theorem wpAnyT_groupA (G : List Nat) (I : Act → List Nat → Act → World → Prop) {n fuel : Nat} {listed : Array Bool} {a : Act} {w : World} (hf : fuel = n + G.length) (hG : groupOk md ops listed G U = true)
    (h0 : I a [] a w) (hS : S w)
    (hstep : ∀ (m : List Nat) (i : Nat) (b : Act) (w : World), i ∈ G → i ∉ m → (∀ j, G.contains j = true → waitsG md ops i j = true → j ∈ m) → I a m b w → S w → wpOp P ops Q i (fun a' w' => S w' ∧ I a (i :: m) a' w') b w)
    (hdone : ∀ (m : List Nat) (b : Act) (w : World), (∀ j, G.contains j = true → j ∈ m) → I a m b w → S w → wpAnyT P md ops Q S U n (markG listed G) b w) :
    wpAnyT P md ops Q S U fuel listed a w := wpAnyT_group G (I a) hf hG h0 hS hstep hdone
/-- The values of a group's operations, one more. -/
def updV (val : Nat → Value) (i : Nat) (v : Value) (k : Nat) : Value := if k = i then v else val k
theorem updV_at (val : Nat → Value) (i : Nat) (v : Value) : updV val i v i = v := if_pos rfl
theorem updV_ne (val : Nat → Value) {i k : Nat} (v : Value) (h : k ≠ i) : updV val i v k = val k := if_neg h
/-- Of the group's operations m have come up: the variables among them are made, and hold z; the others hand back what R says. -/
structure Gr {α : Type} (R : World → Value → α → Prop) (T : TypeId) (z : Array Value) (vars : List Nat) (gots : List (Nat × α)) (Wb V : World) (m : List Nat) (val : Nat → Value) : Prop where
  bel : Below Wb.heap.size Wb V
  made : ∀ i ∈ vars, i ∈ m → ∃ x, val i = .pointer (some ⟨x, 0, none⟩) ∧ Wb.heap.size ≤ x ∧ V.heap[x]? = some (.cells z T (0, 0))
  got : ∀ g ∈ gots, g.1 ∈ m → R V (val g.1) g.2
  apart : ∀ i ∈ vars, ∀ j ∈ vars, i ∈ m → j ∈ m → i ≠ j → val i ≠ val j
section
variable {α : Type} {R : World → Value → α → Prop} {T : TypeId} {z : Array Value} {vars : List Nat} {gots : List (Nat × α)} {Wb V V' : World} {m : List Nat} {val : Nat → Value}
theorem Gr.start (Wb : World) : Gr R T z vars gots Wb Wb [] val := ⟨Below.refl _ _, fun _ _ h => (by cases h), fun _ _ h => (by cases h), fun _ _ _ _ h => (by cases h)⟩
theorem Gr.call (hR : ∀ A B v x, R A v x → Below A.heap.size A B → R B v x) (h : Gr R T z vars gots Wb V m val) (hb : Below V.heap.size V V') {i : Nat} {v : Value} (hi : ∀ j ∈ vars, j ≠ i) (hg : ∀ g ∈ gots, g.1 = i → R V' v g.2) :
    Gr R T z vars gots Wb V' (i :: m) (updV val i v) := by
  refine ⟨h.bel.trans (hb.mono h.bel.size), fun j hj hm => ?_, fun g hgg hm => ?_, fun j hj k hk hjm hkm hne => ?_⟩
  · have hji := hi j hj
    obtain ⟨x, h1, h2, h3⟩ := h.made j hj ((List.mem_cons.1 hm).resolve_left hji)
    exact ⟨x, (updV_ne val v hji).trans h1, h2, (hb.block _ (Array.getElem?_eq_some_iff.1 h3).1).trans h3⟩
  · by_cases e : g.1 = i
    · have h1 := hg g hgg e
      rw [e, updV_at]
      exact h1
    · rw [updV_ne val v e]
      exact hR _ _ _ _ (h.got g hgg ((List.mem_cons.1 hm).resolve_left e)) hb
  · rw [updV_ne val v (hi j hj), updV_ne val v (hi k hk)]
    exact h.apart j hj k hk ((List.mem_cons.1 hjm).resolve_left (hi j hj)) ((List.mem_cons.1 hkm).resolve_left (hi k hk)) hne
theorem Gr.alloc (hR : ∀ A B v x, R A v x → Below A.heap.size A B → R B v x) (h : Gr R T z vars gots Wb V m val) {i : Nat} (hg : ∀ g ∈ gots, g.1 ≠ i) :
    Gr R T z vars gots Wb (V.alloc (.cells z T)) (i :: m) (updV val i (.pointer (some ⟨V.heap.size, 0, none⟩))) := by
  have hb := Below.newly' V (.cells z T)
  have hlt : ∀ j ∈ vars, j ∈ m → val j ≠ .pointer (some ⟨V.heap.size, 0, none⟩) := fun j hj hm e => by
    obtain ⟨x, h1, _, h3⟩ := h.made j hj hm
    rw [h1] at e
    simp only [Value.pointer.injEq, Option.some.injEq, Addr.mk.injEq] at e
    have := (Array.getElem?_eq_some_iff.1 h3).1
    omega
  refine ⟨h.bel.trans (hb.mono h.bel.size), fun j hj hm => ?_, fun g hgg hm => ?_, fun j hj k hk hjm hkm hne => ?_⟩
  · by_cases e : j = i
    · rw [e, updV_at]
      exact ⟨_, rfl, h.bel.size, heap_alloc_last _ _⟩
    · rw [updV_ne val _ e]
      obtain ⟨x, h1, h2, h3⟩ := h.made j hj ((List.mem_cons.1 hm).resolve_left e)
      exact ⟨x, h1, h2, (hb.block _ (Array.getElem?_eq_some_iff.1 h3).1).trans h3⟩
  · rw [updV_ne val _ (hg g hgg)]
    exact hR _ _ _ _ (h.got g hgg ((List.mem_cons.1 hm).resolve_left (hg g hgg))) hb
  · by_cases e : j = i
    · have hk2 : k ≠ i := fun e' => hne (e.trans e'.symm)
      rw [e, updV_at, updV_ne val _ hk2]
      exact (hlt k hk ((List.mem_cons.1 hkm).resolve_left hk2)).symm
    · by_cases e' : k = i
      · rw [e', updV_at, updV_ne val _ e]
        exact hlt j hj ((List.mem_cons.1 hjm).resolve_left e)
      · rw [updV_ne val _ e, updV_ne val _ e']
        exact h.apart j hj k hk ((List.mem_cons.1 hjm).resolve_left e) ((List.mem_cons.1 hkm).resolve_left e') hne
end
/-- A step of a group, as the walk's words want it. -/
theorem group_one {i : Nat} {o : Oper} {I : Act → World → Prop} {a : Act} {w : World} (ho : ops[i]? = some o)
    (h : ∀ K' : Act → World → Prop, Shut (∀ a w, S w → I a w → K' a w) → if Region.wanted o (yielded ops a.tmps) = true then Oper.wp P o a w K' Q else K' (a.put o.dst undef) w) : wpOp P ops Q i (fun a' w' => S w' ∧ I a' w') a w :=
  wpOp_step ho (fun K' hK => h K' (fun a w hS hI => hK a w ⟨hS, hI⟩))
end
end Go.Proofs.Ytldemoflgahdgaa
