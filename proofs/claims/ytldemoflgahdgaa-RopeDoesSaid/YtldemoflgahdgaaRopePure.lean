/- Package rope: nodes and ropes, as what they hold. -/
import Derived.Test.YtldemoflgahdgaaRp2
namespace Go.Proofs.Ytldemoflgahdgaa
open Go.RowKit
set_option maxRecDepth 1000000
set_option linter.unusedSimpArgs false

/-- A node: its two lists, what it holds, and how many entries it has. -/
structure Kid where
  a : Value
  b : Value
  l : List Int
  k : Nat
  ha : a.oneCell' = true
  hb : b.oneCell' = true
/-- Its cells, at that height. -/
def kidc (h : Nat) (p : Kid) : List Value := [.int .i64 (p.l.length : Int), .int .i64 ((h + 1 : Nat) : Int), p.a, p.b]
theorem kidc_len (h : Nat) (p : Kid) : (kidc h p).length = 4 := rfl
theorem kidc_one (h : Nat) (p : Kid) : ∀ u ∈ kidc h p, u.oneCell' = true := by
  intro u hu
  simp only [kidc, List.mem_cons, List.not_mem_nil, or_false] at hu
  rcases hu with rfl | rfl | rfl | rfl
  · rfl
  · rfl
  · exact p.ha
  · exact p.hb
def enI (x : Int) : List Value := [.int .i64 x]
theorem enI_len (x : Int) : (enI x).length = 1 := rfl
theorem enI_one (x : Int) : ∀ u ∈ enI x, u.oneCell' = true := by
  intro u hu
  simp only [enI, List.mem_cons, List.not_mem_nil, or_false] at hu
  subst hu; rfl
theorem en_iv (l : List Int) : en enI l = iv l := by
  unfold en iv enI
  induction l with
  | nil => rfl
  | cons x l ih => rw [List.flatMap_cons, ih]; rfl
/-- What these nodes hold. -/
def catK (ks : List Kid) : List Int := ks.flatMap (·.l)
theorem catK_app (xs ys : List Kid) : catK (xs ++ ys) = catK xs ++ catK ys := by simp [catK]
theorem catK_cons (x : Kid) (ys : List Kid) : catK (x :: ys) = x.l ++ catK ys := by simp [catK]
theorem catK_one (x : Kid) : catK [x] = x.l := by simp [catK]

/-- A node of that height: up to 16 things in a leaf, up to 16 kids else, each of 8 entries at least; its lists lie in blocks of the kind S. -/
def NodeR (S : Nat → Prop) (W : World) : Nat → Kid → Prop
  | 0, p => p.a = .slice none 0 0 ∧ p.k = p.l.length ∧ 1 ≤ p.k ∧ p.k ≤ 16 ∧ HeadAt S W 3 1 p.b (iv p.l) p.k
  | h + 1, p => p.b = .slice none 0 0 ∧ 1 ≤ p.k ∧ p.k ≤ 16 ∧ ∃ ks : List Kid, HeadAt S W 33 4 p.a (en (kidc h) ks) p.k ∧ ks.length = p.k ∧ p.l = catK ks ∧ ∀ q ∈ ks, 8 ≤ q.k ∧ NodeR S W h q
section
variable {S S' : Nat → Prop} {W W' : World} {n₀ : Nat}
theorem NodeR.weak (hs : ∀ g, S g → S' g) : ∀ {h : Nat} {p : Kid}, NodeR S W h p → NodeR S' W h p
  | 0, _, ⟨h1, h2, h3, h4, h5⟩ => ⟨h1, h2, h3, h4, h5.weak hs⟩
  | _ + 1, _, ⟨h1, h2, h3, ks, h4, h5, h6, h7⟩ => ⟨h1, h2, h3, ks, h4.weak hs, h5, h6, fun q hq => ⟨(h7 q hq).1, (h7 q hq).2.weak hs⟩⟩
theorem NodeR.old : ∀ {h : Nat} {p : Kid}, NodeR S W h p → NodeR (fun g => S g ∧ g < W.heap.size) W h p
  | 0, _, ⟨h1, h2, h3, h4, h5⟩ => ⟨h1, h2, h3, h4, h5.old⟩
  | _ + 1, _, ⟨h1, h2, h3, ks, h4, h5, h6, h7⟩ => ⟨h1, h2, h3, ks, h4.old, h5, h6, fun q hq => ⟨(h7 q hq).1, (h7 q hq).2.old⟩⟩
theorem NodeR.kept {row : Option Nat} (hg : W.grownBy W' row) (hr : ∀ X, row = some X → ¬ S X) : ∀ {h : Nat} {p : Kid}, NodeR S W h p → NodeR S W' h p
  | 0, _, ⟨h1, h2, h3, h4, h5⟩ => ⟨h1, h2, h3, h4, h5.kept hg hr⟩
  | _ + 1, _, ⟨h1, h2, h3, ks, h4, h5, h6, h7⟩ => ⟨h1, h2, h3, ks, h4.kept hg hr, h5, h6, fun q hq => ⟨(h7 q hq).1, (h7 q hq).2.kept hg hr⟩⟩
theorem NodeR.keptT {row : Option Nat} (hg : W.grownBy W' row) (hT : ∀ X, row = some X → ∃ o : Obj, W.heap[X]? = some o ∧ ∀ cs fr, o ≠ .cells cs 3 fr ∧ o ≠ .cells cs 33 fr) : ∀ {h : Nat} {p : Kid}, NodeR S W h p → NodeR S W' h p
  | 0, _, ⟨h1, h2, h3, h4, h5⟩ => ⟨h1, h2, h3, h4, h5.keptT hg fun X e => by obtain ⟨o, h1, h2⟩ := hT X e; exact ⟨o, h1, fun cs fr => (h2 cs fr).1⟩⟩
  | _ + 1, _, ⟨h1, h2, h3, ks, h4, h5, h6, h7⟩ => ⟨h1, h2, h3, ks, h4.keptT hg fun X e => by obtain ⟨o, h1, h2⟩ := hT X e; exact ⟨o, h1, fun cs fr => (h2 cs fr).2⟩, h5, h6, fun q hq => ⟨(h7 q hq).1, (h7 q hq).2.keptT hg hT⟩⟩
theorem NodeR.later {h : Nat} {p : Kid} (hn : NodeR S W h p) (hb : Below W.heap.size W W') : NodeR S W' h p :=
  hn.kept (row := none) ⟨hb.os, hb.tape, hb.output, hb.size, fun k hk _ => hb.block k hk⟩ (fun _ e => by cases e)
theorem NodeR.low (hb : Below n₀ W W') : ∀ {h : Nat} {p : Kid}, NodeR (fun g => g < n₀) W h p → NodeR (fun g => g < n₀) W' h p
  | 0, _, ⟨h1, h2, h3, h4, h5⟩ => ⟨h1, h2, h3, h4, h5.low hb⟩
  | _ + 1, _, ⟨h1, h2, h3, ks, h4, h5, h6, h7⟩ => ⟨h1, h2, h3, ks, h4.low hb, h5, h6, fun q hq => ⟨(h7 q hq).1, (h7 q hq).2.low hb⟩⟩
theorem NodeR.wid {h : Nat} {p : Kid} (hn : NodeR S W h p) : 1 ≤ p.k ∧ p.k ≤ 16 := by
  cases h with
  | zero => exact ⟨hn.2.2.1, hn.2.2.2.1⟩
  | succ h => exact ⟨hn.2.1, hn.2.2.1⟩
theorem NodeR.shape {h : Nat} {p : Kid} (hn : NodeR S W h p) : (∃ q k c, p.a = .slice q k c) ∧ ∃ q k c, p.b = .slice q k c := by
  cases h with
  | zero => obtain ⟨q, c, e, _⟩ := hn.2.2.2.2.shape; exact ⟨⟨_, _, _, hn.1⟩, _, _, _, e⟩
  | succ h => obtain ⟨h1, _, _, ks, h4, _⟩ := hn; obtain ⟨q, c, e, _⟩ := h4.shape; exact ⟨⟨_, _, _, e⟩, _, _, _, h1⟩
end
theorem cat_lower {c : Nat} : ∀ ks : List Kid, (∀ q ∈ ks, c ≤ q.l.length) → ks.length * c ≤ (catK ks).length
  | [], _ => by simp [catK]
  | q :: ks, h => by
    have h1 := cat_lower ks (fun x hx => h x (List.mem_cons_of_mem _ hx))
    have h2 := h q (List.mem_cons_self ..)
    rw [catK_cons, List.length_append, List.length_cons, Nat.add_mul]
    omega
theorem cat_upper {c : Nat} : ∀ ks : List Kid, (∀ q ∈ ks, q.l.length ≤ c) → (catK ks).length ≤ ks.length * c
  | [], _ => by simp [catK]
  | q :: ks, h => by
    have h1 := cat_upper ks (fun x hx => h x (List.mem_cons_of_mem _ hx))
    have h2 := h q (List.mem_cons_self ..)
    rw [catK_cons, List.length_append, List.length_cons, Nat.add_mul]
    omega
/-- How much a node holds at least, and at most. -/
theorem NodeR.least {S : Nat → Prop} {W : World} : ∀ {h : Nat} {p : Kid}, NodeR S W h p → p.k * 8 ^ h ≤ p.l.length
  | 0, p, hn => by rw [hn.2.1]; simp
  | h + 1, p, ⟨_, _, _, ks, _, h5, h6, h7⟩ => by
    rw [h6, ← h5]
    refine Nat.le_trans ?_ (cat_lower (c := 8 ^ (h + 1)) ks fun q hq => ?_)
    · exact Nat.le_refl _
    · have h1 := NodeR.least (h7 q hq).2
      have h2 : 8 * 8 ^ h ≤ q.k * 8 ^ h := Nat.mul_le_mul_right _ (h7 q hq).1
      rw [Nat.pow_succ]
      omega
theorem NodeR.most {S : Nat → Prop} {W : World} : ∀ {h : Nat} {p : Kid}, NodeR S W h p → p.l.length ≤ p.k * 16 ^ h
  | 0, p, hn => by rw [hn.2.1]; simp
  | h + 1, p, ⟨_, _, _, ks, _, h5, h6, h7⟩ => by
    rw [h6, ← h5]
    refine Nat.le_trans (cat_upper (c := 16 ^ (h + 1)) ks fun q hq => ?_) (Nat.le_refl _)
    have h1 := NodeR.most (h7 q hq).2
    have h2 : q.k * 16 ^ h ≤ 16 * 16 ^ h := Nat.mul_le_mul_right _ (h7 q hq).2.wid.2
    rw [Nat.pow_succ]
    omega
theorem NodeR.high {S : Nat → Prop} {W : World} {h : Nat} {p : Kid} (hn : NodeR S W h p) : h < p.l.length := by
  have h1 := hn.least
  have h2 : h < 8 ^ h := Nat.lt_pow_self (by decide)
  have h3 : 1 * 8 ^ h ≤ p.k * 8 ^ h := Nat.mul_le_mul_right _ hn.wid.1
  omega
theorem NodeR.len0 {S : Nat → Prop} {W : World} {h : Nat} {p : Kid} (hn : NodeR S W h p) : 0 < p.l.length := by have := hn.high; omega

/-- v is a list of these nodes of that height. -/
def NodesR (S : Nat → Prop) (W : World) (h : Nat) (v : Value) (ks : List Kid) : Prop := CutAt S W 4 v (en (kidc h) ks) ks.length ∧ ∀ p ∈ ks, NodeR S W h p
section
variable {S S' : Nat → Prop} {W W' : World} {h : Nat} {v : Value} {ks : List Kid}
theorem NodesR.weak (hn : NodesR S W h v ks) (hs : ∀ g, S g → S' g) : NodesR S' W h v ks := ⟨hn.1.weak hs, fun p hp => (hn.2 p hp).weak hs⟩
theorem NodesR.old (hn : NodesR S W h v ks) : NodesR (fun g => S g ∧ g < W.heap.size) W h v ks := ⟨hn.1.old, fun p hp => (hn.2 p hp).old⟩
theorem NodesR.kept {row : Option Nat} (hn : NodesR S W h v ks) (hg : W.grownBy W' row) (hr : ∀ X, row = some X → ¬ S X) : NodesR S W' h v ks := ⟨hn.1.kept hg hr, fun p hp => (hn.2 p hp).kept hg hr⟩
theorem NodesR.later (hn : NodesR S W h v ks) (hb : Below W.heap.size W W') : NodesR S W' h v ks := ⟨hn.1.later hb, fun p hp => (hn.2 p hp).later hb⟩
end
/-- How N entries are laid into these nodes. -/
def Fit (N : Nat) (ks : List Kid) : Prop := ks.length = cntN N ∧ ∀ p ∈ ks, (2 ≤ ks.length → 8 ≤ p.k) ∧ (ks.length = 1 → p.k = N)
/-- The root of what l is: the zero node, or a node of two entries at least, or a leaf. -/
def zeroR : Array Value := #[.int .i64 0, .int .i64 0, .slice none 0 0, .slice none 0 0]
def RootR (S : Nat → Prop) (W : World) (c : Array Value) (l : List Int) : Prop :=
  (l = [] ∧ c = zeroR) ∨ ∃ h p, c = (kidc h p).toArray ∧ p.l = l ∧ NodeR S W h p ∧ (h = 0 ∨ 2 ≤ p.k)
section
variable {S S' : Nat → Prop} {W W' : World} {c : Array Value} {l : List Int} {n₀ : Nat}
theorem RootR.weak (hn : RootR S W c l) (hs : ∀ g, S g → S' g) : RootR S' W c l := by
  rcases hn with hn | ⟨h, p, h1, h2, h3, h4⟩
  · exact .inl hn
  · exact .inr ⟨h, p, h1, h2, h3.weak hs, h4⟩
theorem RootR.old (hn : RootR S W c l) : RootR (fun g => S g ∧ g < W.heap.size) W c l := by
  rcases hn with hn | ⟨h, p, h1, h2, h3, h4⟩
  · exact .inl hn
  · exact .inr ⟨h, p, h1, h2, h3.old, h4⟩
theorem RootR.kept {row : Option Nat} (hn : RootR S W c l) (hg : W.grownBy W' row) (hr : ∀ X, row = some X → ¬ S X) : RootR S W' c l := by
  rcases hn with hn | ⟨h, p, h1, h2, h3, h4⟩
  · exact .inl hn
  · exact .inr ⟨h, p, h1, h2, h3.kept hg hr, h4⟩
theorem RootR.keptT {row : Option Nat} (hn : RootR S W c l) (hg : W.grownBy W' row) (hT : ∀ X, row = some X → ∃ o : Obj, W.heap[X]? = some o ∧ ∀ cs fr, o ≠ .cells cs 3 fr ∧ o ≠ .cells cs 33 fr) : RootR S W' c l := by
  rcases hn with hn | ⟨h, p, h1, h2, h3, h4⟩
  · exact .inl hn
  · exact .inr ⟨h, p, h1, h2, h3.keptT hg hT, h4⟩
theorem RootR.later (hn : RootR S W c l) (hb : Below W.heap.size W W') : RootR S W' c l := by
  rcases hn with hn | ⟨h, p, h1, h2, h3, h4⟩
  · exact .inl hn
  · exact .inr ⟨h, p, h1, h2, h3.later hb, h4⟩
theorem RootR.low (hn : RootR (fun g => g < n₀) W c l) (hb : Below n₀ W W') : RootR (fun g => g < n₀) W' c l := by
  rcases hn with hn | ⟨h, p, h1, h2, h3, h4⟩
  · exact .inl hn
  · exact .inr ⟨h, p, h1, h2, h3.low hb, h4⟩
theorem RootR.but {X : Nat} {cs : Array Value} {T : TypeId} {fr : Nat × Nat} (hn : RootR S W c l) (k : Only X W W') (hX : W.heap[X]? = some (.cells cs T fr)) (h1 : T ≠ 3) (h2 : T ≠ 33) : RootR S W' c l :=
  hn.keptT k.by_ fun Y e => by
    cases e
    exact ⟨_, hX, fun cs fr => ⟨fun e => (by simp only [Obj.cells.injEq] at e; exact h1 e.2.1), fun e => (by simp only [Obj.cells.injEq] at e; exact h2 e.2.1)⟩⟩
theorem RootR.size (hn : RootR S W c l) : c.size = 4 := by
  rcases hn with ⟨_, rfl⟩ | ⟨h, p, rfl, _⟩ <;> rfl
theorem RootR.one (hn : RootR S W c l) : c.all (·.oneCell') = true := by
  rcases hn with ⟨_, rfl⟩ | ⟨h, p, rfl, _⟩
  · simp [zeroR, Value.oneCell']
  · rw [Array.all_eq_true_iff_forall_mem]
    intro u hu
    exact kidc_one h p u (by simpa using hu)
theorem RootR.n (hn : RootR S W c l) : c[0]? = some (.int .i64 (l.length : Int)) := by
  rcases hn with ⟨rfl, rfl⟩ | ⟨h, p, rfl, rfl, _⟩ <;> rfl
/-- Its four cells. -/
theorem RootR.cells (hn : RootR S W c l) : ∃ (d : Nat) (q1 : Option Addr) (n1 c1 : Nat) (q2 : Option Addr) (n2 c2 : Nat), c = #[.int .i64 (l.length : Int), .int .i64 (d : Int), .slice q1 n1 c1, .slice q2 n2 c2] ∧ d ≤ l.length ∧ (d = 0 ↔ l.length = 0) ∧ (2 ≤ d → 2 * 8 ^ (d - 1) ≤ l.length) ∧ l.length ≤ 16 ^ d := by
  rcases hn with ⟨rfl, rfl⟩ | ⟨h, p, rfl, rfl, h3, h4⟩
  · exact ⟨0, _, _, _, _, _, _, rfl, Nat.le_refl _, Iff.rfl, fun h => absurd h (by omega), by simp⟩
  · obtain ⟨⟨q1, n1, c1, e1⟩, q2, n2, c2, e2⟩ := h3.shape
    have h5 := h3.high
    have h6 := h3.most
    have h7 := h3.wid
    refine ⟨h + 1, q1, n1, c1, q2, n2, c2, by rw [kidc, e1, e2], by omega, by constructor <;> (intro; omega), fun h8 => ?_, ?_⟩
    · have h9 := h3.least
      have : 2 * 8 ^ h ≤ p.k * 8 ^ h := Nat.mul_le_mul_right _ (by rcases h4 with h4 | h4 <;> omega)
      rw [Nat.add_sub_cancel]
      omega
    · have : p.k * 16 ^ h ≤ 16 * 16 ^ h := Nat.mul_le_mul_right _ h7.2
      rw [Nat.pow_succ]
      omega
end
end Go.Proofs.Ytldemoflgahdgaa
