/- Layer 9's laws: maps and the document's; what is done; few, does, should, same. (written by tools/gen09/law9a.py) -/
import Derived.Test.YtnnlfgfgfegjkaaDoorHm18
import Derived.Test.YtnnlfgfgfegjkaaDoorRef09B
namespace Go.Proofs.YtnnlfgfgfegjkaaDoor
open Go.RowKit
set_option maxRecDepth 1000000
set_option linter.unusedSimpArgs false

/-- A map of these keys. -/
def ML (w : World) (s : Nat) (n : Int) (L : List Ent) (c : Array Value) : Prop := MapAt (fun _ => True) w s n L c
section
variable {w w' : World} {s : Nat} {n : Int} {L : List Ent} {c : Array Value}
theorem ML.later (h : ML w s n L c) (hb : Below w.heap.size w w') : ML w' s n L c := MapAt.later h hb
theorem ML.but {X : Nat} {cs : Array Value} {T : TypeId} {fr : Nat × Nat} (h : ML w s n L c) (k : Only X w w') (hX : w.heap[X]? = some (.cells cs T fr)) (hT : ¬ (T = 110 ∨ T = 34 ∨ T = 117 ∨ T = 106)) : ML w' s n L c := MapAt.kp h (Kp.onlyT k hX hT)
theorem ML.kept {row : Option Nat} {T : TypeId} (h : ML w s n L c) (hg : w.grownBy w' row) (hX : ∀ X, row = some X → ∃ cs fr, w.heap[X]? = some (.cells cs T fr)) (hT : ¬ (T = 110 ∨ T = 34 ∨ T = 117 ∨ T = 106)) : ML w' s n L c := MapAt.kp h (Kp.grownT hg hX hT)
theorem ML.size (h : ML w s n L c) : c.size = 6 := MapAt.size h
theorem ML.one (h : ML w s n L c) : c.all (·.oneCell') = true := MapAt.one h
theorem MapAt.ml {S : Nat → Prop} (h : MapAt S w s n L c) : ML w s n L c := MapAt.weak h fun _ _ => trivial
end
/-- The two tables that maps lean on. -/
def Tabs (w : World) : Prop := Tab6 w ∧ Tab w
theorem Tabs.later {w w' : World} (h : Tabs w) (hb : Below w.heap.size w w') : Tabs w' := ⟨h.1.below hb, h.2.below hb⟩

/-- What is done: Key, X, Cut. -/
abbrev op9C (o : Op9) : Array Value := #[.string o.1, .int .i64 o.2.1, .bool o.2.2]
def Op9In (W : World) (b o : Nat) (x : Op9) : Prop := W.rangeAt b o (op9C x).toList
theorem Op9In.later {W W' : World} {b o : Nat} {x : Op9} (h : Op9In W b o x) (hb : Below W.heap.size W W') : Op9In W' b o x :=
  fun j v hv => (hb.cell (World.block_lt_of_cell? W _ (h j v hv))).trans (h j v hv)
/-- v is a list that reads as these. -/
def Ops9 (w : World) (v : Value) (l : List Op9) : Prop :=
  ∃ (a : Option Addr) (cap b o : Nat), v = .slice a l.length cap ∧ (0 < l.length → a = some ⟨b, o, none⟩) ∧ (∀ j (h : j < l.length), Op9In w b (o + j * 3) l[j]) ∧ l.length ≤ maxLen
theorem Ops9.later {w w' : World} {v : Value} {l : List Op9} (h : Ops9 w v l) (hb : Below w.heap.size w w') : Ops9 w' v l := by
  obtain ⟨a, cap, b, o, h1, h2, h3, h4⟩ := h
  exact ⟨a, cap, b, o, h1, h2, fun j hj => (h3 j hj).later hb, h4⟩
/-- Are these few operations, of short keys? -/
def few9B (l : List Op9) : Bool := decide ((∀ o ∈ l, o.1.size ≤ 200) ∧ l.length ≤ 120)
theorem few9_ops {l : List Op9} (h : few9B l = true) : (∀ o ∈ l, o.1.size ≤ 200) ∧ l.length ≤ 120 := by
  unfold few9B at h
  simpa using h
end Go.Proofs.YtnnlfgfgfegjkaaDoor
