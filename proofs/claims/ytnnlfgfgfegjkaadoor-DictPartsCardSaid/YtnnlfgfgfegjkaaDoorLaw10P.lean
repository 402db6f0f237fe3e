/- Layer 10's laws: a list of changes that the law is handed. (written by tools/gen10/at.py) -/
import Derived.Test.YtnnlfgfgfegjkaaDoorLaw10B
namespace Go.Proofs.YtnnlfgfgfegjkaaDoor
open Go.RowKit
set_option maxRecDepth 1000000

def ApIn (W : World) (b o : Nat) (x : Chg) : Prop := W.rangeAt b o (chgC x).toList
theorem ApIn.later {W W' : World} {b o : Nat} {x : Chg} (h : ApIn W b o x) (hb : Below W.heap.size W W') : ApIn W' b o x :=
  fun j v hv => (hb.cell (World.block_lt_of_cell? W _ (h j v hv))).trans (h j v hv)
/-- v is a list that reads as these. -/
def Aps (w : World) (v : Value) (l : List Chg) : Prop :=
  ∃ (a : Option Addr) (cap b o : Nat), v = .slice a l.length cap ∧ (0 < l.length → a = some ⟨b, o, none⟩) ∧ (∀ j (h : j < l.length), ApIn w b (o + j * 5) l[j]) ∧ l.length ≤ maxLen
theorem Aps.later {w w' : World} {v : Value} {l : List Chg} (h : Aps w v l) (hb : Below w.heap.size w w') : Aps w' v l := by
  obtain ⟨a, cap, b, o, h1, h2, h3, h4⟩ := h
  exact ⟨a, cap, b, o, h1, h2, fun j hj => (h3 j hj).later hb, h4⟩
theorem ap_size : (Tryd.prog.info? 72).map (·.size) = some 5 := by kernel_rfl
theorem ld_ap {ops : Array Oper} {rest : List Oper} {o : Oper} {a : Act} {w : World} {Q : Exit → Act → World → Prop} (hwd : Region.wanted o (yielded ops a.tmps) = true) (y : Operand) (ho : o.op = .load 72 y)
    (b k : Nat) (hx : a.eval y = .pointer (some ⟨b, k, none⟩)) (x : Chg) (hR : ApIn w b k x)
    (h : wpList Tryd.prog ops Q rest (a.put o.dst (.agg (chgC x))) w) : wpList Tryd.prog ops Q (o :: rest) a w :=
  wpList_step fun _ hK => by
    rw [if_pos hwd]
    exact wp_load_mid 72 y ho b k hx _ _ hR Tryd.underlying72 rfl ap_size (hK _ _ h)
end Go.Proofs.YtnnlfgfgfegjkaaDoor
