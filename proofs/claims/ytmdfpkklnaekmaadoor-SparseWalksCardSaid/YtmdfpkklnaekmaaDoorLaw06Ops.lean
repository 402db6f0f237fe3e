/- Layer 6's laws: lists of what is done; plain facts on rows that the laws lean on. -/
import Derived.Test.YtmdfpkklnaekmaaDoorLaw06Same
import Derived.Test.YtmdfpkklnaekmaaDoorLaw06Live
namespace Go.Proofs.YtmdfpkklnaekmaaDoor
open Go.RowKit
set_option maxRecDepth 1000000

abbrev Opr := Int × Int × Bool
/-- What is done, read in a list. -/
def OpIn (W : World) (b o : Nat) (x : Opr) : Prop := W.rangeAt b o (opC x).toList
theorem OpIn.later {W W' : World} {b o : Nat} {x : Opr} (h : OpIn W b o x) (hb : Below W.heap.size W W') : OpIn W' b o x :=
  fun j v hv => (hb.cell (World.block_lt_of_cell? W _ (h j v hv))).trans (h j v hv)
/-- v is a list that reads as these. -/
def OpsAt (w : World) (v : Value) (l : List Opr) : Prop :=
  ∃ (a : Option Addr) (cap b o : Nat), v = .slice a l.length cap ∧ (0 < l.length → a = some ⟨b, o, none⟩) ∧ (∀ j (h : j < l.length), OpIn w b (o + j * 3) l[j]) ∧
    (∀ x ∈ l, In64 x.1 ∧ In64 x.2.1) ∧ l.length ≤ maxLen
theorem OpsAt.later {w w' : World} {v : Value} {l : List Opr} (h : OpsAt w v l) (hb : Below w.heap.size w w') : OpsAt w' v l := by
  obtain ⟨a, cap, b, o, h1, h2, h3, h4⟩ := h
  exact ⟨a, cap, b, o, h1, h2, fun j hj => (h3 j hj).later hb, h4⟩
theorem ld_op {ops : Array Oper} {rest : List Oper} {o : Oper} {a : Act} {w : World} {Q : Exit → Act → World → Prop} (hwd : Region.wanted o (yielded ops a.tmps) = true) (y : Operand) (ho : o.op = .load 35 y)
    (b k : Nat) (hx : a.eval y = .pointer (some ⟨b, k, none⟩)) (x : Opr) (hR : OpIn w b k x)
    (h : wpList Tryd.prog ops Q rest (a.put o.dst (.agg (opC x))) w) : wpList Tryd.prog ops Q (o :: rest) a w :=
  wpList_step fun _ hK => by
    rw [if_pos hwd]
    exact wp_load_mid 35 y ho b k hx _ _ hR Tryd.underlying35 rfl op_info (hK _ _ h)
theorem yieldsIf_op {ops : Array Oper} {S : World → Prop} {op : Oper} {a : Act} (hw : Region.wanted op (yielded ops a.tmps) = true) (y : Operand) (ho : op.op = .load 35 y)
    (b k : Nat) (hx : a.eval y = .pointer (some ⟨b, k, none⟩)) (x : Opr) (hS : ∀ w, S w → OpIn w b k x) : YieldsIf Tryd.prog ops S op (.agg (opC x)) a :=
  yieldsIf_load_mid hw 35 y ho b k hx _ _ hS Tryd.underlying35 rfl op_info

theorem drawn_below (w : World) : Below w.heap.size w w.drew := Below.drewMany (Below.refl _ w) 1
theorem do_comm (R : Rw) (a b : Opr) (h : ¬ a.1 = b.1) : doR (doR R a) b = doR (doR R b) a := by
  obtain ⟨i, x, p⟩ := a
  obtain ⟨j, y, q⟩ := b
  simp only at h
  by_cases hi : onP i = true
  · obtain ⟨m, rfl, hm⟩ := on_nat hi
    by_cases hj : onP j = true
    · obtain ⟨n, rfl, hn⟩ := on_nat hj
      have hmn : ¬ m = n := fun e => h (by rw [e])
      cases p <;> cases q <;> simp only [doR, if_true, Bool.false_eq_true, if_false, set_on _ hm, set_on _ hn, cut_on hm, cut_on hn] <;>
        (funext k
         by_cases h1 : k = m
         · subst h1; simp [hmn]
         · by_cases h2 : k = n
           · subst h2; simp [h1]
           · simp [h1, h2])
    · cases p <;> cases q <;> simp only [doR, if_true, Bool.false_eq_true, if_false, set_off hj, cut_off hj]
  · cases p <;> cases q <;> simp only [doR, if_true, Bool.false_eq_true, if_false, set_off hi, cut_off hi]
theorem do_twice (R : Rw) (a : Opr) : doR (doR R a) a = doR R a := by
  obtain ⟨i, x, p⟩ := a
  by_cases hi : onP i = true
  · obtain ⟨m, rfl, hm⟩ := on_nat hi
    cases p <;> simp only [doR, if_true, Bool.false_eq_true, if_false, set_on _ hm, cut_on hm] <;>
      (funext k
       by_cases h1 : k = m
       · subst h1; simp
       · simp [h1])
  · cases p <;> simp only [doR, if_true, Bool.false_eq_true, if_false, set_off hi, cut_off hi]
theorem cut_back (R : Rw) (a : Opr) : cutR (doR R a) a.1 = R ↔ (getR R a.1).2 = false := by
  obtain ⟨i, x, p⟩ := a
  by_cases hi : onP i = true
  · obtain ⟨m, rfl, hm⟩ := on_nat hi
    have e : cutR (doR R ((m : Int), x, p)) (m : Int) = fun k => if k = m then none else R k := by
      cases p <;> simp only [doR, if_true, Bool.false_eq_true, if_false, set_on _ hm, cut_on hm] <;>
        (funext k
         by_cases h1 : k = m
         · subst h1; simp
         · simp [h1])
    simp only
    rw [e, get_on hm]
    constructor
    · intro h
      have := congrFun h m
      simp only [if_true] at this
      simp only
      rw [← this]
      rfl
    · intro h
      funext k
      by_cases h1 : k = m
      · subst h1
        simp only [if_true]
        cases hR : R k with
        | none => rfl
        | some n => simp only [hR] at h; cases h
      · simp [h1]
  · simp only [get_off hi, iff_true]
    cases p <;> simp only [doR, if_true, Bool.false_eq_true, if_false, set_off hi, cut_off hi]
theorem not_of {b q : Bool} (h : b = true ↔ q = false) : b = !q := by cases b <;> cases q <;> simp at h ⊢
end Go.Proofs.YtmdfpkklnaekmaaDoor
