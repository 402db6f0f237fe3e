/- Layer 5's laws over package scalar as it landed; a scalar that a row hands on, opened. -/
import Derived.Test.YtjefaibnlhnaiaaLaw05B
import Derived.Test.YtjefaibnlhnaiaaLaw05C
import Derived.Test.YtjefaibnlhnaiaaLaw05D
import Derived.Test.YtjefaibnlhnaiaaLaw05F
import Derived.Test.YtjefaibnlhnaiaaScal4
import Derived.Lib.SmallJoins
import Derived.OpenShut
namespace Go.Proofs.Ytjefaibnlhnaiaa
open Go.RowKit Go.ChangeShapes Go.WideShapes

theorem sc_in {x : Int} (h : (Lit.int .i64 x).wf = true) : InR x := bounds_i64 h
/-- A scalar by value, opened. -/
theorem sc_open {H : Type} {enc : TypeId × Value → H} {W : World} {sp : Nat → Bool} {held : Bool} {r : Reach} {b0 base : Nat} {v : Value} {d : DataW H} {ps : List MemPlace}
    (hval : Value.okWide Try.prog W r b0 23 v) (hd : DataW.Trod enc Try.prog W base sp held 23 v d ps) :
    ∃ (k n : Int) (t : ByteArray), v = scV k n t ∧ (Lit.int .i64 k).wf = true ∧ (Lit.int .i64 n).wf = true ∧ t.size ≤ maxLen := by
  obtain ⟨v0, v1, v2, y0, y1, y2, m, rfl, rfl, rfl, h0, h1, h2⟩ := Go.Joins.open_agg3 Try.underlying23 (by kernel_rfl) (by kernel_rfl) hval hd
  obtain ⟨k, e0, rfl, w0⟩ := DataW.trod_int Try.underlying3 h0
  obtain ⟨n, e1, rfl, w1⟩ := DataW.trod_int Try.underlying2 h1
  obtain ⟨t, e2, rfl, w2⟩ := DataW.trod_string Try.underlying9 h2
  simp only [List.cons.injEq, and_true] at e0 e1 e2
  subst e0 e1 e2
  exact ⟨k, n, t, rfl, w0, w1, w2⟩
theorem sc_nat {n : Int} (h : (Lit.int .u64 n).wf = true) : ∃ m : Nat, n = (m : Int) ∧ m < 18446744073709551616 := by
  have h2 := Bool.and_eq_true_iff.1 (show (decide (IntKind.u64.min ≤ n) && decide (n ≤ IntKind.u64.max)) = true from h)
  have h3 : (0 : Int) ≤ n := of_decide_eq_true h2.1
  have h4 : n ≤ 18446744073709551615 := of_decide_eq_true h2.2
  exact ⟨n.toNat, by omega, by omega⟩

theorem scalarChecks_walk (k n : Int) (t : ByteArray) (hk : (Lit.int .i64 k).wf = true) (hn : (Lit.int .i64 n).wf = true) (ht : t.size ≤ maxLen) (w : World) : Calls Try.prog 3 #[scV k n t] w fun e w' => e = .returned (.bool true) ∧ Below w.heap.size w w' :=
  scalarChecks_of sspec k n t (sc_in hk) (sc_in hn) ht w trivial
theorem scalarOrders_walk (k n : Int) (t : ByteArray) (k' n' : Int) (t' : ByteArray) (hk : (Lit.int .i64 k).wf = true) (hn : (Lit.int .i64 n).wf = true) (ht : t.size ≤ maxLen) (hk' : (Lit.int .i64 k').wf = true) (hn' : (Lit.int .i64 n').wf = true) (ht' : t'.size ≤ maxLen) (w : World) :
    Calls Try.prog 4 #[scV k n t, scV k' n' t'] w fun e w' => e = .returned (.bool true) ∧ Below w.heap.size w w' :=
  scalarOrders_of sspec k n t k' n' t' (sc_in hk) (sc_in hn) ht (sc_in hk') (sc_in hn') ht' w trivial
theorem scalarTotal_walk (k n : Int) (t : ByteArray) (k' n' : Int) (t' : ByteArray) (k'' n'' : Int) (t'' : ByteArray) (hk : (Lit.int .i64 k).wf = true) (hn : (Lit.int .i64 n).wf = true) (ht : t.size ≤ maxLen) (hk' : (Lit.int .i64 k').wf = true) (hn' : (Lit.int .i64 n').wf = true) (ht' : t'.size ≤ maxLen) (hk'' : (Lit.int .i64 k'').wf = true) (hn'' : (Lit.int .i64 n'').wf = true) (ht'' : t''.size ≤ maxLen) (w : World) :
    Calls Try.prog 5 #[scV k n t, scV k' n' t', scV k'' n'' t''] w fun e w' => e = .returned (.bool true) ∧ Below w.heap.size w w' :=
  scalarTotal_of sspec k n t k' n' t' k'' n'' t'' (sc_in hk) (sc_in hn) ht (sc_in hk') (sc_in hn') ht' (sc_in hk'') (sc_in hn'') ht'' w trivial
theorem scalarReads_walk (s : ByteArray) (hs : s.size ≤ maxLen) (w : World) : Calls Try.prog 6 #[.string s] w fun e w' => e = .returned (.bool true) ∧ Below w.heap.size w w' :=
  scalarReads_of sspec s w trivial hs
theorem scalarBack_walk (k n : Int) (t x : ByteArray) (cut : Int) (hk : (Lit.int .i64 k).wf = true) (hn : (Lit.int .i64 n).wf = true) (ht : t.size ≤ maxLen) (hx : x.size ≤ maxLen) (hc : (Lit.int .i64 cut).wf = true) (w : World) :
    Calls Try.prog 7 #[scV k n t, .string x, .int .i64 cut] w fun e w' => e = .returned (.bool true) ∧ Below w.heap.size w w' :=
  scalarBack_of sspec k n t x cut (sc_in hk) (sc_in hn) ht hx (sc_in hc) w trivial
theorem scalarKeys_walk (k n : Int) (t : ByteArray) (k' n' : Int) (t' x y : ByteArray) (hk : (Lit.int .i64 k).wf = true) (hn : (Lit.int .i64 n).wf = true) (ht : t.size ≤ maxLen) (hk' : (Lit.int .i64 k').wf = true) (hn' : (Lit.int .i64 n').wf = true) (ht' : t'.size ≤ maxLen) (hx : x.size ≤ maxLen) (hy : y.size ≤ maxLen) (w : World) :
    Calls Try.prog 8 #[scV k n t, scV k' n' t', .string x, .string y] w fun e w' => e = .returned (.bool true) ∧ Below w.heap.size w w' :=
  scalarKeys_of sspec k n t k' n' t' x y (sc_in hk) (sc_in hn) ht (sc_in hk') (sc_in hn') ht' hx hy w trivial
theorem scalarSums_walk (seed : Int) (k n : Int) (t : ByteArray) (k' n' : Int) (t' : ByteArray) (hseed : (Lit.int .u64 seed).wf = true) (hk : (Lit.int .i64 k).wf = true) (hn : (Lit.int .i64 n).wf = true) (ht : t.size ≤ maxLen) (hk' : (Lit.int .i64 k').wf = true) (hn' : (Lit.int .i64 n').wf = true) (ht' : t'.size ≤ maxLen) (w : World) :
    Calls Try.prog 9 #[.int .u64 seed, scV k n t, scV k' n' t'] w fun e w' => e = .returned (.bool true) ∧ Below w.heap.size w w' := by
  obtain ⟨m, rfl, hm⟩ := sc_nat hseed
  exact scalarSums_of sspec k n t k' n' t' m hm (sc_in hk) (sc_in hn) ht (sc_in hk') (sc_in hn') ht' w trivial
end Go.Proofs.Ytjefaibnlhnaiaa
