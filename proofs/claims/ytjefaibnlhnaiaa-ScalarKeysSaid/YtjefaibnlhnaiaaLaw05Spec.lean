/- Layer 5's laws: what they want of package scalar's functions, and the equality of scalars. -/
import Derived.Test.YtjefaibnlhnaiaaRef05U
import Derived.Laws.StructEq
import Derived.Deep.RegionHeld3
namespace Go.Proofs.Ytjefaibnlhnaiaa
open Go.RowKit
set_option maxRecDepth 1000000

/-- A scalar of a value. -/
abbrev scT (k n : Int) (t : ByteArray) : Sc := (k, n, t.data.toList)
theorem eql_sc (k n : Int) (t : ByteArray) (k' n' : Int) (t' : ByteArray) (w : World) : (binOp .eql 23 (scV k n t) (scV k' n' t')).run Try.prog w = .ok (.bool (decide (scT k n t = scT k' n' t'))) w := by
  have hu : Try.prog.underlying 23 = some (.struct (Try.prog.fieldsOf 23)) := by kernel_rfl
  have hp : Try.prog.stoodInHeld 23 = false := by kernel_rfl
  have t1 : t.toList = t.data.toList := ByteArray.toList_eq _
  have t2 : t'.toList = t'.data.toList := ByteArray.toList_eq _
  rw [run_eql_struct, run_equalIn_agg w 9999 _ _ _ hu hp]
  by_cases h1 : k = k'
  · by_cases h2 : n = n'
    · by_cases h3 : t.data.toList = t'.data.toList
      · simp [Program.fieldsOf, Try.underlying23, Op.eqFields, go_sem, h1, h2, h3, t1, t2]
      · have h4 : ¬ t.data = t'.data := fun e => h3 (by rw [e])
        simp [Program.fieldsOf, Try.underlying23, Op.eqFields, go_sem, h1, h2, h4, t1, t2]
    · simp [Program.fieldsOf, Try.underlying23, Op.eqFields, go_sem, h1, h2]
  · simp [Program.fieldsOf, Try.underlying23, Op.eqFields, go_sem, h1]

/-- What package scalar's functions answer. -/
structure SSpec (T : World → Prop) : Prop where
  keep : ∀ {W W' : World}, T W → Below W.heap.size W W' → T W'
  check : ∀ (k n : Int) (t : ByteArray) (W : World), T W → InR k → InR n → t.size ≤ 1000000 → Calls Try.prog 12 #[scV k n t] W fun e W' => e = .returned (.int .i64 (chkSc (scT k n t))) ∧ Below W.heap.size W W'
  same : ∀ (k n : Int) (t : ByteArray) (k' n' : Int) (t' : ByteArray) (W : World), T W → InR k → InR n → InR k' → InR n' → t.size ≤ 1000000 → t'.size ≤ 1000000 → Calls Try.prog 18 #[scV k n t, scV k' n' t'] W fun e W' => e = .returned (.bool (decide (scT k n t = scT k' n' t'))) ∧ Below W.heap.size W W'
  order : ∀ (k n : Int) (t : ByteArray) (k' n' : Int) (t' : ByteArray) (W : World), T W → InR k → InR n → InR k' → InR n' → t.size ≤ 1000000 → t'.size ≤ 1000000 → Calls Try.prog 16 #[scV k n t, scV k' n' t'] W fun e W' => e = .returned (.int .i64 (ordSc (scT k n t) (scT k' n' t'))) ∧ Below W.heap.size W W'
  key : ∀ (k n : Int) (t : ByteArray) (W : World), T W → InR k → InR n → t.size ≤ 1000000 → Calls Try.prog 14 #[scV k n t] W fun e W' => e = .returned (.string ⟨(keySc (scT k n t)).toArray⟩) ∧ Below W.heap.size W W'
  unkey : ∀ (s : ByteArray) (W : World), T W → s.size ≤ 1000000 → Calls Try.prog 19 #[.string s] W fun e W' => e = .returned (unkV (unkSc s.data.toList) ⟨(unkSc s.data.toList).1.2.2.toArray⟩) ∧ Below W.heap.size W W'
  hash : ∀ (seed : Nat) (k n : Int) (t : ByteArray) (W : World), T W → seed < 18446744073709551616 → InR k → InR n → t.size ≤ 1000000 → Calls Try.prog 23 #[.int .u64 (seed : Int), scV k n t] W fun e W' => e = .returned (.int .u64 (txtN seed (keySc (scT k n t)) : Nat)) ∧ Below W.heap.size W W'

/-- short: is the text short? -/
theorem short_walk (k n : Int) (t : ByteArray) (w : World) (ht : t.size ≤ maxLen) : Calls Try.prog 11 #[scV k n t] w fun e w' => e = .returned (.bool (decide (t.size ≤ 2000))) ∧ Below w.heap.size w w' := by
  have HN := Lib.hid (Below.newly' w (.cells #[.int .i64 k, .int .i64 n, .string t] 23))
  unfold maxLen at ht
  by_cases h : t.size ≤ 2000
  · have h' : (t.size : Int) ≤ 2000 := by omega
    rw [decide_eq_true h]
    clear h
    go_enter Try.func11, Try.ntmps11
    go_wp2
    go_ret
    exact ⟨by simp, HN.out⟩
  · have h' : ¬ (t.size : Int) ≤ 2000 := by omega
    rw [decide_eq_false h]
    clear h
    go_enter Try.func11, Try.ntmps11
    go_wp2
    go_ret
    exact ⟨by simp, HN.out⟩

/-- The table that package scalar leans on: none. -/
theorem bytes_eq {t t' : ByteArray} : t.data.toList = t'.data.toList ↔ t = t' :=
  ⟨fun h => ByteArray.ext (Array.toList_inj.1 h), fun h => by rw [h]⟩
end Go.Proofs.Ytjefaibnlhnaiaa
