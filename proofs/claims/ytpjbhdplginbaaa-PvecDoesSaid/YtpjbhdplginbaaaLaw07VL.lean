/- Layer 7's laws: package pvec's contracts over lists. -/
import Derived.Test.YtpjbhdplginbaaaLaw07DoC
namespace Go.Proofs.Ytpjbhdplginbaaa
open Go.RowKit
set_option maxRecDepth 1000000
set_option linter.unusedSimpArgs false

theorem pv_OfL {S : Nat → Prop} {l : List Int} (W : World) (v : Value) (hl : Lst S W v l) (hk : l.length ≤ 1000000) : Calls Try.prog 14 #[v] W fun e W' => ∃ c', e = .returned (.agg c') ∧ VL W' c' l ∧ Below W.heap.size W W' :=
  pv_Of W v hl.spot hk
theorem pv_LenL {c : Array Value} {l : List Int} {n : Nat} (W : World) (h : VL W c l) (hn : l.length = n) : Calls Try.prog 21 #[.agg c] W fun e W' => e = .returned (.int .i64 (n : Int)) ∧ Below W.heap.size W W' := by
  subst hn; exact pv_Len W h
theorem pv_LevL {c : Array Value} {l : List Int} {n : Nat} (W : World) (h : VL W c l) (hn : levN (othN l.length) = n) : Calls Try.prog 22 #[.agg c] W fun e W' => e = .returned (.int .i64 (n : Int)) ∧ Below W.heap.size W W' := by
  subst hn; exact VecG.levV h
theorem pv_ListL {c : Array Value} {l : List Int} (W : World) (h : VL W c l) : Calls Try.prog 17 #[.agg c] W fun e W' => ∃ v, e = .returned v ∧ Owns W.heap.size v l W' ∧ Below W.heap.size W W' := by
  have := pv_List W c _ _ h
  rwa [lsF_getD] at this
theorem pv_PushL {c : Array Value} {l r : List Int} (W : World) (v : Value) (h : VL W c l) {S : Nat → Prop} (hr : Lst S W v r) (hk : l.length + r.length ≤ 1000000) : Calls Try.prog 19 #[.agg c, v] W fun e W' => ∃ c', e = .returned (.agg c') ∧ VL W' c' (l ++ r) ∧ Below W.heap.size W W' :=
  (pv_Push W h v hr.spot hk).mono fun _ _ ⟨c', h1, h2, h3⟩ => ⟨c', h1, by rw [← lsF_app]; exact VL.of h2, h3⟩
theorem pv_PopL {c : Array Value} {l l' : List Int} {x : Int} (W : World) (h : VL W c l) (hx : getF (fun i => l.getD i 0) l.length ((l.length : Int) - 1) = (x, true)) (hl : l.take (l.length - 1) = l') : Calls Try.prog 20 #[.agg c] W fun e W' => ∃ c', e = .returned (.tuple #[.agg c', .int .i64 x, .bool true]) ∧ VL W' c' l' ∧ Below W.heap.size W W' := by
  have hp := pv_Pop W h
  rw [hx] at hp
  exact hp.mono fun _ _ ⟨c', h1, h2, h3⟩ => ⟨c', h1, by rw [← hl]; exact VL.popped h2, h3⟩
theorem pv_GetL {c : Array Value} {l : List Int} (W : World) (h : VL W c l) (i : Int) : Calls Try.prog 11 #[.agg c, .int .i64 i] W fun e W' => e = .returned (.tuple #[.int .i64 (getF (fun i => l.getD i 0) l.length i).1, .bool (getF (fun i => l.getD i 0) l.length i).2]) ∧ Below W.heap.size W W' := pv_Get W h i
end Go.Proofs.Ytpjbhdplginbaaa
