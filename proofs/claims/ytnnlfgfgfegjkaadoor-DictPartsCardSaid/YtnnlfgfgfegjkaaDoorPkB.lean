/- Texts put together: RegionT RegionY KeptIn Pv12w RegionW RegionG RoundIn RangeS Owns. -/
import Derived.Test.YtnnlfgfgfegjkaaDoorChecked
import Derived.WalkKit
import Derived.Deep.RegionHeld
import Derived.Deep.MidRow
import Derived.Lib.Hide
import Derived.Test.YtnnlfgfgfegjkaaDoorPkA
import Derived.RangeFuncNested
import Derived.RangeFuncBound
import Derived.RangeFuncCalls
import Derived.RangeFuncLeaves
import Derived.RangeFuncBox
import Derived.Shelf.Abstract
import Derived.Shelf.RegionOpen
import Derived.OwnWalkIn
import Derived.TacticsInMore
import Derived.LoopNIn
import Derived.LoopIn
import Derived.OrdersIn

/- Regions that draw their order, whose last operations (stores, assignments: each waits for all that reads) need not keep what the reads lean on. -/
namespace Go.Proofs.YtnnlfgfgfegjkaaDoor
open Go.RowKit

section
variable {P : Program} {md : Region.Mode} {ops : Array Oper} {Q : Exit → Act → World → Prop} {S : World → Prop} {U : List Nat}
/-- Whatever order is picked, and S holds behind each operation that is none of U. -/
def wpAnyT (P : Program) (md : Region.Mode) (ops : Array Oper) (Q : Exit → Act → World → Prop) (S : World → Prop) (U : List Nat) : Nat → Array Bool → Act → World → Prop
  | 0, listed, a, w => Region.ready md ops listed = [] ∧ Q .normal a w
  | fuel + 1, listed, a, w =>
    (Region.ready md ops listed = [] → Q .normal a w) ∧
    ∀ i ∈ Region.ready md ops listed, wpOp P ops Q i (fun a' w' => (U.contains i = false → S w') ∧ wpAnyT P md ops Q S U fuel (listed.setIfInBounds i true) a' w') a w
theorem wpAnyT_any : ∀ (fuel : Nat) (listed : Array Bool) (a : Act) (w : World), wpAnyT P md ops Q S U fuel listed a w → wpAny P md ops Q fuel listed a w
  | 0, _, _, _, h => h
  | fuel + 1, _, _, _, h => ⟨h.1, fun i hi => wpOp_mono (fun a' w' h' => wpAnyT_any fuel _ a' w' h'.2) (h.2 i hi)⟩
/-- j waits for i, by way of others. -/
def waitsT (md : Region.Mode) (ops : Array Oper) (i : Nat) : Nat → Nat → Bool
  | 0, _ => false
  | n + 1, j => match ops[j]? with | some o => o.after.any fun e => Region.binds md e && (e.on == i || waitsT md ops i n e.on) | none => false
/-- Each of U waits for i. -/
def waitsFor (md : Region.Mode) (ops : Array Oper) (U : List Nat) (i : Nat) : Bool := U.all fun j => waitsT md ops i ops.size j
/-- What has come up has all come up that it waits for. -/
def Closed (md : Region.Mode) (ops : Array Oper) (listed : Array Bool) : Prop :=
  ∀ k ok, ops[k]? = some ok → listed.getD k false = true → ∀ e ∈ ok.after, Region.binds md e = true → listed.getD e.on false = true
def closedB (md : Region.Mode) (ops : Array Oper) (listed : Array Bool) : Bool :=
  (List.range ops.size).all fun k => !listed.getD k false || (match ops[k]? with | some o => o.after.all fun e => !Region.binds md e || listed.getD e.on false | none => true)
theorem closed_of {listed : Array Bool} (h : closedB md ops listed = true) : Closed md ops listed := by
  intro k ok hk hl e he hb
  unfold closedB at h
  rw [List.all_eq_true] at h
  have h1 := h k (by rw [List.mem_range]; exact (Array.getElem?_eq_some_iff.1 hk).1)
  rw [hl, hk] at h1
  simp only [Bool.not_true, Bool.false_or] at h1
  rw [Array.all_eq_true_iff_forall_mem] at h1
  have h2 := h1 e he
  rw [hb] at h2
  simpa using h2
theorem waits_not {i : Nat} {listed : Array Bool} (hc : Closed md ops listed) (hi : listed.getD i false = false) : ∀ (n j : Nat), waitsT md ops i n j = true → listed.getD j false = true → False
  | 0, _, h, _ => by cases h
  | n + 1, j, h, hl => by
    unfold waitsT at h
    cases hj : ops[j]? with
    | none => rw [hj] at h; cases h
    | some o =>
      rw [hj] at h
      simp only at h
      rw [Array.any_eq_true] at h
      obtain ⟨k, hk, h2⟩ := h
      rw [Bool.and_eq_true, Bool.or_eq_true, beq_iff_eq] at h2
      have hon := hc j o hj hl _ (Array.getElem_mem hk) h2.1
      rcases h2.2 with h3 | h3
      · rw [h3, hi] at hon; cases hon
      · exact waits_not hc hi n _ h3 hon
theorem waits_ready {i j : Nat} {listed : Array Bool} (h : waitsFor md ops U i = true) (hc : Closed md ops listed) (hi : listed.getD i false = false) (hU : U.contains j = true) (hj : j ∈ Region.ready md ops listed) : False := by
  unfold waitsFor at h
  rw [List.all_eq_true] at h
  have h1 := h j (by simpa using hU)
  obtain ⟨_, oj, hoj, hall⟩ := mem_ready.1 hj
  cases hn : ops.size with
  | zero => rw [hn] at h1; cases h1
  | succ n =>
    rw [hn] at h1
    unfold waitsT at h1
    rw [hoj] at h1
    simp only at h1
    rw [Array.any_eq_true] at h1
    obtain ⟨k, hk, h2⟩ := h1
    rw [Bool.and_eq_true, Bool.or_eq_true, beq_iff_eq] at h2
    have hon := hall _ (Array.getElem_mem hk) h2.1
    rcases h2.2 with h3 | h3
    · rw [h3, hi] at hon; cases hon
    · exact waits_not hc hi n _ h3 hon
theorem closed_set {j : Nat} {listed : Array Bool} (hc : Closed md ops listed) (hj : j ∈ Region.ready md ops listed) : Closed md ops (listed.setIfInBounds j true) := by
  obtain ⟨_, oj, hoj, hall⟩ := mem_ready.1 hj
  intro k ok hk hl e he hb
  by_cases hjk : j = k
  · subst hjk
    rw [hoj] at hk
    obtain rfl := Option.some.inj hk
    exact getD_set_true (hall e he hb)
  · rw [getD_set_ne false hjk] at hl
    exact getD_set_true (hc k ok hk hl e he hb)

/-- An operation that yields its value in every world that meets S may be taken first, where each of U waits for it. -/
theorem wpAnyT_first {i : Nat} {oi : Oper} {v : Value} (hi : ops[i]? = some oi) (hsel : ∀ (j : Nat) (o : Oper) cs b, ops[j]? = some o → o.op ≠ .select cs b)
    (hQ : ∀ c a w, Q (.panic c) (a.put oi.dst v) w → Q (.panic c) a w) (hw : waitsFor md ops U i = true) :
    ∀ (fuel : Nat) (listed : Array Bool) (a : Act) (w : World),
      (∀ j oj, ops[j]? = some oj → j ≠ i → listed.getD j true = false → (∀ e ∈ oj.after, Region.binds md e = true → e.on ≠ i) → oi.apart ops oj = true) →
      Closed md ops listed → i ∈ Region.ready md ops listed → YieldsIf P ops S oi v a → S w →
      wpAnyT P md ops Q S U fuel (listed.setIfInBounds i true) (a.put oi.dst v) w → wpAnyT P md ops Q S U (fuel + 1) listed a w := by
  intro fuel
  induction fuel with
  | zero =>
    intro listed a w _ _ hr hy hS H
    refine ⟨fun h => (by rw [h] at hr; cases hr), fun j hj => ?_⟩
    by_cases hji : j = i
    · subst hji; exact hy.wpOp hi hS ⟨fun _ => hS, H⟩
    · have := ready_mono hj hji
      rw [H.1] at this
      cases this
  | succ fuel ih =>
    intro listed a w hfree hcl hr hy hS H
    refine ⟨fun h => (by rw [h] at hr; cases hr), fun j hj => ?_⟩
    by_cases hji : j = i
    · subst hji; exact hy.wpOp hi hS ⟨fun _ => hS, H⟩
    · have h1 := H.2 j (ready_mono hj hji)
      obtain ⟨hjun, oj, hoj, hall⟩ := mem_ready.1 hj
      have hifalse : listed.getD i false = false := by
        have h0 := (mem_ready.1 hr).1
        rcases Nat.lt_or_ge i listed.size with h' | h'
        · simp [h'] at h0 ⊢; exact h0
        · simp [Array.getElem?_eq_none h']
      have hnot : ∀ e ∈ oj.after, Region.binds md e = true → e.on ≠ i := fun e he hb heq => by
        have h1 := hall e he hb
        rw [heq, hifalse] at h1
        cases h1
      have hnU : U.contains j = false := by
        cases hc : U.contains j with
        | false => rfl
        | true => exact (waits_ready hw hcl hifalse hc hj).elim
      have h2 := wpOp_putIf hoj (hfree j oj hoj hji hjun hnot) (fun cs b => hsel i oi cs b hi) (fun cs b => hsel j oj cs b hoj) hQ hy h1
      have hfree' : ∀ k ok, ops[k]? = some ok → k ≠ i → (listed.setIfInBounds j true).getD k true = false →
          (∀ e ∈ ok.after, Region.binds md e = true → e.on ≠ i) → oi.apart ops ok = true := fun k ok hk hki hun hno => by
        refine hfree k ok hk hki ?_ hno
        by_cases hjk : j = k
        · subst hjk; exact hjun
        · rw [getD_set_ne true hjk] at hun; exact hun
      refine wpOp_mono (fun a' w' h3 => ⟨fun hc => h3.2.1 hc, ih (listed.setIfInBounds j true) a' w' hfree' (closed_set hcl hj) (ready_mono hr (Ne.symm hji)) h3.1 (h3.2.1 hnU) ?_⟩) h2
      rw [Array.setIfInBounds_comm _ _ hji]
      exact h3.2.2
theorem wpAnyT_take {i : Nat} {oi : Oper} {v : Value} {fuel : Nat} {listed : Array Bool} {a : Act} {w : World} (hi : ops[i]? = some oi)
    (hs : Region.noSelect ops = true) (hf : Region.free md ops listed i = true) (hr : (Region.ready md ops listed).contains i = true) (hw : (waitsFor md ops U i && closedB md ops listed) = true)
    (hQ : ∀ c a w, Q (.panic c) (a.put oi.dst v) w → Q (.panic c) a w) (hy : YieldsIf P ops S oi v a) (hS : S w)
    (h : wpAnyT P md ops Q S U fuel (listed.setIfInBounds i true) (a.put oi.dst v) w) : wpAnyT P md ops Q S U (fuel + 1) listed a w :=
  wpAnyT_first hi (Region.noSelect_spec hs) hQ (Bool.and_eq_true_iff.1 hw).1 fuel listed a w (Region.free_spec hi hf) (closed_of (Bool.and_eq_true_iff.1 hw).2) (by simpa using hr) hy hS h
theorem wpAnyT_done {listed : Array Bool} {a : Act} {w : World} (hr : Region.ready md ops listed = []) (h : Q .normal a w) :
    ∀ fuel, wpAnyT P md ops Q S U fuel listed a w
  | 0 => ⟨hr, h⟩
  | _ + 1 => ⟨fun _ => h, by rw [hr]; simp⟩
theorem wp_region_T {id : Nat} {a : Act} {w : World} (U : List Nat) (hm : P.follows .mixedOrders = true) (hS : S w.drew)
    (h : S w.drew → wpAnyT P .any ops Q S U ops.size (Array.replicate ops.size false) a w.drew) : (Code.region id ops true).wp P Q a w :=
  wp_region_any hm (wpAnyT_any _ _ _ _ (h hS))
/-- The one operation that may come up: S is shown anew behind it. -/
theorem wpAnyT_one {fuel : Nat} {listed : Array Bool} {a : Act} {w : World} {i : Nat} {o : Oper} (hr : Region.ready md ops listed = [i]) (ho : ops[i]? = some o)
    (h : ∀ K' : Act → World → Prop, Shut (∀ a w, S w → (S w → wpAnyT P md ops Q S U fuel (listed.setIfInBounds i true) a w) → K' a w) → if Region.wanted o (yielded ops a.tmps) = true then Oper.wp P o a w K' Q else K' (a.put o.dst undef) w) :
    wpAnyT P md ops Q S U (fuel + 1) listed a w := by
  refine ⟨fun h0 => absurd (hr ▸ h0) (by simp), fun j hj => ?_⟩
  rw [hr] at hj
  obtain rfl : j = i := by simpa using hj
  exact wpOp_step ho (fun K' hK => h K' (fun a w hS hW => hK a w ⟨fun _ => hS, hW hS⟩))
/-- .. one of U: nothing is shown anew. -/
theorem wpAnyT_last {fuel : Nat} {listed : Array Bool} {a : Act} {w : World} {i : Nat} {o : Oper} (hr : Region.ready md ops listed = [i]) (hU : U.contains i = true) (ho : ops[i]? = some o)
    (h : ∀ K' : Act → World → Prop, Shut (∀ a w, wpAnyT P md ops Q S U fuel (listed.setIfInBounds i true) a w → K' a w) → if Region.wanted o (yielded ops a.tmps) = true then Oper.wp P o a w K' Q else K' (a.put o.dst undef) w) :
    wpAnyT P md ops Q S U (fuel + 1) listed a w := by
  refine ⟨fun h0 => absurd (hr ▸ h0) (by simp), fun j hj => ?_⟩
  rw [hr] at hj
  obtain rfl : j = i := by simpa using hj
  exact wpOp_step ho (fun K' hK => h K' (fun a w hW => hK a w ⟨(fun hc => absurd (hU.symm.trans hc) (by decide)), hW⟩))
/-- Whichever of several comes up. -/
def AllT (P : Program) (md : Region.Mode) (ops : Array Oper) (Q : Exit → Act → World → Prop) (S : World → Prop) (U : List Nat) (fuel : Nat) (listed : Array Bool) (a : Act) (w : World) (rs : List Nat) : Prop :=
  ∀ i ∈ rs, wpOp P ops Q i (fun a' w' => (U.contains i = false → S w') ∧ wpAnyT P md ops Q S U fuel (listed.setIfInBounds i true) a' w') a w
theorem AllT.nil {fuel : Nat} {listed : Array Bool} {a : Act} {w : World} : AllT P md ops Q S U fuel listed a w [] := fun _ h => by cases h
theorem AllT.cons {fuel : Nat} {listed : Array Bool} {a : Act} {w : World} {i : Nat} {o : Oper} {rs : List Nat} (ho : ops[i]? = some o)
    (h : ∀ K' : Act → World → Prop, Shut (∀ a w, S w → (S w → wpAnyT P md ops Q S U fuel (listed.setIfInBounds i true) a w) → K' a w) → if Region.wanted o (yielded ops a.tmps) = true then Oper.wp P o a w K' Q else K' (a.put o.dst undef) w)
    (hs : AllT P md ops Q S U fuel listed a w rs) : AllT P md ops Q S U fuel listed a w (i :: rs) := fun j hj => by
  rcases List.mem_cons.1 hj with rfl | hj
  · exact wpOp_step ho (fun K' hK => h K' (fun a w hS hW => hK a w ⟨fun _ => hS, hW hS⟩))
  · exact hs j hj
theorem wpAnyT_ready {rs : List Nat} {fuel : Nat} {listed : Array Bool} {a : Act} {w : World} (hr : Region.ready md ops listed = rs) (hne : rs ≠ [])
    (h : AllT P md ops Q S U fuel listed a w rs) : wpAnyT P md ops Q S U (fuel + 1) listed a w := ⟨fun h0 => absurd (hr ▸ h0) hne, hr ▸ h⟩
/-- A variable of many cells, read whole: it yields what it holds. -/
theorem yieldsIf_load_row {op : Oper} {a : Act} (hw : Region.wanted op (yielded ops a.tmps) = true) (ty : TypeId) (x : Operand) (ho : op.op = .load ty x)
    (X : Nat) (hx : a.eval x = .pointer (some ⟨X, 0, none⟩)) (c : Array Value) (T : TypeId) (fr : Nat × Nat) (d : TypeDesc) (hS : ∀ w, S w → w.heap[X]? = some (.cells c T fr))
    (hu : P.underlying ty = some d) (hd : d.isRow = true) (hi : (P.info? ty).map (·.size) = some c.size) : YieldsIf P ops S op (.agg c) a :=
  .inl ⟨hw, fun w hw' => by
    unfold execOp
    simp only [ho, hx, Instr.loadAt, Instr.sureAddr, Sem.run_bind, Sem.run_pure, Result.andThen_ok, run_loadVar_row w X T ty c fr d (hS w hw') hu (by cases d <;> simp_all [TypeDesc.isRow]) hi]⟩
end
end Go.Proofs.YtnnlfgfgfegjkaaDoor

/- Regions that draw their order: a call that hands back a value and leaves the world as it was may be taken first, too. -/
namespace Go.Proofs.YtnnlfgfgfegjkaaDoor
open Go.RowKit

section
variable {P : Program} {md : Region.Mode} {ops : Array Oper} {Q : Exit → Act → World → Prop} {S : World → Prop} {U : List Nat}
/-- In every world that meets S the operation calls a function that hands back v and leaves the world as it was. -/
def YieldsC (P : Program) (ops : Array Oper) (S : World → Prop) (o : Oper) (v : Value) (a : Act) : Prop :=
  Region.wanted o (yielded ops a.tmps) = true ∧ ∀ w, S w → ∃ f args, (execOp a.eval o).run P w = .ok (.enter f args) w ∧ Calls P f args w fun e w' => e = .returned v ∧ w' = w
theorem YieldsC.wpOp {i : Nat} {o : Oper} {v : Value} {a : Act} (hi : ops[i]? = some o) (hy : YieldsC P ops S o v a)
    {K : Act → World → Prop} {w : World} (hS : S w) (h : K (a.put o.dst v) w) : wpOp P ops Q i K a w := by
  obtain ⟨hw, hv⟩ := hy
  obtain ⟨f, args, hrun, hc⟩ := hv w hS
  unfold Go.wpOp
  simp only [hi, hw, if_true, Oper.wp, hrun, Oper.upon]
  refine .inl (hc.mono ?_)
  rintro e w' ⟨rfl, rfl⟩
  exact h
theorem YieldsC.of_same {o : Oper} {v : Value} {a a' : Act} (hy : YieldsC P ops S o v a) (he : execOp a'.eval o = execOp a.eval o)
    (hw : Region.wanted o (yielded ops a'.tmps) = Region.wanted o (yielded ops a.tmps)) : YieldsC P ops S o v a' := by
  unfold YieldsC at *
  rw [he, hw]
  exact hy
theorem wpOp_putC {j : Nat} {oi oj : Oper} {v : Value} (hj : ops[j]? = some oj) (hap : oi.apart ops oj = true)
    (hsi : ∀ cs b, oi.op ≠ .select cs b) (hsj : ∀ cs b, oj.op ≠ .select cs b)
    (hQ : ∀ c a w, Q (.panic c) (a.put oi.dst v) w → Q (.panic c) a w) {K : Act → World → Prop} {a : Act} {w : World}
    (hy : YieldsC P ops S oi v a) (h : wpOp P ops Q j K (a.put oi.dst v) w) :
    wpOp P ops Q j (fun a' w' => YieldsC P ops S oi v a' ∧ K (a'.put oi.dst v) w') a w := by
  obtain ⟨h1, h2, h3⟩ := Oper.apart_spec hap
  have keep : ∀ (a : Act), YieldsC P ops S oi v a → ∀ u, YieldsC P ops S oi v (a.put oj.dst u) := fun a hy u =>
    hy.of_same (execOp_put oi hsi a oj.dst u h3) (wanted_put oi a oj.dst u h3)
  have keepD : ∀ d, YieldsC P ops S oi v { a with defers := d :: a.defers } := fun d => hy.of_same rfl rfl
  unfold wpOp at *
  simp only [hj] at *
  rw [wanted_put oj a oi.dst v h1] at h
  split
  · rename_i hw
    simp only [hw, if_true] at h
    rcases h with h | ⟨hasks, hlets⟩
    case inr => exact .inr ⟨by unfold Oper.asks at *; rw [execOp_put oj hsj a oi.dst v h1] at hasks; exact hasks, hlets⟩
    refine .inl ?_
    unfold Oper.wp at *
    rw [execOp_put oj hsj a oi.dst v h1] at h
    generalize (execOp a.eval oj).run P w = r at *
    cases r with
    | ok n w' =>
      cases n <;> simp only [Oper.upon] at h ⊢
      case value u => exact ⟨keep a hy u, by rw [← Act.put_comm a v u h2]; exact h⟩
      case skip => exact ⟨keep a hy _, by rw [← Act.put_comm a v undef h2]; exact h⟩
      case defer d =>
        refine ⟨keep _ (keepD d) _, ?_⟩
        rw [← Act.put_comm _ v undef h2, ← Act.put_defers]
        exact h
      case enter f args =>
        refine Calls.mono h fun e w'' he => ?_
        cases e with
        | returned u => exact ⟨keep a hy u, by rw [← Act.put_comm a v u h2]; exact he⟩
        | panicked c => exact hQ _ _ _ he
        | outgrown => exact he
      case row row args => exact Rows.mono h fun u w'' he => ⟨keep a hy u, by rw [← Act.put_comm a v u h2]; exact he⟩
    | halt x w' =>
      cases x <;> simp only [Oper.upon] at h ⊢
      case panic u => exact hQ _ _ _ h
  · rename_i hw
    simp only [hw] at h
    exact ⟨keep a hy _, by rw [← Act.put_comm a v undef h2]; exact h⟩
theorem wpAnyT_firstC {i : Nat} {oi : Oper} {v : Value} (hi : ops[i]? = some oi) (hsel : ∀ (j : Nat) (o : Oper) cs b, ops[j]? = some o → o.op ≠ .select cs b)
    (hQ : ∀ c a w, Q (.panic c) (a.put oi.dst v) w → Q (.panic c) a w) (hw : waitsFor md ops U i = true) :
    ∀ (fuel : Nat) (listed : Array Bool) (a : Act) (w : World),
      (∀ j oj, ops[j]? = some oj → j ≠ i → listed.getD j true = false → (∀ e ∈ oj.after, Region.binds md e = true → e.on ≠ i) → oi.apart ops oj = true) →
      Closed md ops listed → i ∈ Region.ready md ops listed → YieldsC P ops S oi v a → S w →
      wpAnyT P md ops Q S U fuel (listed.setIfInBounds i true) (a.put oi.dst v) w → wpAnyT P md ops Q S U (fuel + 1) listed a w := by
  intro fuel
  induction fuel with
  | zero =>
    intro listed a w _ _ hr hy hS H
    refine ⟨fun h => (by rw [h] at hr; cases hr), fun j hj => ?_⟩
    by_cases hji : j = i
    · subst hji; exact hy.wpOp hi hS ⟨fun _ => hS, H⟩
    · have := ready_mono hj hji
      rw [H.1] at this
      cases this
  | succ fuel ih =>
    intro listed a w hfree hcl hr hy hS H
    refine ⟨fun h => (by rw [h] at hr; cases hr), fun j hj => ?_⟩
    by_cases hji : j = i
    · subst hji; exact hy.wpOp hi hS ⟨fun _ => hS, H⟩
    · have h1 := H.2 j (ready_mono hj hji)
      obtain ⟨hjun, oj, hoj, hall⟩ := mem_ready.1 hj
      have hifalse : listed.getD i false = false := by
        have h0 := (mem_ready.1 hr).1
        rcases Nat.lt_or_ge i listed.size with h' | h'
        · simp [h'] at h0 ⊢; exact h0
        · simp [Array.getElem?_eq_none h']
      have hnot : ∀ e ∈ oj.after, Region.binds md e = true → e.on ≠ i := fun e he hb heq => by
        have h1 := hall e he hb
        rw [heq, hifalse] at h1
        cases h1
      have hnU : U.contains j = false := by
        cases hc : U.contains j with
        | false => rfl
        | true => exact (waits_ready hw hcl hifalse hc hj).elim
      have h2 := wpOp_putC hoj (hfree j oj hoj hji hjun hnot) (fun cs b => hsel i oi cs b hi) (fun cs b => hsel j oj cs b hoj) hQ hy h1
      have hfree' : ∀ k ok, ops[k]? = some ok → k ≠ i → (listed.setIfInBounds j true).getD k true = false →
          (∀ e ∈ ok.after, Region.binds md e = true → e.on ≠ i) → oi.apart ops ok = true := fun k ok hk hki hun hno => by
        refine hfree k ok hk hki ?_ hno
        by_cases hjk : j = k
        · subst hjk; exact hjun
        · rw [getD_set_ne true hjk] at hun; exact hun
      refine wpOp_mono (fun a' w' h3 => ⟨fun hc => h3.2.1 hc, ih (listed.setIfInBounds j true) a' w' hfree' (closed_set hcl hj) (ready_mono hr (Ne.symm hji)) h3.1 (h3.2.1 hnU) ?_⟩) h2
      rw [Array.setIfInBounds_comm _ _ hji]
      exact h3.2.2
theorem wpAnyT_takeC {i : Nat} {oi : Oper} {v : Value} {fuel : Nat} {listed : Array Bool} {a : Act} {w : World} (hi : ops[i]? = some oi)
    (hs : Region.noSelect ops = true) (hf : Region.free md ops listed i = true) (hr : (Region.ready md ops listed).contains i = true) (hw : (waitsFor md ops U i && closedB md ops listed) = true)
    (hQ : ∀ c a w, Q (.panic c) (a.put oi.dst v) w → Q (.panic c) a w) (hy : YieldsC P ops S oi v a) (hS : S w)
    (h : wpAnyT P md ops Q S U fuel (listed.setIfInBounds i true) (a.put oi.dst v) w) : wpAnyT P md ops Q S U (fuel + 1) listed a w :=
  wpAnyT_firstC hi (Region.noSelect_spec hs) hQ (Bool.and_eq_true_iff.1 hw).1 fuel listed a w (Region.free_spec hi hf) (closed_of (Bool.and_eq_true_iff.1 hw).2) (by simpa using hr) hy hS h
end
end Go.Proofs.YtnnlfgfgfegjkaaDoor

/- What a round of a range over a function keeps: variables, lists of numbers; 'make([]int, 0, n)'. -/
namespace Go.Proofs.YtnnlfgfgfegjkaaDoor
open Go.RowKit Go.Shelf
set_option maxRecDepth 1000000
set_option linter.unusedSimpArgs false
attribute [local go_sem] Oper.semAt_some

theorem bx_kept {A B : World} {X : Nat} {t : TypeId} {v : Value} {row : Option Nat} (h : Boxed A X t v) (hg : A.grownBy B row) (hr : ∀ r, row = some r → ∃ o : Obj, A.heap[r]? = some o ∧ o.isCells = false) : Boxed B X t v :=
  boxed_own (β := Unit) X t (fun _ => v) () A B row h hg hr
theorem ints_kept {A B : World} {n : Nat} {v : Value} {l : List Int} {row : Option Nat} (h : Ints n v l A) (hg : A.grownBy B row) (hr : ∀ r, row = some r → ∃ o : Obj, A.heap[r]? = some o ∧ o.isCells = false) : Ints n v l B := by
  refine h.grown hg ?_
  cases hv : v.ownBlock with
  | none => exact .inl rfl
  | some k =>
    refine .inr fun e => ?_
    obtain ⟨o, ho, hc⟩ := hr k e.symm
    obtain ⟨⟨_, h2⟩, _⟩ := h
    rcases h2 with ⟨rfl, _⟩ | ⟨g, cap, cur, fz, rfl, _, hb, _⟩
    · cases hv
    · obtain rfl : g = k := by simpa [Value.ownBlock] using hv
      rw [hb] at ho
      cases ho
      cases hc
theorem lis_kept {A B : World} {v : Value} {l : List Int} {row : Option Nat} (h : LisAt A v l) (hg : A.grownBy B row) (hr : ∀ r, row = some r → ∃ o : Obj, A.heap[r]? = some o ∧ o.isCells = false) : LisAt B v l := by
  rcases h with h | ⟨h0, g, c, cs, fr, h1, h2, h3, h4⟩
  · exact .inl h
  · refine .inr ⟨h0, g, c, cs, fr, h1, h2, (hg.block g (Array.getElem?_eq_some_iff.1 h3).1 fun e => ?_).trans h3, h4⟩
    obtain ⟨o, ho, hc⟩ := hr g e.symm
    rw [h3] at ho
    cases ho
    cases hc
theorem ints_not {w : World} {n L : Nat} {v : Value} {l : List Int} {cs : Array Value} {T : TypeId} {fr : Nat × Nat} (h : Ints n v l w) (hb : w.heap[L]? = some (.cells cs T fr)) (hT : T ≠ 3) : some L ≠ v.ownBlock := by
  intro e
  obtain ⟨⟨_, h2⟩, _⟩ := h
  rcases h2 with ⟨rfl, _⟩ | ⟨g, cap, cur, fz, rfl, _, hg, _⟩
  · cases e
  · obtain rfl : L = g := by simpa [Value.ownBlock] using e
    rw [hb] at hg
    cases hg
    exact hT rfl
theorem ints_cells {w : World} {n : Nat} {v : Value} {l : List Int} (h : Ints n v l w) : ∀ (j : Nat) (o : Obj), v.ownBlock = some j → w.heap[j]? = some o → o.isCells = true := by
  intro j o hj ho
  obtain ⟨⟨_, h2⟩, _⟩ := h
  rcases h2 with ⟨rfl, _⟩ | ⟨g, cap, cur, fz, rfl, _, hg, _⟩
  · cases hj
  · obtain rfl : g = j := by simpa [Value.ownBlock] using hj
    rw [hg] at ho
    cases ho
    rfl
theorem ints_low {w : World} {n : Nat} {v : Value} {l : List Int} (h : Ints n v l w) : ∀ k, some k = v.ownBlock → n ≤ k := by
  intro k hk
  obtain ⟨⟨_, h2⟩, _⟩ := h
  rcases h2 with ⟨rfl, _⟩ | ⟨g, cap, cur, fz, rfl, hB, _⟩
  · cases hk
  · obtain rfl : k = g := by simpa [Value.ownBlock] using hk
    exact hB
theorem ints_lis {w : World} {n : Nat} {v : Value} {l : List Int} (h : Ints n v l w) (h0 : 0 < l.length) : LisAt w v l := by
  obtain ⟨h1, _⟩ := h
  obtain ⟨_, h2⟩ := h1
  rcases h2 with ⟨_, h3⟩ | ⟨g, cap, cur, fz, rfl, hB, hg, h5, h6, h7, h8⟩
  · exact absurd (List.eq_nil_of_length_eq_zero (by simpa using h3)) (by intro e; rw [e] at h0; simp at h0)
  · refine .inr ⟨h0, g, cap, cur, fz, rfl, h6, hg, fun j u hu => ?_⟩
    have hj := (List.getElem?_eq_some_iff.1 hu).1
    rw [iv_len] at hj
    rw [← h8.2, List.getElem?_take_of_lt (by omega), Array.getElem?_toList] at hu
    exact hu
/-- 'make([]int, 0, n)'. -/
theorem ints_make {ops : Array Oper} {rest : List Oper} {o : Oper} {a : Act} {Q : Exit → Act → World → Prop} {w : World} (hgd : o.guard = none) (l c : Operand) (hop : o.op = .makeSlice 38 l c)
    {B : Nat} (kl kc : IntKind) (C : Int) (n : Nat) (hl : a.eval l = .int kl 0) (hc : a.eval c = .int kc C) (hC : C = (n : Int)) (hn : n ≤ 10000000) (hB : B ≤ w.heap.size)
    (h : ∀ w', Ints B (.slice (some ⟨w.heap.size, 0, none⟩) 0 n) [] w' → Below w.heap.size w w' → wpList Tryd.prog ops Q rest (a.put o.dst (.slice (some ⟨w.heap.size, 0, none⟩) 0 n)) w') : wpList Tryd.prog ops Q (o :: rest) a w := by
  obtain ⟨i, hi, hz, h1, h2⟩ := info_parts int_info
  refine wpList_make_own w hgd l c 38 hop B 3 i (.int .i64 0) 1 Tryd.underlying38 hi hz h1 kl kc C n hl hc hC (by rw [h2]; omega) (by unfold maxLen; omega) hB fun w' r1 r2 => ?_
  have hb : Below w.heap.size w w' := (Below.refl _ _).grown r2 (Nat.le_refl _) (fun k hk => by cases hk)
  exact h _ ⟨World.ownsRowF_of r1, Nat.le_trans hB hb.size⟩ hb
theorem row_kept {A B : World} {k : Nat} {cs : Array Value} {T : TypeId} {fr : Nat × Nat} {row : Option Nat} (h : A.heap[k]? = some (.cells cs T fr)) (hg : A.grownBy B row) (hr : ∀ r, row = some r → ∃ o : Obj, A.heap[r]? = some o ∧ o.isCells = false) : B.heap[k]? = some (.cells cs T fr) := by
  refine (hg.block _ (Array.getElem?_eq_some_iff.1 h).1 fun e => ?_).trans h
  obtain ⟨o, ho, hc⟩ := hr k e.symm
  rw [h] at ho
  cases ho
  cases hc
theorem row_set {W : World} {k B : Nat} {cs : Array Value} {T : TypeId} {fr : Nat × Nat} (h : W.heap[k]? = some (.cells cs T fr)) (hne : k ≠ B) (v : Value) : (W.setCell ⟨B, 0, none⟩ v).heap[k]? = some (.cells cs T fr) :=
  ((grownBy_setCell' W B v).block _ (Array.getElem?_eq_some_iff.1 h).1 (fun e => hne (Option.some.inj e))).trans h
theorem keeps_below {A B : World} (h : Below A.heap.size A B) : KeepsOthers A B := ⟨h.size, fun k _ hk _ => (h.block k (Array.getElem?_eq_some_iff.1 hk).1).trans hk⟩
theorem bool_size : (Tryd.prog.info? 4).map (·.size) = some 1 := by kernel_rfl
end Go.Proofs.YtnnlfgfgfegjkaaDoor

/- At the wide fence one operation is walked as it is plainly. -/
namespace Go.Proofs.YtnnlfgfgfegjkaaDoor
open Go.RowKit Go.Shelf
set_option maxRecDepth 1000000
set_option linter.unusedSimpArgs false
attribute [local go_sem] Oper.semAt_some

/-- At the wide fence, too, one operation is walked as it is plainly. -/
theorem wp_in_wide {P : Program} {Q : Exit → Act → World → Prop} {n : Nat} {o : Oper} {a : Act} {w : World} {K : Act → World → Prop} (hd : ∀ c, o.op ≠ .defer c) (h : o.wp P a w K Q) : o.wpIn Fence.wide n P a w K Q := by
  unfold Oper.wpIn
  refine ⟨fun _ _ => trivial, ?_⟩
  rw [Oper.semAt_eq _ _ _ hd]
  unfold Oper.wp at h
  generalize (execOp a.eval o).run P w = r at h ⊢
  cases r with
  | ok x w' =>
    cases x with
    | value v => exact h
    | skip => exact h
    | defer d => exact h
    | enter f args => exact ⟨fun hh => by simp [Fence.wide] at hh, callsIn_wide.2 h⟩
    | row row args => exact ⟨fun hh => by simp [Fence.wide] at hh, fun c cs _ => by obtain ⟨v, w', r, s⟩ := h c cs; exact ⟨v, w', r, stepsIn_wide.2 s⟩⟩
    | _ => exact h.elim
  | halt x w' =>
    cases x with
    | panic v => exact h
    | _ => exact h.elim
theorem ld_wide {ops : Array Oper} {rest : List Oper} {o : Oper} {a : Act} {w : World} {Q : Exit → Act → World → Prop} {n : Nat} (hgd : o.guard = none) (ty : TypeId) (x : Operand) (ho : o.op = .load ty x)
    (X : Nat) (hx : a.eval x = .pointer (some ⟨X, 0, none⟩)) (T : TypeId) (c : Array Value) (fr : Nat × Nat) (d : TypeDesc) (hB : w.heap[X]? = some (.cells c T fr))
    (hu : Tryd.prog.underlying ty = some d) (hd : d.isRow = true) (hi : (Tryd.prog.info? ty).map (·.size) = some c.size)
    (h : wpListIn Fence.wide n Tryd.prog ops Q rest (a.put o.dst (.agg c)) w) : wpListIn Fence.wide n Tryd.prog ops Q (o :: rest) a w :=
  wpListIn_plain hgd fun _ hK => wp_in_wide (fun c' hc => by rw [ho] at hc; cases hc) (wp_load_row ty x ho X hx T c fr d hB hu (by cases d <;> simp_all [TypeDesc.isRow]) hi (hK _ _ h))
end Go.Proofs.YtnnlfgfgfegjkaaDoor

/- Regions that draw their order, at the wide fence (in an iterator that calls yield): after XRegionT and XRegionY, with 'wpOpIn Fence.wide' for 'wpOp'. -/
namespace Go.Proofs.YtnnlfgfgfegjkaaDoor
open Go.RowKit Go.Shelf

section
variable {P : Program} {md : Region.Mode} {ops : Array Oper} {Q : Exit → Act → World → Prop} {S : World → Prop} {U : List Nat} {n : Nat}
/-- Whatever order is picked, and S holds behind each operation that is none of U. -/
def wpAnyW (n : Nat) (P : Program) (md : Region.Mode) (ops : Array Oper) (Q : Exit → Act → World → Prop) (S : World → Prop) (U : List Nat) : Nat → Array Bool → Act → World → Prop
  | 0, listed, a, w => Region.ready md ops listed = [] ∧ Q .normal a w
  | fuel + 1, listed, a, w =>
    (Region.ready md ops listed = [] → Q .normal a w) ∧
    ∀ i ∈ Region.ready md ops listed, wpOpIn Fence.wide n P ops Q i (fun a' w' => (U.contains i = false → S w') ∧ wpAnyW n P md ops Q S U fuel (listed.setIfInBounds i true) a' w') a w
theorem wpAnyW_any : ∀ (fuel : Nat) (listed : Array Bool) (a : Act) (w : World), wpAnyW n P md ops Q S U fuel listed a w → wpAnyIn Fence.wide n P md ops Q fuel listed a w
  | 0, _, _, _, h => h
  | fuel + 1, _, _, _, h => ⟨h.1, fun i hi => wpOpIn_mono (fun a' w' h' => wpAnyW_any fuel _ a' w' h'.2) (h.2 i hi)⟩
/-- What may be taken first, be it a load or a call that computes only. -/
structure TakenW (n : Nat) (P : Program) (ops : Array Oper) (Q : Exit → Act → World → Prop) (S : World → Prop) (i : Nat) (oi : Oper) (v : Value) (Y : Act → Prop) : Prop where
  same : ∀ a a' : Act, Y a → execOp a'.eval oi = execOp a.eval oi → Region.wanted oi (yielded ops a'.tmps) = Region.wanted oi (yielded ops a.tmps) → Y a'
  step : ∀ (a : Act) (w : World) (K : Act → World → Prop), Y a → S w → K (a.put oi.dst v) w → wpOpIn Fence.wide n P ops Q i K a w
theorem wpOpW_put {i j : Nat} {oi oj : Oper} {v : Value} {Y : Act → Prop} (hT : TakenW n P ops Q S i oi v Y) (hj : ops[j]? = some oj) (hap : oi.apart ops oj = true)
    (hsi : ∀ cs b, oi.op ≠ .select cs b) (hsj : ∀ cs b, oj.op ≠ .select cs b)
    (hQ : ∀ c a w, Q (.panic c) (a.put oi.dst v) w → Q (.panic c) a w) {K : Act → World → Prop} {a : Act} {w : World}
    (hy : Y a) (h : wpOpIn Fence.wide n P ops Q j K (a.put oi.dst v) w) :
    wpOpIn Fence.wide n P ops Q j (fun a' w' => Y a' ∧ K (a'.put oi.dst v) w') a w := by
  obtain ⟨h1, h2, h3⟩ := Oper.apart_spec hap
  have keep : ∀ (a : Act), Y a → ∀ u, Y (a.put oj.dst u) := fun a hy u =>
    hT.same _ _ hy (execOp_put oi hsi a oj.dst u h3) (wanted_put oi a oj.dst u h3)
  have keepD : ∀ d, Y { a with defers := d :: a.defers } := fun d => hT.same _ _ hy rfl rfl
  unfold wpOpIn at *
  simp only [hj] at *
  rw [wanted_put oj a oi.dst v h1] at h
  split
  · rename_i hw
    simp only [hw, if_true] at h
    unfold Oper.wpIn at *
    refine ⟨fun _ _ => trivial, ?_⟩
    have h := h.2
    rw [show Fence.wide.round = none from rfl, Oper.semAt_none, execOp_put oj hsj a oi.dst v h1] at h
    rw [show Fence.wide.round = none from rfl, Oper.semAt_none]
    generalize (execOp a.eval oj).run P w = r at *
    cases r with
    | ok x w' =>
      cases x <;> simp only [Oper.uponIn] at h ⊢
      case value u => exact ⟨keep a hy u, by rw [← Act.put_comm a v u h2]; exact h⟩
      case skip => exact ⟨keep a hy _, by rw [← Act.put_comm a v undef h2]; exact h⟩
      case defer d =>
        refine ⟨keep _ (keepD d) _, ?_⟩
        rw [← Act.put_comm _ v undef h2, ← Act.put_defers]
        exact h
      case enter f args =>
        refine ⟨h.1, CallsIn.mono h.2 fun e w'' he => ?_⟩
        cases e with
        | returned u => exact ⟨keep a hy u, by rw [← Act.put_comm a v u h2]; exact he⟩
        | panicked c => exact hQ _ _ _ he
        | outgrown => exact he
      case row row args => exact ⟨h.1, RowsIn.mono h.2 fun u w'' he => ⟨keep a hy u, by rw [← Act.put_comm a v u h2]; exact he⟩⟩
      case round l f tmps assign body =>
        refine ⟨h.1, RoundIn.mono h.2 fun e w'' he => ?_⟩
        cases e with
        | returned u => exact ⟨keep a hy u, by rw [← Act.put_comm a v u h2]; exact he⟩
        | panicked c => exact hQ _ _ _ he
        | outgrown => exact he
    | halt x w' =>
      cases x <;> simp only [Oper.uponIn] at h ⊢
      case panic u => exact hQ _ _ _ h
  · rename_i hw
    simp only [hw] at h
    exact ⟨fun _ _ => trivial, keep a hy _, by rw [← Act.put_comm a v undef h2]; exact h.2⟩
theorem wpAnyW_first {i : Nat} {oi : Oper} {v : Value} {Y : Act → Prop} (hT : TakenW n P ops Q S i oi v Y) (hi : ops[i]? = some oi) (hsel : ∀ (j : Nat) (o : Oper) cs b, ops[j]? = some o → o.op ≠ .select cs b)
    (hQ : ∀ c a w, Q (.panic c) (a.put oi.dst v) w → Q (.panic c) a w) (hw : waitsFor md ops U i = true) :
    ∀ (fuel : Nat) (listed : Array Bool) (a : Act) (w : World),
      (∀ j oj, ops[j]? = some oj → j ≠ i → listed.getD j true = false → (∀ e ∈ oj.after, Region.binds md e = true → e.on ≠ i) → oi.apart ops oj = true) →
      Closed md ops listed → i ∈ Region.ready md ops listed → Y a → S w →
      wpAnyW n P md ops Q S U fuel (listed.setIfInBounds i true) (a.put oi.dst v) w → wpAnyW n P md ops Q S U (fuel + 1) listed a w := by
  intro fuel
  induction fuel with
  | zero =>
    intro listed a w _ _ hr hy hS H
    refine ⟨fun h => (by rw [h] at hr; cases hr), fun j hj => ?_⟩
    by_cases hji : j = i
    · subst hji; exact hT.step _ _ _ hy hS ⟨fun _ => hS, H⟩
    · have := ready_mono hj hji
      rw [H.1] at this
      cases this
  | succ fuel ih =>
    intro listed a w hfree hcl hr hy hS H
    refine ⟨fun h => (by rw [h] at hr; cases hr), fun j hj => ?_⟩
    by_cases hji : j = i
    · subst hji; exact hT.step _ _ _ hy hS ⟨fun _ => hS, H⟩
    · have h1 := H.2 j (ready_mono hj hji)
      obtain ⟨hjun, oj, hoj, hall⟩ := mem_ready.1 hj
      have hifalse : listed.getD i false = false := by
        have h0 := (mem_ready.1 hr).1
        rcases Nat.lt_or_ge i listed.size with h' | h'
        · simp [h'] at h0 ⊢; exact h0
        · simp [Array.getElem?_eq_none h']
      have hnot : ∀ e ∈ oj.after, Region.binds md e = true → e.on ≠ i := fun e he hb heq => by
        have h1 := hall e he hb
        rw [heq, hifalse] at h1
        cases h1
      have hnU : U.contains j = false := by
        cases hc : U.contains j with
        | false => rfl
        | true => exact (waits_ready hw hcl hifalse hc hj).elim
      have h2 := wpOpW_put hT hoj (hfree j oj hoj hji hjun hnot) (fun cs b => hsel i oi cs b hi) (fun cs b => hsel j oj cs b hoj) hQ hy h1
      have hfree' : ∀ k ok, ops[k]? = some ok → k ≠ i → (listed.setIfInBounds j true).getD k true = false →
          (∀ e ∈ ok.after, Region.binds md e = true → e.on ≠ i) → oi.apart ops ok = true := fun k ok hk hki hun hno => by
        refine hfree k ok hk hki ?_ hno
        by_cases hjk : j = k
        · subst hjk; exact hjun
        · rw [getD_set_ne true hjk] at hun; exact hun
      refine wpOpIn_mono (fun a' w' h3 => ⟨fun hc => h3.2.1 hc, ih (listed.setIfInBounds j true) a' w' hfree' (closed_set hcl hj) (ready_mono hr (Ne.symm hji)) h3.1 (h3.2.1 hnU) ?_⟩) h2
      rw [Array.setIfInBounds_comm _ _ hji]
      exact h3.2.2
theorem takenW_if {i : Nat} {oi : Oper} {v : Value} (hi : ops[i]? = some oi) : TakenW n P ops Q S i oi v (YieldsIf P ops S oi v) where
  same _ _ hy he hw := hy.of_same he hw
  step a w K hy hS h := by
    unfold wpOpIn
    simp only [hi]
    rcases hy with ⟨hw, hv⟩ | ⟨hw, rfl⟩
    · rw [if_pos hw]
      unfold Oper.wpIn
      refine ⟨fun _ _ => trivial, ?_⟩
      rw [show Fence.wide.round = none from rfl, Oper.semAt_none, hv w hS]
      exact h
    · rw [if_neg (by rw [hw]; simp)]
      exact ⟨fun _ _ => trivial, h⟩
theorem takenW_call {i : Nat} {oi : Oper} {v : Value} (hi : ops[i]? = some oi) : TakenW n P ops Q S i oi v (YieldsC P ops S oi v) where
  same _ _ hy he hw := hy.of_same he hw
  step a w K hy hS h := by
    obtain ⟨hw, hv⟩ := hy
    obtain ⟨f, args, hrun, hc⟩ := hv w hS
    unfold wpOpIn
    simp only [hi]
    rw [if_pos hw]
    unfold Oper.wpIn
    refine ⟨fun _ _ => trivial, ?_⟩
    rw [show Fence.wide.round = none from rfl, Oper.semAt_none, hrun]
    refine ⟨fun hh => by simp [Fence.wide] at hh, (callsIn_wide.2 hc).mono ?_⟩
    rintro e w' ⟨rfl, rfl⟩
    exact h
theorem wpAnyW_take {i : Nat} {oi : Oper} {v : Value} {fuel : Nat} {listed : Array Bool} {a : Act} {w : World} (hi : ops[i]? = some oi)
    (hs : Region.noSelect ops = true) (hf : Region.free md ops listed i = true) (hr : (Region.ready md ops listed).contains i = true) (hw : (waitsFor md ops U i && closedB md ops listed) = true)
    (hQ : ∀ c a w, Q (.panic c) (a.put oi.dst v) w → Q (.panic c) a w) (hy : YieldsIf P ops S oi v a) (hS : S w)
    (h : wpAnyW n P md ops Q S U fuel (listed.setIfInBounds i true) (a.put oi.dst v) w) : wpAnyW n P md ops Q S U (fuel + 1) listed a w :=
  wpAnyW_first (takenW_if hi) hi (Region.noSelect_spec hs) hQ (Bool.and_eq_true_iff.1 hw).1 fuel listed a w (Region.free_spec hi hf) (closed_of (Bool.and_eq_true_iff.1 hw).2) (by simpa using hr) hy hS h
theorem wpAnyW_takeC {i : Nat} {oi : Oper} {v : Value} {fuel : Nat} {listed : Array Bool} {a : Act} {w : World} (hi : ops[i]? = some oi)
    (hs : Region.noSelect ops = true) (hf : Region.free md ops listed i = true) (hr : (Region.ready md ops listed).contains i = true) (hw : (waitsFor md ops U i && closedB md ops listed) = true)
    (hQ : ∀ c a w, Q (.panic c) (a.put oi.dst v) w → Q (.panic c) a w) (hy : YieldsC P ops S oi v a) (hS : S w)
    (h : wpAnyW n P md ops Q S U fuel (listed.setIfInBounds i true) (a.put oi.dst v) w) : wpAnyW n P md ops Q S U (fuel + 1) listed a w :=
  wpAnyW_first (takenW_call hi) hi (Region.noSelect_spec hs) hQ (Bool.and_eq_true_iff.1 hw).1 fuel listed a w (Region.free_spec hi hf) (closed_of (Bool.and_eq_true_iff.1 hw).2) (by simpa using hr) hy hS h
theorem wpAnyW_done {listed : Array Bool} {a : Act} {w : World} (hr : Region.ready md ops listed = []) (h : Q .normal a w) :
    ∀ fuel, wpAnyW n P md ops Q S U fuel listed a w
  | 0 => ⟨hr, h⟩
  | _ + 1 => ⟨fun _ => h, by rw [hr]; simp⟩
theorem wpIn_region_W {id : Nat} {a : Act} {w : World} (U : List Nat) (hm : P.follows .mixedOrders = true) (hS : S w.drew)
    (h : S w.drew → wpAnyW n P .any ops Q S U ops.size (Array.replicate ops.size false) a w.drew) : (Code.region id ops true).wpIn Fence.wide n P Q a w :=
  wpIn_region_any hm (wpAnyW_any _ _ _ _ (h hS))
/-- The one operation that may come up, of U: S is not shown anew. -/
theorem wpAnyW_last {fuel : Nat} {listed : Array Bool} {a : Act} {w : World} {i : Nat} {o : Oper} (hr : Region.ready md ops listed = [i]) (hU : U.contains i = true) (ho : ops[i]? = some o)
    (h : ∀ K' : Act → World → Prop, Shut (∀ a w, wpAnyW n P md ops Q S U fuel (listed.setIfInBounds i true) a w → K' a w) → if Region.wanted o (yielded ops a.tmps) = true then Oper.wpIn Fence.wide n P o a w K' Q else (∀ f, o.about P w a.eval = some f → Fence.wide.fn f) ∧ K' (a.put o.dst undef) w) :
    wpAnyW n P md ops Q S U (fuel + 1) listed a w := by
  refine ⟨fun h0 => absurd (hr ▸ h0) (by simp), fun j hj => ?_⟩
  rw [hr] at hj
  obtain rfl : j = i := by simpa using hj
  exact wpOpIn_step ho (fun K' hK => h K' (fun a w hW => hK a w ⟨(fun hc => absurd (hU.symm.trans hc) (by decide)), hW⟩))
theorem wpAnyW_one {fuel : Nat} {listed : Array Bool} {a : Act} {w : World} {i : Nat} {o : Oper} (hr : Region.ready md ops listed = [i]) (ho : ops[i]? = some o)
    (h : ∀ K' : Act → World → Prop, Shut (∀ a w, S w → (S w → wpAnyW n P md ops Q S U fuel (listed.setIfInBounds i true) a w) → K' a w) → if Region.wanted o (yielded ops a.tmps) = true then Oper.wpIn Fence.wide n P o a w K' Q else (∀ f, o.about P w a.eval = some f → Fence.wide.fn f) ∧ K' (a.put o.dst undef) w) :
    wpAnyW n P md ops Q S U (fuel + 1) listed a w := by
  refine ⟨fun h0 => absurd (hr ▸ h0) (by simp), fun j hj => ?_⟩
  rw [hr] at hj
  obtain rfl : j = i := by simpa using hj
  exact wpOpIn_step ho (fun K' hK => h K' (fun a w hS hW => hK a w ⟨fun _ => hS, hW hS⟩))
end
end Go.Proofs.YtnnlfgfgfegjkaaDoor

/- Regions that draw their order: a group of operations that come up in any order, by what holds of those that have come up. -/
namespace Go.Proofs.YtnnlfgfgfegjkaaDoor
open Go.RowKit

section
variable {P : Program} {md : Region.Mode} {ops : Array Oper} {Q : Exit → Act → World → Prop} {S : World → Prop} {U : List Nat}
/-- These have come up, too. -/
def markG (listed : Array Bool) : List Nat → Array Bool
  | [] => listed
  | i :: m => (markG listed m).setIfInBounds i true
theorem markG_size (listed : Array Bool) : ∀ m, (markG listed m).size = listed.size
  | [] => rfl
  | i :: m => by rw [markG, Array.size_setIfInBounds, markG_size listed m]
theorem markG_get (listed : Array Bool) (k : Nat) : ∀ m, k ∉ m → (markG listed m).getD k false = listed.getD k false
  | [], _ => rfl
  | i :: m, h => by
    rw [List.mem_cons, not_or] at h
    rw [markG, getD_set_ne false (fun e => h.1 e.symm), markG_get listed k m h.2]
theorem markG_getT (listed : Array Bool) (k : Nat) : ∀ m, k ∉ m → (markG listed m).getD k true = listed.getD k true
  | [], _ => rfl
  | i :: m, h => by
    rw [List.mem_cons, not_or] at h
    rw [markG, getD_set_ne true (fun e => h.1 e.symm), markG_getT listed k m h.2]
theorem markG_in (listed : Array Bool) (k : Nat) : ∀ m, k ∈ m → (markG listed m).getD k true = true
  | i :: m, h => by
    rw [markG]
    by_cases hk : i = k
    · subst hk
      rw [Array.getD_eq_getD_getElem?, Array.getElem?_setIfInBounds_self]
      split <;> rfl
    · rw [getD_set_ne true hk]
      exact markG_in listed k m ((List.mem_cons.1 h).resolve_left fun e => hk e.symm)
theorem markG_congr (listed : Array Bool) {m m' : List Nat} (h : ∀ k, k ∈ m ↔ k ∈ m') : markG listed m = markG listed m' := by
  apply Array.ext
  · rw [markG_size, markG_size]
  · intro k h1 h2
    have e : ∀ (a : Array Bool) (h : k < a.size), a[k] = a.getD k true := fun a h => by simp [h]
    rw [e, e]
    by_cases hk : k ∈ m
    · rw [markG_in listed k m hk, markG_in listed k m' ((h k).1 hk)]
    · rw [markG_getT listed k m hk, markG_getT listed k m' (fun h' => hk ((h k).2 h'))]
def subsG : List Nat → List (List Nat)
  | [] => [[]]
  | x :: xs => subsG xs ++ (subsG xs).map (x :: ·)
theorem filter_subsG (p : Nat → Bool) : ∀ G : List Nat, G.filter p ∈ subsG G
  | [] => by simp [subsG]
  | x :: xs => by
    rw [subsG, List.mem_append, List.mem_map, List.filter_cons]
    by_cases h : p x = true
    · rw [if_pos h]; exact .inr ⟨_, filter_subsG p xs, rfl⟩
    · rw [if_neg h]; exact .inl (filter_subsG p xs)
/-- Operation i waits for operation j. -/
def waitsG (md : Region.Mode) (ops : Array Oper) (i j : Nat) : Bool := match ops[i]? with | some o => o.after.any (fun e => Region.binds md e && e.on == j) | none => false
/-- These have come up with all of the group that they wait for. -/
def closedG (md : Region.Mode) (ops : Array Oper) (G m : List Nat) : Bool := m.all fun i => G.all fun j => !waitsG md ops i j || m.contains j
/-- Till all of the group have come up, one of the group may come up next, and no other operation. -/
def groupOk (md : Region.Mode) (ops : Array Oper) (listed : Array Bool) (G U : List Nat) : Bool :=
  decide G.Nodup && G.all (fun i => !U.contains i && !listed.getD i false) &&
  (subsG G).all fun m => !closedG md ops G m || m.length == G.length || (!(Region.ready md ops (markG listed m)).isEmpty && (Region.ready md ops (markG listed m)).all G.contains)
theorem group_len {G m : List Nat} {i : Nat} (hnd : G.Nodup) (hi : i ∈ G) (hm : i ∉ m) : (G.filter fun k => !(i :: m).contains k).length + 1 = (G.filter fun k => !m.contains k).length := by
  induction G with
  | nil => cases hi
  | cons x xs ih =>
    rw [List.nodup_cons] at hnd
    by_cases hx : x = i
    · subst hx
      have e : (xs.filter fun k => !(x :: m).contains k) = xs.filter fun k => !m.contains k := by
        apply List.filter_congr
        intro k hk
        have : k ≠ x := fun e => hnd.1 (e ▸ hk)
        simp [this]
      rw [List.filter_cons, List.filter_cons, if_neg (by simp), if_pos (by simpa using hm), e, List.length_cons]
    · have hi' := (List.mem_cons.1 hi).resolve_left fun e => hx e.symm
      have := ih hnd.2 hi'
      rw [List.filter_cons, List.filter_cons]
      by_cases hxm : x ∈ m
      · rw [if_neg (by simp [hxm]), if_neg (by simpa using hxm)]; exact this
      · rw [if_pos (by simp [hxm, hx]), if_pos (by simpa using hxm), List.length_cons, List.length_cons]; omega
theorem wpAnyT_group (G : List Nat) (I : List Nat → Act → World → Prop) {n fuel : Nat} {listed : Array Bool} {a : Act} {w : World} (hf : fuel = n + G.length) (hG : groupOk md ops listed G U = true)
    (h0 : I [] a w) (hS : S w)
    (hstep : ∀ (m : List Nat) (i : Nat) (a : Act) (w : World), i ∈ G → i ∉ m → (∀ j, G.contains j = true → waitsG md ops i j = true → j ∈ m) → I m a w → S w → wpOp P ops Q i (fun a' w' => S w' ∧ I (i :: m) a' w') a w)
    (hdone : ∀ (m : List Nat) (a : Act) (w : World), (∀ j, G.contains j = true → j ∈ m) → I m a w → S w → wpAnyT P md ops Q S U n (markG listed G) a w) :
    wpAnyT P md ops Q S U fuel listed a w := by
  unfold groupOk at hG
  rw [Bool.and_eq_true, Bool.and_eq_true, decide_eq_true_iff, List.all_eq_true, List.all_eq_true] at hG
  obtain ⟨⟨hnd, hout⟩, hall⟩ := hG
  have key : ∀ (r : Nat) (m : List Nat) (a : Act) (w : World), (G.filter fun k => !m.contains k).length = r → (∀ k ∈ m, k ∈ G) → (∀ i ∈ m, ∀ j ∈ G, waitsG md ops i j = true → j ∈ m) → I m a w → S w → wpAnyT P md ops Q S U (n + r) (markG listed m) a w := by
    intro r
    induction r with
    | zero =>
      intro m a w hr hsub hcl hI hS
      have hin : ∀ j ∈ G, j ∈ m := fun j hj => by
        have := List.eq_nil_of_length_eq_zero hr
        rw [List.filter_eq_nil_iff] at this
        have := this j hj
        simpa using this
      rw [markG_congr listed (m := m) (m' := G) fun k => ⟨hsub k, hin k⟩]
      exact hdone m a w (fun j hj => hin j (by simpa using hj)) hI hS
    | succ r ih =>
      intro m a w hr hsub hcl hI hS
      have hm' := hall _ (filter_subsG (fun k => m.contains k) G)
      have hne : (G.filter fun k => m.contains k).length ≠ G.length := fun e => by
        have h1 := List.length_filter_eq_length_iff.1 e
        have h2 : (G.filter fun k => !m.contains k) = [] := by
          rw [List.filter_eq_nil_iff]
          intro k hk
          have := h1 k hk
          rw [this]; simp
        rw [h2] at hr
        simp at hr
      have hclF : closedG md ops G (G.filter fun k => m.contains k) = true := by
        unfold closedG
        rw [List.all_eq_true]
        intro i hi
        rw [List.all_eq_true]
        intro j hj
        rw [List.mem_filter] at hi
        cases hwt : waitsG md ops i j with
        | false => rfl
        | true =>
          have := hcl i (by simpa using hi.2) j hj hwt
          simp [hj, this]
      rw [hclF, Bool.or_eq_true, Bool.or_eq_true, beq_iff_eq, Bool.and_eq_true, List.all_eq_true] at hm'
      have hm2 := hm'.resolve_left (fun h => h.elim (fun h => by cases h) hne)
      rw [markG_congr listed (m := G.filter fun k => m.contains k) (m' := m) fun k => ⟨fun h => by simpa using (List.mem_filter.1 h).2, fun h => List.mem_filter.2 ⟨hsub k h, by simpa using h⟩⟩] at hm2
      refine ⟨fun h => (by rw [h] at hm2; simp at hm2), fun i hi => ?_⟩
      have hiG : i ∈ G := by simpa using hm2.2 i hi
      obtain ⟨hun, o, ho, hdep⟩ := mem_ready.1 hi
      have him : i ∉ m := fun h => by rw [markG_in listed i m h] at hun; cases hun
      have hw : ∀ j, G.contains j = true → waitsG md ops i j = true → j ∈ m := fun j hj hwj => by
        unfold waitsG at hwj
        rw [ho] at hwj
        simp only at hwj
        rw [Array.any_eq_true] at hwj
        obtain ⟨k, hk, h2⟩ := hwj
        rw [Bool.and_eq_true, beq_iff_eq] at h2
        have h3 := hdep _ (Array.getElem_mem hk) h2.1
        rw [h2.2] at h3
        refine Classical.byContradiction fun hjm => ?_
        rw [markG_get listed j m hjm] at h3
        have h4 := hout j (by simpa using hj)
        rw [h3] at h4
        simp at h4
      refine wpOp_mono (fun a' w' h => ⟨fun _ => h.1, ih (i :: m) a' w' ?_ ?_ ?_ h.2 h.1⟩) (hstep m i a w hiG him hw hI hS)
      · have := group_len hnd hiG him
        omega
      · intro k hk
        rcases List.mem_cons.1 hk with rfl | hk
        · exact hiG
        · exact hsub k hk
      · intro k hk j hj hwk
        rcases List.mem_cons.1 hk with rfl | hk
        · exact List.mem_cons_of_mem _ (hw j (by simpa using hj) hwk)
        · exact List.mem_cons_of_mem _ (hcl k hk j hj hwk)
  have h := key _ [] a w rfl (fun k hk => by cases hk) (fun k hk => by cases hk) h0 hS
  have e : (G.filter fun k => !([] : List Nat).contains k) = G := by
    rw [List.filter_eq_self]
    intro k _
    simp
  rw [e] at h
  rw [hf]
  exact h
/-- .. where what holds may name the action that the group begins with. -/
theorem wpAnyT_groupA (G : List Nat) (I : Act → List Nat → Act → World → Prop) {n fuel : Nat} {listed : Array Bool} {a : Act} {w : World} (hf : fuel = n + G.length) (hG : groupOk md ops listed G U = true)
    (h0 : I a [] a w) (hS : S w)
    (hstep : ∀ (m : List Nat) (i : Nat) (b : Act) (w : World), i ∈ G → i ∉ m → (∀ j, G.contains j = true → waitsG md ops i j = true → j ∈ m) → I a m b w → S w → wpOp P ops Q i (fun a' w' => S w' ∧ I a (i :: m) a' w') b w)
    (hdone : ∀ (m : List Nat) (b : Act) (w : World), (∀ j, G.contains j = true → j ∈ m) → I a m b w → S w → wpAnyT P md ops Q S U n (markG listed G) b w) :
    wpAnyT P md ops Q S U fuel listed a w := wpAnyT_group G (I a) hf hG h0 hS hstep hdone
/-- The values of a group's operations, one more. -/
def updV (val : Nat → Value) (i : Nat) (v : Value) (k : Nat) : Value := if k = i then v else val k
theorem updV_at (val : Nat → Value) (i : Nat) (v : Value) : updV val i v i = v := if_pos rfl
theorem updV_ne (val : Nat → Value) {i k : Nat} (v : Value) (h : k ≠ i) : updV val i v k = val k := if_neg h
/-- Of the group's operations m have come up: the variables among them are made, and hold z; the others hand back what R says. -/
structure Gr {α : Type} (R : World → Value → α → Prop) (T : TypeId) (z : Array Value) (vars : List Nat) (gots : List (Nat × α)) (Wb V : World) (m : List Nat) (val : Nat → Value) : Prop where
  bel : Below Wb.heap.size Wb V
  made : ∀ i ∈ vars, i ∈ m → ∃ x, val i = .pointer (some ⟨x, 0, none⟩) ∧ Wb.heap.size ≤ x ∧ V.heap[x]? = some (.cells z T (0, 0))
  got : ∀ g ∈ gots, g.1 ∈ m → R V (val g.1) g.2
  apart : ∀ i ∈ vars, ∀ j ∈ vars, i ∈ m → j ∈ m → i ≠ j → val i ≠ val j
section
variable {α : Type} {R : World → Value → α → Prop} {T : TypeId} {z : Array Value} {vars : List Nat} {gots : List (Nat × α)} {Wb V V' : World} {m : List Nat} {val : Nat → Value}
theorem Gr.start (Wb : World) : Gr R T z vars gots Wb Wb [] val := ⟨Below.refl _ _, fun _ _ h => (by cases h), fun _ _ h => (by cases h), fun _ _ _ _ h => (by cases h)⟩
theorem Gr.call (hR : ∀ A B v x, R A v x → Below A.heap.size A B → R B v x) (h : Gr R T z vars gots Wb V m val) (hb : Below V.heap.size V V') {i : Nat} {v : Value} (hi : ∀ j ∈ vars, j ≠ i) (hg : ∀ g ∈ gots, g.1 = i → R V' v g.2) :
    Gr R T z vars gots Wb V' (i :: m) (updV val i v) := by
  refine ⟨h.bel.trans (hb.mono h.bel.size), fun j hj hm => ?_, fun g hgg hm => ?_, fun j hj k hk hjm hkm hne => ?_⟩
  · have hji := hi j hj
    obtain ⟨x, h1, h2, h3⟩ := h.made j hj ((List.mem_cons.1 hm).resolve_left hji)
    exact ⟨x, (updV_ne val v hji).trans h1, h2, (hb.block _ (Array.getElem?_eq_some_iff.1 h3).1).trans h3⟩
  · by_cases e : g.1 = i
    · have h1 := hg g hgg e
      rw [e, updV_at]
      exact h1
    · rw [updV_ne val v e]
      exact hR _ _ _ _ (h.got g hgg ((List.mem_cons.1 hm).resolve_left e)) hb
  · rw [updV_ne val v (hi j hj), updV_ne val v (hi k hk)]
    exact h.apart j hj k hk ((List.mem_cons.1 hjm).resolve_left (hi j hj)) ((List.mem_cons.1 hkm).resolve_left (hi k hk)) hne
theorem Gr.alloc (hR : ∀ A B v x, R A v x → Below A.heap.size A B → R B v x) (h : Gr R T z vars gots Wb V m val) {i : Nat} (hg : ∀ g ∈ gots, g.1 ≠ i) :
    Gr R T z vars gots Wb (V.alloc (.cells z T)) (i :: m) (updV val i (.pointer (some ⟨V.heap.size, 0, none⟩))) := by
  have hb := Below.newly' V (.cells z T)
  have hlt : ∀ j ∈ vars, j ∈ m → val j ≠ .pointer (some ⟨V.heap.size, 0, none⟩) := fun j hj hm e => by
    obtain ⟨x, h1, _, h3⟩ := h.made j hj hm
    rw [h1] at e
    simp only [Value.pointer.injEq, Option.some.injEq, Addr.mk.injEq] at e
    have := (Array.getElem?_eq_some_iff.1 h3).1
    omega
  refine ⟨h.bel.trans (hb.mono h.bel.size), fun j hj hm => ?_, fun g hgg hm => ?_, fun j hj k hk hjm hkm hne => ?_⟩
  · by_cases e : j = i
    · rw [e, updV_at]
      exact ⟨_, rfl, h.bel.size, heap_alloc_last _ _⟩
    · rw [updV_ne val _ e]
      obtain ⟨x, h1, h2, h3⟩ := h.made j hj ((List.mem_cons.1 hm).resolve_left e)
      exact ⟨x, h1, h2, (hb.block _ (Array.getElem?_eq_some_iff.1 h3).1).trans h3⟩
  · rw [updV_ne val _ (hg g hgg)]
    exact hR _ _ _ _ (h.got g hgg ((List.mem_cons.1 hm).resolve_left (hg g hgg))) hb
  · by_cases e : j = i
    · have hk2 : k ≠ i := fun e' => hne (e.trans e'.symm)
      rw [e, updV_at, updV_ne val _ hk2]
      exact (hlt k hk ((List.mem_cons.1 hkm).resolve_left hk2)).symm
    · by_cases e' : k = i
      · rw [e', updV_at, updV_ne val _ e]
        exact hlt j hj ((List.mem_cons.1 hjm).resolve_left e)
      · rw [updV_ne val _ e, updV_ne val _ e']
        exact h.apart j hj k hk ((List.mem_cons.1 hjm).resolve_left e) ((List.mem_cons.1 hkm).resolve_left e') hne
end
/-- A step of a group, as the walk's words want it. -/
theorem group_one {i : Nat} {o : Oper} {I : Act → World → Prop} {a : Act} {w : World} (ho : ops[i]? = some o)
    (h : ∀ K' : Act → World → Prop, Shut (∀ a w, S w → I a w → K' a w) → if Region.wanted o (yielded ops a.tmps) = true then Oper.wp P o a w K' Q else K' (a.put o.dst undef) w) : wpOp P ops Q i (fun a' w' => S w' ∧ I a' w') a w :=
  wpOp_step ho (fun K' hK => h K' (fun a w hS hI => hK a w ⟨hS, hI⟩))
end
end Go.Proofs.YtnnlfgfgfegjkaaDoor

/- In a round of a range over a function: what is walked plainly of a region that draws its order holds there, too; variables of many cells, read and written there. -/
namespace Go.Proofs.YtnnlfgfgfegjkaaDoor
open Go.RowKit
set_option linter.unusedSimpArgs false

section
variable {P : Program} {md : Region.Mode} {ops : Array Oper} {Q : Exit → Act → World → Prop}
theorem rows_wide {F : Fence} {n l : Nat} (hF : F = Fence.wide.inRound l) {row : String} {args : Array Value} {w : World} {R : Value → World → Prop} (h : Rows P row args w R) : RowsIn F n P row args w R := fun c cs _ => by
  subst hF
  obtain ⟨v, w', r, s⟩ := h c cs
  exact ⟨v, w', r, stepsIn_wide.2 s⟩
theorem wp_in_round {n l : Nat} {o : Oper} {a : Act} {w : World} {K : Act → World → Prop} (hd : ∀ c, o.op ≠ .defer c) (h : o.wp P a w K Q) : o.wpIn (Fence.wide.inRound l) n P a w K Q := by
  unfold Oper.wpIn
  refine ⟨fun _ _ => trivial, ?_⟩
  rw [Oper.semAt_eq _ _ _ hd]
  unfold Oper.wp at h
  generalize (execOp a.eval o).run P w = r at h ⊢
  cases r with
  | ok x w' =>
    cases x with
    | value v => exact h
    | skip => exact h
    | defer d => exact h
    | enter f args => exact ⟨fun hh => by simp [Fence.wide] at hh, CallsIn.inRound l (callsIn_wide.2 h)⟩
    | row row args => exact ⟨fun hh => by simp [Fence.wide] at hh, rows_wide rfl h⟩
    | _ => exact h.elim
  | halt x w' =>
    cases x with
    | panic v => exact h
    | _ => exact h.elim
theorem wpOp_in {n l i : Nat} {a : Act} {w : World} {K : Act → World → Prop} (hd : ∀ (j : Nat) (o : Oper), ops[j]? = some o → ∀ c, o.op ≠ .defer c) (hq : ¬ LetsOut Q) (h : wpOp P ops Q i K a w) : wpOpIn (Fence.wide.inRound l) n P ops Q i K a w := by
  unfold wpOp at h
  unfold wpOpIn
  cases ho : ops[i]? with
  | none => rw [ho] at h; exact h
  | some o =>
    rw [ho] at h
    simp only at h ⊢
    split at h
    · rename_i hw
      rw [if_pos hw]
      rcases h with h | h
      · exact wp_in_round (hd i o ho) h
      · exact absurd h.2 hq
    · rename_i hw
      rw [if_neg hw]
      exact ⟨fun _ _ => trivial, h⟩
theorem wpAny_in {n l : Nat} (hd : ∀ (j : Nat) (o : Oper), ops[j]? = some o → ∀ c, o.op ≠ .defer c) (hq : ¬ LetsOut Q) :
    ∀ (fuel : Nat) (listed : Array Bool) (a : Act) (w : World), wpAny P md ops Q fuel listed a w → wpAnyIn (Fence.wide.inRound l) n P md ops Q fuel listed a w
  | 0, _, _, _, h => h
  | fuel + 1, listed, a, w, h => ⟨h.1, fun i hi => by
      have := wpOp_in (n := n) (l := l) hd hq (h.2 i hi)
      refine wpOpIn_mono (fun a' w' h' => ?_) this
      exact wpAny_in hd hq fuel _ a' w' h'⟩
/-- No operation of these is a deferred call. -/
def noDefer (ops : Array Oper) : Bool := ops.toList.all fun o => match o.op with | .defer _ => false | _ => true
theorem no_defer (h : noDefer ops = true) : ∀ (j : Nat) (o : Oper), ops[j]? = some o → ∀ c, o.op ≠ .defer c := by
  intro j o ho c hc
  unfold noDefer at h
  rw [List.all_eq_true] at h
  have := h o (by rw [← Array.getElem?_toList] at ho; exact List.mem_of_getElem? ho)
  rw [hc] at this
  cases this
theorem region_T_in {S : World → Prop} {n l id : Nat} {a : Act} {w : World} (U : List Nat) (hm : P.follows .mixedOrders = true) (hd : noDefer ops = true) (hq : ¬ LetsOut Q) (hS : S w.drew)
    (h : S w.drew → wpAnyT P .any ops Q S U ops.size (Array.replicate ops.size false) a w.drew) : (Code.region id ops true).wpIn (Fence.wide.inRound l) n P Q a w :=
  wpIn_region_any hm (wpAny_in (no_defer hd) hq _ _ _ _ (wpAnyT_any _ _ _ _ (h hS)))
/-- One operation of a round, as it is walked plainly. -/
theorem list_in {n l : Nat} {rest : List Oper} {o : Oper} {a : Act} {w : World} (hgd : o.guard = none) (hd : ∀ c, o.op ≠ .defer c)
    (h : ∀ K : Act → World → Prop, (∀ a w, wpListIn (Fence.wide.inRound l) n P ops Q rest a w → K a w) → o.wp P a w K Q) : wpListIn (Fence.wide.inRound l) n P ops Q (o :: rest) a w :=
  wpListIn_plain hgd fun K hK => wp_in_round hd (h K hK)
end
/-- A struct or an array is read whole out of a variable. -/
theorem ld_in {ops : Array Oper} {rest : List Oper} {o : Oper} {a : Act} {w : World} {Q : Exit → Act → World → Prop} {n l : Nat} (hgd : o.guard = none) (ty : TypeId) (x : Operand) (ho : o.op = .load ty x)
    (X : Nat) (hx : a.eval x = .pointer (some ⟨X, 0, none⟩)) (T : TypeId) (c : Array Value) (fr : Nat × Nat) (d : TypeDesc) (hB : w.heap[X]? = some (.cells c T fr))
    (hu : Tryd.prog.underlying ty = some d) (hd : d.isRow = true) (hi : (Tryd.prog.info? ty).map (·.size) = some c.size)
    (h : wpListIn (Fence.wide.inRound l) n Tryd.prog ops Q rest (a.put o.dst (.agg c)) w) : wpListIn (Fence.wide.inRound l) n Tryd.prog ops Q (o :: rest) a w :=
  list_in hgd (fun c' hc => by rw [ho] at hc; cases hc) fun _ hK => wp_load_row ty x ho X hx T c fr d hB hu (by cases d <;> simp_all [TypeDesc.isRow]) hi (hK _ _ h)
end Go.Proofs.YtnnlfgfgfegjkaaDoor

/- A range over a function whose iterator keeps two boxes of its own (yield's, and a count) at the first two blocks that it lays: what such an iterator gives, and what the statement that ranges over it owes. -/
namespace Go.Proofs.YtnnlfgfgfegjkaaDoor
open Go.RowKit Go.Shelf
set_option linter.unusedSimpArgs false

/-- All blocks of cells of this type are kept. -/
def TK (T : TypeId) (A B : World) : Prop := ∀ (k : Nat) (cs : Array Value) (fr : Nat × Nat), A.heap[k]? = some (.cells cs T fr) → B.heap[k]? = some (.cells cs T fr)
theorem TK.refl (T : TypeId) (A : World) : TK T A A := fun _ _ _ h => h
theorem TK.trans {T : TypeId} {A B C : World} (h : TK T A B) (k : TK T B C) : TK T A C := fun i cs fr e => k i cs fr (h i cs fr e)
theorem TK.below {T : TypeId} {A B : World} (h : Below A.heap.size A B) : TK T A B := fun k _ _ e => (h.block k (Array.getElem?_eq_some_iff.1 e).1).trans e
theorem TK.grown {T : TypeId} {A B : World} {row : Option Nat} (h : A.grownBy B row) (hT : ∀ X, row = some X → ∀ cs fr, A.heap[X]? ≠ some (.cells cs T fr)) : TK T A B := fun k cs fr e => (h.block k (Array.getElem?_eq_some_iff.1 e).1 (fun e' => hT k e'.symm cs fr e)).trans e
/-- What a round keeps that goes on: what lay below n₀, the iterator's two boxes, and all blocks of cells of one type. -/
def KS (T : TypeId) (n₀ Y : Nat) (A B : World) : Prop := Below n₀ A B ∧ B.heap[Y]? = A.heap[Y]? ∧ B.heap[Y + 1]? = A.heap[Y + 1]? ∧ TK T A B
theorem KS.trans {T : TypeId} {n₀ Y : Nat} {A B C : World} (h : KS T n₀ Y A B) (k : KS T n₀ Y B C) : KS T n₀ Y A C := ⟨h.1.trans k.1, k.2.1.trans h.2.1, k.2.2.1.trans h.2.2.1, h.2.2.2.trans k.2.2.2⟩
theorem yield_any {m m' l : Nat} {P : Program} {args : Array Value} {W : World} {R : Ending → World → Prop} (h : YieldAt Fence.wide m P l args W R) : YieldAt Fence.wide m' P l args W R := by
  obtain ⟨fn, tmps, assign, body, hy, hR⟩ := h
  exact ⟨fn, tmps, assign, body, hy, hR.1, fun c cs _ => hR.2 c cs (fun d h => by cases h)⟩
/-- Goes through S's lists, or stops at one of Sp's; J: what the caller keeps between two rounds, whatever is written into the count's box. -/
def IterState {α : Type} (T : TypeId) (P : Program) (gf : Nat) (lb : Array Value) (encs : α → Array Value) (n₀ : Nat) (S Sp : List α → Prop) (N : Nat) (w0 : World) : Prop :=
  ∀ (l : Nat) (J Jx : List α → World → Prop) (W : World), Below w0.heap.size w0 W →
    (∀ s A B, J s A → Below A.heap.size A B → J s B) → (∀ s A v, J s A → W.heap.size + 1 < A.heap.size → J s (A.setCell ⟨W.heap.size + 1, 0, none⟩ v)) →
    (∀ m pre x V, J pre V → W.heap.size + 2 ≤ V.heap.size → pre.length < N → YieldAt Fence.wide m P l (encs x) V fun e V' =>
      (e = .returned (.bool true) ∧ J (pre ++ [x]) V' ∧ KS T n₀ W.heap.size V V') ∨ (e = .returned (.bool false) ∧ Jx (pre ++ [x]) V')) →
    J [] W → ∀ m, CallsIn Fence.wide m P gf (#[.func (.yield l) #[] #[]] ++ lb) W fun e W' => (∃ v, e = .returned v) ∧ ((∃ ys, S ys ∧ J ys W') ∨ (∃ pre, Sp pre ∧ Jx pre W'))
theorem ks_put {T : TypeId} {n₀ Y : Nat} {W : World} {l : Nat} {o o' : Obj} (h : W.heap[l]? = some o) (ho : o.isCells = false) (hn : n₀ ≤ l) (h1 : l < Y) : KS T n₀ Y W (W.putObj l o') :=
  ⟨(Below.refl n₀ W).grown (grownBy_putObj' W l o') (by have := (Array.getElem?_eq_some_iff.1 h).1; omega) (fun k e => by cases e; omega), World.putObj_heap_other (by omega), World.putObj_heap_other (by omega), TK.grown (grownBy_putObj' W l o') (fun X e cs fr h' => by cases e; rw [h] at h'; cases h'; cases ho)⟩

theorem range_resolves {P : Program} {g : Operand} {a : Act} {gf : Nat} {lb : Array Value} (hg : a.eval g = .func (.func gf) #[] lb) (l : Nat) (V : World) :
    (resolve a.eval (rangeCall g l) 0).run P V = .ok { target := .fn (.func gf) lb, args := #[.func (.yield l) #[] #[]] } V := by
  simp only [resolve, hg]
  simp [go_sem]
theorem range_enters {P : Program} {gf : Nat} {lb : Array Value} (eg : ∀ args w, (callFunc gf args).run P w = .ok (.enter gf args) w) (args : Array Value) (V : World) :
    (invoke (.fn (.func gf) lb) args).run P V = .ok (.enter gf (args ++ lb)) V := by
  simp [invoke, go_sem, eg]
set_option maxHeartbeats 400000 in
theorem wpIn_range_state {α : Type} {T : TypeId} {P : Program} {n n₀ : Nat} {g : Operand} {ps : Array Tmp} {assign body : Code} {Q : Exit → Act → World → Prop} {a : Act} {w : World} (hn₀ : n₀ ≤ w.heap.size)
    {gf : Nat} {lb : Array Value} (hg : a.eval g = .func (.func gf) #[] lb) (eg : ∀ args w, (callFunc gf args).run P w = .ok (.enter gf args) w)
    {encs : α → Array Value} {S Sp : List α → Prop} {N : Nat} (hseq : IterState T P gf lb encs n₀ S Sp N w) (hps : ∀ x, (encs x).size = ps.size)
    (I : List α → World → Prop) (Ix : Code → List α → World → Prop) (hI : OwnFrom w.heap.size I) (hIx : ∀ c, OwnFrom w.heap.size (Ix c))
    (hIS : ∀ s A v, I s A → w.heap.size + 3 < A.heap.size → I s (A.setCell ⟨w.heap.size + 3, 0, none⟩ v)) (h0 : I [] w) (a₁ : α → Act)
    (hassign : ∀ (l : Nat) (x : α) (W : World) (K : Act → World → Prop), K (a₁ x) W →
      assign.wpIn (Fence.wide.inRound l) n P (Exit.then K (fun _ _ _ => False)) { tmps := (ps.zip (encs x)).foldl (fun t (p, v) => t.setIfInBounds p v) a.tmps, defers := [] } W)
    (hbody : ∀ (l : Nat) (pre : List α) (x : α) (W : World), w.heap.size + 4 ≤ W.heap.size → I pre W → pre.length < N → body.wpIn (Fence.wide.inRound l) n P (ownPostG w.heap.size (KS T n₀ (w.heap.size + 2)) I Ix (pre ++ [x]) W) (a₁ x) W)
    (hdone : ∀ (xs : List α) (W : World), S xs → I xs W → W.heap[w.heap.size]? = some (.deferred (some [])) → Q .normal { a with defers := { target := .collected w.heap.size, args := #[] } :: a.defers } W)
    (hstop : ∀ (c : Code) (pre : List α) (W : World), Sp pre → Ix c pre W → W.heap[w.heap.size]? = some (.deferred (some [])) → c.wpIn Fence.wide n P Q { a with defers := { target := .collected w.heap.size, args := #[] } :: a.defers } W) :
    (Code.rangeFunc g ps assign body).wpIn Fence.wide n P Q a w := by
  refine wpIn_rangeFunc fun fn hfn => ?_
  rw [show Fence.wide.round = none from rfl]
  -- the loop's record, by its state and its pending jump
  obtain ⟨rec, hrec⟩ : ∃ rec : LoopState → Option Code → Loop, rec = fun st pe => { state := st, pending := pe, fn, tmps := a.tmps, params := ps, assign, body, defers := w.heap.size } := ⟨_, rfl⟩
  obtain ⟨V0, hV0⟩ : ∃ V0, V0 = (w.alloc (.deferred (some []))).alloc (.loop (rec .ready none)) := ⟨_, rfl⟩
  have hsz : V0.heap.size = w.heap.size + 2 := by rw [hV0]; simp
  have hrow : V0.heap[w.heap.size + 1]? = some (.loop (rec .ready none)) := by
    have h := World.alloc_heap_new (w.alloc (.deferred (some []))) (.loop (rec .ready none))
    rwa [World.size_alloc, ← hV0] at h
  have hdef : V0.heap[w.heap.size]? = some (.deferred (some [])) := by
    rw [hV0]; exact (Below.heap_alloc _ _ _ (by simp)).trans (World.alloc_heap_new w _)
  have hbl : Below w.heap.size w V0 := by rw [hV0]; exact Below.more (Below.newly' _ _) _
  have hI0 : I [] V0 := by rw [hV0]; exact hI.alloc _ (hI.alloc _ h0)
  -- what J says beside I
  obtain ⟨bk, hbk⟩ : ∃ bk : Loop → World → Prop, bk = fun r V => V.heap[w.heap.size + 1]? = some (.loop r) ∧ V.heap[w.heap.size]? = some (.deferred (some [])) := ⟨_, rfl⟩
  have bk_block : ∀ {r : Loop} {A B : World}, bk r A → B.heap[w.heap.size + 1]? = A.heap[w.heap.size + 1]? → B.heap[w.heap.size]? = A.heap[w.heap.size]? → bk r B := fun h h1 h2 => by
    rw [hbk] at h ⊢
    exact ⟨h1.trans h.1, h2.trans h.2⟩
  have bk_lt : ∀ {r : Loop} {A : World}, bk r A → w.heap.size + 1 < A.heap.size := fun h => by
    rw [hbk] at h
    exact (Array.getElem?_eq_some_iff.1 h.1).1
  have bk_put : ∀ {r r' : Loop} {A : World}, bk r A → bk r' (A.putObj (w.heap.size + 1) (.loop r')) := fun h => by
    have hlt := bk_lt h
    rw [hbk] at h ⊢
    exact ⟨World.putObj_heap_same hlt, (World.putObj_heap_other (by omega)).trans h.2⟩
  have bk_keep : ∀ {r : Loop} {A B : World}, bk r A → KeepsFrom w.heap.size A B → bk r B := fun h k => by
    rw [hbk] at h ⊢
    exact ⟨k.same _ _ (by omega) h.1 rfl, k.same _ _ (Nat.le_refl _) h.2 rfl⟩
  have hrun : CallsIn Fence.wide (n - 1) P gf (#[.func (.yield (w.heap.size + 1)) #[] #[]] ++ lb) V0
      (rangePost Fence.wide n P (w.heap.size + 1) Q { a with defers := [{ target := .collected w.heap.size, args := #[] }] ++ a.defers }) := by
    refine (hseq (w.heap.size + 1) (fun pre V => I pre V ∧ bk (rec .ready none) V) (fun pre V => ∃ c, Ix c pre V ∧ bk (rec .done (some c)) V) V0 hbl
      (fun s A B h hb => ⟨hI s A B none h.1 ⟨hb.os, hb.tape, hb.output, hb.size, fun k hk _ => hb.block k hk⟩ (fun r e => by cases e), bk_block h.2 (hb.block _ (bk_lt h.2)) (hb.block _ (Nat.lt_of_succ_lt (bk_lt h.2)))⟩)
      (fun s A v h hlt => by
        rw [hsz] at hlt ⊢
        exact ⟨hIS s A v h.1 hlt, bk_block h.2 (heap_setCell_other _ _ _ _ (by show ¬ _; simp)) (heap_setCell_other _ _ _ _ (by show ¬ (w.heap.size = w.heap.size + 2 + 1); omega))⟩)
      ?_ ⟨hI0, by rw [hbk]; exact ⟨hrow, hdef⟩⟩ (n - 1)).mono ?_
    · rintro m pre x V ⟨hi, hb⟩ hV hlen
      rw [hsz] at hV ⊢
      have hb1 := hb
      rw [hbk] at hb1
      have hy := run_yield (P := P) (args := encs x) hb1.1 (by rw [hrec]; exact hps x)
      have hround : YieldAt Fence.wide n P (w.heap.size + 1) (encs x) V fun e V' =>
          (e = .returned (.bool true) ∧ (I (pre ++ [x]) V' ∧ bk (rec .ready none) V') ∧ KS T n₀ (w.heap.size + 2) V V') ∨ (e = .returned (.bool false) ∧ ∃ c, Ix c (pre ++ [x]) V' ∧ bk (rec .done (some c)) V') := by
        rw [hrec] at hy
        refine ⟨fn, _, assign, body, hy, roundIn_of_wpIn hfn (hassign _ x V _ ⟨_, run_beginRound hb1.1 (by rw [hrec]), ?_⟩)⟩
        obtain ⟨Vb, hVb⟩ : ∃ Vb, Vb = V.putObj (w.heap.size + 1) (.loop { rec .ready none with state := .busy }) := ⟨_, rfl⟩
        have hks : KS T n₀ (w.heap.size + 2) V Vb := by rw [hVb]; exact ks_put hb1.1 rfl (by omega) (by omega)
        have hbb : bk { rec .ready none with state := .busy } Vb := by rw [hVb]; exact bk_put hb
        have hib : I pre Vb := by rw [hVb]; exact hI.putObj _ hi (by omega) hb1.1 rfl
        rw [← hVb]
        refine wpIn_mono (hbody _ pre x Vb (by rw [hVb]; simp; omega) hib hlen) ?_
        -- the round's end
        have fin : ∀ (jump : Option Code) (V3 : World), KeepsFrom w.heap.size Vb V3 →
            (Instr.endRound (w.heap.size + 1) jump).run P V3 = .ok (.bool jump.isNone) (V3.putObj (w.heap.size + 1) (.loop (rec (if jump.isNone then .ready else .done) jump))) ∧ bk { rec .ready none with state := .busy } V3 := fun jump V3 hk => by
          have h3 := bk_keep hbb hk
          have h4 := h3
          rw [hbk] at h4
          have h5 := run_endRound (P := P) jump h4.1
          rw [hrec] at h5 ⊢
          exact ⟨h5, by rw [hrec] at h3; exact h3⟩
        have leave : ∀ (c : Code) (V3 : World), KeepsFrom w.heap.size Vb V3 → Ix c (pre ++ [x]) V3 → ∃ v V4, (Instr.endRound (w.heap.size + 1) (some c)).run P V3 = .ok v V4 ∧
            ((Ending.returned v = .returned (.bool true) ∧ (I (pre ++ [x]) V4 ∧ bk (rec .ready none) V4) ∧ KS T n₀ (w.heap.size + 2) V V4) ∨ (Ending.returned v = .returned (.bool false) ∧ ∃ c, Ix c (pre ++ [x]) V4 ∧ bk (rec .done (some c)) V4)) := fun c V3 hk hx => by
          obtain ⟨hr, hb3⟩ := fin (some c) V3 hk
          have hb4 := hb3
          rw [hbk] at hb4
          exact ⟨_, _, hr, .inr ⟨rfl, c, (hIx c).putObj _ hx (by omega) hb4.1 rfl, bk_put hb3⟩⟩
        rintro e a3 V3 hp
        cases e with
        | normal =>
          obtain ⟨hk, hkp, hi3⟩ := hp
          obtain ⟨hr, hb3⟩ := fin none V3 hk
          have hb4 := hb3
          rw [hbk] at hb4
          exact ⟨_, _, hr, .inl ⟨rfl, ⟨hI.putObj _ hi3 (by omega) hb4.1 rfl, bk_put hb3⟩, (hks.trans hkp).trans (ks_put hb4.1 rfl (by omega) (by omega))⟩⟩
        | ret => exact leave _ _ hp.1 hp.2
        | exit id => exact leave _ _ hp.1 hp.2
        | goto t => exact leave _ _ hp.1 hp.2
        | panic ch => exact hp.elim
        | outgrown => exact hp.elim
      exact yield_any hround
    · rintro e V2 ⟨⟨v, rfl⟩, (⟨xs, hS, hi, hb⟩ | ⟨pre, hSp, c, hi, hb⟩)⟩
      · have hb1 := hb
        rw [hbk] at hb1
        refine ⟨none, _, by have h := run_endLoop (P := P) hb1.1 (by rw [hrec]; simp); rw [hrec] at h; exact h, hdone xs _ hS (hI.putObj _ hi (by omega) hb1.1 rfl) ((World.putObj_heap_other (by omega)).trans hb1.2)⟩
      · have hb1 := hb
        rw [hbk] at hb1
        refine ⟨some c, _, by have h := run_endLoop (P := P) hb1.1 (by rw [hrec]; simp); rw [hrec] at h; exact h, hstop c pre _ hSp ((hIx c).putObj _ hi (by omega) hb1.1 rfl) ((World.putObj_heap_other (by omega)).trans hb1.2)⟩
  have henter : (Instr.enterLoop fn a.tmps ps assign body none).run P w = .ok (w.heap.size + 1, [{ target := .collected w.heap.size, args := #[] }]) V0 := by
    rw [hV0, hrec]
    exact run_enterLoop_outer _ _ _ _ _
  refine ⟨w.heap.size + 1, [{ target := .collected w.heap.size, args := #[] }], V0, { target := .fn (.func gf) lb, args := #[.func (.yield (w.heap.size + 1)) #[] #[]] }, V0, gf, #[.func (.yield (w.heap.size + 1)) #[] #[]] ++ lb, V0, ?_, ?_, ?_, ?_, ?_, ?_⟩
  · exact henter
  · exact range_resolves hg _ _
  · intro f' _; exact trivial
  · exact range_enters eg _ _
  · intro h; exact absurd h (by simp [Fence.wide])
  · exact hrun
end Go.Proofs.YtnnlfgfgfegjkaaDoor

/- Lists of numbers that a call owns and may write into. (Ints, but that no part of the block is frozen) -/
namespace Go.Proofs.YtnnlfgfgfegjkaaDoor
open Go.RowKit Go.Shelf
set_option maxRecDepth 1000000
set_option linter.unusedSimpArgs false

/-- v is a list of just these numbers, in a block from B on. -/
def Owns (B : Nat) (v : Value) (l : List Int) (w : World) : Prop := w.ownsRow B 3 1 v l.length (iv l) ∧ B ≤ w.heap.size

section
variable {B : Nat} {v : Value} {l : List Int} {w w1 : World}
theorem Owns.nil (h : B ≤ w.heap.size) : Owns B (.slice none 0 0) [] w := ⟨World.ownsRow_nil _ _ _ _, h⟩
theorem Owns.lit (hB : B ≤ w.heap.size) (cs : Array Value) (l : List Int) (hc : cs.toList = iv l) (hl4 : l.length ≤ 4096) :
    Owns B (.slice (some ⟨w.heap.size, 0, none⟩) l.length l.length) l (w.alloc (.cells cs 3)) := by
  have hl : l.length ≤ maxLen := by unfold maxLen; omega
  have hs : cs.size = l.length * 1 := by rw [← Array.length_toList, hc, iv_len]; omega
  refine ⟨?_, by simp; omega⟩
  have := (World.ownsRow_lit (base := B) (e := 3) (size := 1) w cs l.length hB hl hs)
  rwa [hc] at this
theorem Owns.low {B' : Nat} (h : Owns B v l w) (hB : B' ≤ B) : Owns B' v l w := by
  obtain ⟨⟨h1, h2⟩, h3⟩ := h
  refine ⟨⟨h1, ?_⟩, by omega⟩
  rcases h2 with h2 | ⟨g, cap, cur, a1, a2, a3⟩
  · exact .inl h2
  · exact .inr ⟨g, cap, cur, a1, by omega, a3⟩
/-- What keeps all blocks but one that is none of numbers keeps the list. -/
theorem Owns.grown {row : Option Nat} (h : Owns B v l w) (hg : w.grownBy w1 row) (hne : v.ownBlock = none ∨ v.ownBlock ≠ row) : Owns B v l w1 := ⟨h.1.kept hg hne, Nat.le_trans h.2 hg.size⟩
theorem Owns.later (h : Owns B v l w) (hb : Below w.heap.size w w1) : Owns B v l w1 := h.grown (row := none) ⟨hb.os, hb.tape, hb.output, hb.size, fun k hk _ => hb.block k hk⟩ (by cases v.ownBlock <;> simp)
theorem Owns.alloc (h : Owns B v l w) (o : Obj) : Owns B v l (w.alloc o) := h.later ((Below.refl _ _).alloc (Nat.le_refl _) o)
theorem Owns.reads (h : Owns B v l w) (hl : ∀ n ∈ l, -9223372036854775808 ≤ n ∧ n ≤ 9223372036854775807) : IntsAt w v l := by
  obtain ⟨hr, _⟩ := h
  have hr' := hr
  obtain ⟨h1, h2⟩ := hr
  rcases h2 with ⟨rfl, h2⟩ | ⟨g, cap, cur, a1, a2, a3, a4, a5, a6, a7⟩
  · obtain rfl := List.eq_nil_of_length_eq_zero h2
    exact ⟨none, 0, 0, 0, rfl, fun h => absurd h (by simp), fun j h => absurd h (by simp), fun n h => absurd h (by simp), by simp⟩
  · subst a1
    refine ⟨some ⟨g, 0, none⟩, cap, g, 0, rfl, fun _ => rfl, fun j hj => ?_, hl, by omega⟩
    have e : (⟨g, 0, none⟩ : Addr).add j = ⟨g, 0 + j, none⟩ := by unfold Addr.add; split <;> simp_all
    have := hr'.cells rfl j (.int .i64 (l.getD j 0)) (by rw [iv, List.getElem?_map, List.getElem?_eq_getElem hj]; simp [List.getD_eq_getElem?_getD, List.getElem?_eq_getElem hj])
    rw [e] at this
    exact this
theorem Owns.len (h : Owns B v l w) : ∃ a c, v = .slice a l.length c := by
  obtain ⟨⟨_, h2⟩, _⟩ := h
  rcases h2 with ⟨rfl, h2⟩ | ⟨g, cap, cur, rfl, _⟩
  · exact ⟨none, 0, by rw [h2]⟩
  · exact ⟨_, _, rfl⟩
end

theorem owns_cap {B : Nat} {v : Value} {l : List Int} {w : World} (h : Owns B v l w) : ∃ a c, v = .slice a l.length c ∧ l.length ≤ c := by
  obtain ⟨⟨_, h2⟩, _⟩ := h
  rcases h2 with ⟨rfl, h2⟩ | ⟨g, cap, cur, rfl, _, _, h3, _⟩
  · exact ⟨none, 0, by rw [h2], by omega⟩
  · exact ⟨_, _, rfl, h3⟩

/-- 'append(out, x, y ..)', 'append(out, xs...)' of numbers that lie behind an address: the operation. -/
theorem owns_wp {o : Oper} {a : Act} {K : Act → World → Prop} {Q : Exit → Act → World → Prop} {w : World} (s x : Operand)
    (ho : o.op = .call { callee := .builtin .append, args := #[s, x], argTypes := #[38, 38] })
    {B : Nat} {v : Value} {l : List Int} (hs : a.eval s = v) (hb : Owns B v l w) (r : List Int) (ad : Addr) (c : Nat) (hx : a.eval x = .slice (some ad) r.length c)
    (hc : ∀ j u, (iv r)[j]? = some u → w.cell? (ad.add j) = some u) (hlen : l.length + r.length ≤ 17592186044416)
    (h : ∀ v' w', Owns B v' (l ++ r) w' → w.grownBy w' v.ownBlock → K (a.put o.dst v') w') : o.wp Tryd.prog a w K Q := by
  obtain ⟨i, hi, hz, h1, h2⟩ := info_parts int_info
  obtain ⟨v', w', hr, g1, g2, _⟩ := run_append_own (P := Tryd.prog) w B 38 o.type 3 i (.int .i64 0) 1 8 Tryd.underlying38 hi hz h1 h2 rfl (by decide) v l.length (iv l) hb.1 ad r.length c (iv r) (by rw [iv_len]; omega) hc iv_one
    (by unfold maxLen; omega) (by omega) hb.2
  unfold Oper.wp execOp
  simp only [ho, resolve, invoke, builtin, Sem.run_bind, Sem.run_pure, Result.andThen_ok, List.map_toArray, List.map_cons, List.map_nil, hs, hx, hr]
  exact h v' w' ⟨by rw [List.length_append, iv_app]; exact g1, Nat.le_trans hb.2 g2.size⟩ g2
/-- .. in a list of operations. -/
theorem owns_append {ops : Array Oper} {rest : List Oper} {o : Oper} {a : Act} {Q : Exit → Act → World → Prop} {w : World} (hgd : o.guard = none) (s x : Operand)
    (ho : o.op = .call { callee := .builtin .append, args := #[s, x], argTypes := #[38, 38] })
    {B : Nat} {v : Value} {l : List Int} (hs : a.eval s = v) (hb : Owns B v l w) (r : List Int) (ad : Addr) (c : Nat) (hx : a.eval x = .slice (some ad) r.length c)
    (hc : ∀ j u, (iv r)[j]? = some u → w.cell? (ad.add j) = some u) (hlen : l.length + r.length ≤ 17592186044416)
    (h : ∀ v' w', Owns B v' (l ++ r) w' → w.grownBy w' v.ownBlock → wpList Tryd.prog ops Q rest (a.put o.dst v') w') : wpList Tryd.prog ops Q (o :: rest) a w :=
  wpList_plain hgd fun _ hK => owns_wp s x ho hs hb r ad c hx hc hlen fun v' w' h1 h2 => hK _ _ (h v' w' h1 h2)
/-- .. of numbers that the statement itself has just laid. -/
theorem owns_append_new {ops : Array Oper} {rest : List Oper} {o : Oper} {a : Act} {Q : Exit → Act → World → Prop} {w : World} (hgd : o.guard = none) (s x : Operand)
    (ho : o.op = .call { callee := .builtin .append, args := #[s, x], argTypes := #[38, 38] })
    {B : Nat} {v : Value} {l : List Int} (hs : a.eval s = v) (hb : Owns B v l w) (r : List Int) (cs : Array Value) (hcs : cs = (iv r).toArray) (n c : Nat) (hn : n = r.length) (hx : a.eval x = .slice (some ⟨w.heap.size, 0, none⟩) n c)
    (hlen : l.length + r.length ≤ 17592186044416)
    (h : ∀ v' w', Owns B v' (l ++ r) w' → w.grownBy w' v.ownBlock → wpList Tryd.prog ops Q rest (a.put o.dst v') w') : wpList Tryd.prog ops Q (o :: rest) a (w.alloc (.cells cs 3)) := by
  subst hn
  exact owns_append hgd s x ho hs (hb.alloc _) r ⟨w.heap.size, 0, none⟩ c hx (new_ints w r cs hcs) hlen fun v' w' h1 h2 => h v' w' h1 ⟨h2.os, h2.tape, h2.output, by have := h2.size; simp at this; omega, fun k hk hne => (h2.block k (by simp; omega) hne).trans (Lib.alloc_old w _ k hk)⟩
/-- 'append(list, numbers..)', where a guard is met. -/
theorem owns_append_if {ops : Array Oper} {rest : List Oper} {o : Oper} {a : Act} {Q : Exit → Act → World → Prop} {w : World} (hwd : Region.wanted o (yielded ops a.tmps) = true) (s x : Operand)
    (ho : o.op = .call { callee := .builtin .append, args := #[s, x], argTypes := #[38, 38] })
    {B : Nat} {v : Value} {l : List Int} (hs : a.eval s = v) (hb : Owns B v l w) (r : List Int) (ad : Addr) (c : Nat) (hx : a.eval x = .slice (some ad) r.length c)
    (hc : ∀ j u, (iv r)[j]? = some u → w.cell? (ad.add j) = some u) (hlen : l.length + r.length ≤ 17592186044416)
    (h : ∀ v' w', Owns B v' (l ++ r) w' → w.grownBy w' v.ownBlock → wpList Tryd.prog ops Q rest (a.put o.dst v') w') : wpList Tryd.prog ops Q (o :: rest) a w :=
  wpList_step fun _ hK => by
    rw [if_pos hwd]
    exact owns_wp s x ho hs hb r ad c hx hc hlen fun v' w' h1 h2 => hK _ _ (h v' w' h1 h2)
theorem owns_append_new_if {ops : Array Oper} {rest : List Oper} {o : Oper} {a : Act} {Q : Exit → Act → World → Prop} {w : World} (hwd : Region.wanted o (yielded ops a.tmps) = true) (s x : Operand)
    (ho : o.op = .call { callee := .builtin .append, args := #[s, x], argTypes := #[38, 38] })
    {B : Nat} {v : Value} {l : List Int} (hs : a.eval s = v) (hb : Owns B v l w) (r : List Int) (cs : Array Value) (hcs : cs = (iv r).toArray) (n c : Nat) (hn : n = r.length) (hx : a.eval x = .slice (some ⟨w.heap.size, 0, none⟩) n c)
    (hlen : l.length + r.length ≤ 17592186044416)
    (h : ∀ v' w', Owns B v' (l ++ r) w' → w.grownBy w' v.ownBlock → wpList Tryd.prog ops Q rest (a.put o.dst v') w') : wpList Tryd.prog ops Q (o :: rest) a (w.alloc (.cells cs 3)) := by
  subst hn
  exact owns_append_if hwd s x ho hs (hb.alloc _) r ⟨w.heap.size, 0, none⟩ c hx (new_ints w r cs hcs) hlen fun v' w' h1 h2 => h v' w' h1 ⟨h2.os, h2.tape, h2.output, by have := h2.size; simp at this; omega, fun k hk hne => (h2.block k (by simp; omega) hne).trans (Lib.alloc_old w _ k hk)⟩
theorem owns_kept {A B : World} {n : Nat} {v : Value} {l : List Int} {row : Option Nat} (h : Owns n v l A) (hg : A.grownBy B row) (hr : ∀ r, row = some r → ∃ o : Obj, A.heap[r]? = some o ∧ o.isCells = false) : Owns n v l B := by
  refine h.grown hg ?_
  cases hv : v.ownBlock with
  | none => exact .inl rfl
  | some k =>
    refine .inr fun e => ?_
    obtain ⟨o, ho, hc⟩ := hr k e.symm
    obtain ⟨⟨_, h2⟩, _⟩ := h
    rcases h2 with ⟨rfl, _⟩ | ⟨g, cap, cur, rfl, _, hb, _⟩
    · cases hv
    · obtain rfl : g = k := by simpa [Value.ownBlock] using hv
      rw [hb] at ho
      cases ho
      cases hc
theorem owns_not {w : World} {n L : Nat} {v : Value} {l : List Int} {cs : Array Value} {T : TypeId} {fr : Nat × Nat} (h : Owns n v l w) (hb : w.heap[L]? = some (.cells cs T fr)) (hT : T ≠ 3) : some L ≠ v.ownBlock := by
  intro e
  obtain ⟨⟨_, h2⟩, _⟩ := h
  rcases h2 with ⟨rfl, _⟩ | ⟨g, cap, cur, rfl, _, hg, _⟩
  · cases e
  · obtain rfl : L = g := by simpa [Value.ownBlock] using e
    rw [hb] at hg
    cases hg
    exact hT rfl
theorem owns_cells {w : World} {n : Nat} {v : Value} {l : List Int} (h : Owns n v l w) : ∀ (j : Nat) (o : Obj), v.ownBlock = some j → w.heap[j]? = some o → o.isCells = true := by
  intro j o hj ho
  obtain ⟨⟨_, h2⟩, _⟩ := h
  rcases h2 with ⟨rfl, _⟩ | ⟨g, cap, cur, rfl, _, hg, _⟩
  · cases hj
  · obtain rfl : g = j := by simpa [Value.ownBlock] using hj
    rw [hg] at ho
    cases ho
    rfl
theorem owns_low {w : World} {n : Nat} {v : Value} {l : List Int} (h : Owns n v l w) : ∀ k, some k = v.ownBlock → n ≤ k := by
  intro k hk
  obtain ⟨⟨_, h2⟩, _⟩ := h
  rcases h2 with ⟨rfl, _⟩ | ⟨g, cap, cur, rfl, hB, _⟩
  · cases hk
  · obtain rfl : k = g := by simpa [Value.ownBlock] using hk
    exact hB
/-- 'make([]int, 0, n)'. -/
theorem owns_make {ops : Array Oper} {rest : List Oper} {o : Oper} {a : Act} {Q : Exit → Act → World → Prop} {w : World} (hgd : o.guard = none) (l c : Operand) (hop : o.op = .makeSlice 38 l c)
    {B : Nat} (kl kc : IntKind) (C : Int) (n : Nat) (hl : a.eval l = .int kl 0) (hc : a.eval c = .int kc C) (hC : C = (n : Int)) (hn : n ≤ 10000000) (hB : B ≤ w.heap.size)
    (h : ∀ w', Owns B (.slice (some ⟨w.heap.size, 0, none⟩) 0 n) [] w' → Below w.heap.size w w' → wpList Tryd.prog ops Q rest (a.put o.dst (.slice (some ⟨w.heap.size, 0, none⟩) 0 n)) w') : wpList Tryd.prog ops Q (o :: rest) a w := by
  obtain ⟨i, hi, hz, h1, h2⟩ := info_parts int_info
  refine wpList_make_own w hgd l c 38 hop B 3 i (.int .i64 0) 1 Tryd.underlying38 hi hz h1 kl kc C n hl hc hC (by rw [h2]; omega) (by unfold maxLen; omega) hB fun w' r1 r2 => ?_
  have hb : Below w.heap.size w w' := (Below.refl _ _).grown r2 (Nat.le_refl _) (fun k hk => by cases hk)
  exact h _ ⟨r1, Nat.le_trans hB hb.size⟩ hb
theorem Owns.ints {B : Nat} {v : Value} {l : List Int} {w : World} (h : Owns B v l w) : Ints B v l w := ⟨World.ownsRowF_of h.1, h.2⟩
theorem Owns.pos {B : Nat} {v : Value} {l : List Int} {w : World} (h : Owns B v l w) (h0 : 0 < l.length) : ∃ (g c : Nat) (cs : Array Value), v = .slice (some ⟨g, 0, none⟩) l.length c ∧ l.length ≤ c ∧ B ≤ g ∧ w.heap[g]? = some (.cells cs 3 (0, 0)) ∧ l.length ≤ cs.size ∧ ∀ j, j < l.length → cs[j]? = some (.int .i64 (l.getD j 0)) := by
  obtain ⟨⟨_, h2⟩, _⟩ := h
  rcases h2 with ⟨rfl, h3⟩ | ⟨g, cap, cur, rfl, hB, hg, h5, h6, h7, h8⟩
  · omega
  · refine ⟨g, cap, cur, rfl, h5, hB, hg, by omega, fun j hj => ?_⟩
    have hu : (iv l)[j]? = some (.int .i64 (l.getD j 0)) := by
      rw [iv, List.getElem?_map, List.getElem?_eq_getElem hj, List.getD_eq_getElem?_getD, List.getElem?_eq_getElem hj]; rfl
    rw [← h8, List.getElem?_take_of_lt (by omega), Array.getElem?_toList] at hu
    exact hu
/-- One of its numbers is written. -/
theorem Owns.put {B : Nat} {v : Value} {l : List Int} {w w' : World} (h : Owns B v l w) {g c j : Nat} {cs : Array Value} {x : Int} (hv : v = .slice (some ⟨g, 0, none⟩) l.length c) (hg : w.heap[g]? = some (.cells cs 3 (0, 0)))
    (h' : w'.heap[g]? = some (.cells (cs.setIfInBounds j (.int .i64 x)) 3 (0, 0))) (k : Only g w w') : Owns B v (l.set j x) w' := by
  obtain ⟨⟨h1, h2⟩, h3⟩ := h
  subst hv
  rcases h2 with ⟨e, _⟩ | ⟨g', cap, cur, e, hB, hg', h5, h6, h7, h8⟩
  · cases e
  · simp only [Value.slice.injEq, Option.some.injEq, Addr.mk.injEq, and_true, true_and] at e
    obtain ⟨rfl, rfl⟩ := e
    rw [hg] at hg'
    simp only [Option.some.injEq, Obj.cells.injEq, and_true] at hg'
    subst hg'
    refine ⟨⟨by rw [iv_len]; omega, .inr ⟨g, c, _, by rw [List.length_set], hB, h', by rw [List.length_set]; exact h5, h6, by simpa using h7, ?_⟩⟩, Nat.le_trans h3 k.by_.size⟩
    rw [List.length_set, Array.toList_setIfInBounds, List.take_set, h8]
    simp [iv]
end Go.Proofs.YtnnlfgfgfegjkaaDoor
