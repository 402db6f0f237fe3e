/- errors.As, at an Errno's variable and at a *Fault's. -/
import Derived.Test.YtgdlkaoadlipmaaDoorErrAs
namespace Go.Proofs.YtgdlkaoadlipmaaDoor
open Go.RowKit Go.Extern.Stop Go.Stop Go.Extern
set_option maxRecDepth 1000000

/-- The entries look at their arguments' number: one, two. -/
theorem at_one (v : Value) (f : Value → Sem Value) (g : Array Value → Sem Value) : ReflectliteValue.method.match_2 (fun _ => Sem Value) #[v] f g = f v := rfl
theorem at_two (v x : Value) (f : Value → Value → Sem Value) (g : Array Value → Sem Value) : ReflectliteValue.set.match_3 (fun _ => Sem Value) #[v, x] f g = f v x := rfl
theorem isNil_C (a p : Addr) (W : World) (ha : W.cell? a = some (.pointer (some p))) :
    (ReflectliteValue.method (ReflectliteValue.valueError "reflectlite.Value.IsNil" 0) ReflectliteValue.isNil #[.agg #[.pointer (some ⟨7, 80, none⟩), .pointer (some a), .int .u64 150]]).run Tryd.prog W = .ok (.bool false) W := by
  delta ReflectliteValue.method
  rw [at_one]
  simp only [Sem.run_bind, parts_C, Result.andThen]
  simp [ReflectliteValue.isNil, loadVar, isAgg, underlying, Tryd.underlying80, ha, Result.andThen]
theorem isNil_P (a p : Addr) (W : World) (ha : W.cell? a = some (.pointer (some p))) :
    (ReflectliteValue.method (ReflectliteValue.valueError "reflectlite.Value.IsNil" 0) ReflectliteValue.isNil #[.agg #[.pointer (some ⟨7, 81, none⟩), .pointer (some a), .int .u64 150]]).run Tryd.prog W = .ok (.bool false) W := by
  delta ReflectliteValue.method
  rw [at_one]
  simp only [Sem.run_bind, parts_P, Result.andThen]
  simp [ReflectliteValue.isNil, loadVar, isAgg, underlying, Tryd.underlying81, ha, Result.andThen]

/-- The world in which errors.As calls errors.as. -/
abbrev headC (w : World) (t : Addr) : World := (w.alloc (.cells #[.pointer (some t)] 80)).alloc (.cells #[.pointer (some ⟨7, 80, none⟩), .pointer (some ⟨w.heap.size, 0, none⟩), .int .u64 150] 90)
abbrev headP (w : World) (t : Addr) : World := (w.alloc (.cells #[.pointer (some t)] 81)).alloc (.cells #[.pointer (some ⟨7, 81, none⟩), .pointer (some ⟨w.heap.size, 0, none⟩), .int .u64 150] 90)

set_option maxHeartbeats 2000000 in
theorem As_head_C {Q : Ending → World → Prop} (E : Value) (t : Addr) (w : World) (hg : ET w)
    (h : Calls Tryd.prog 60 #[.iface 79 (.agg #[E]), .iface 80 (.pointer (some t)), vC ⟨w.heap.size, 0, none⟩, .iface 104 (.agg #[.pointer (some ⟨7, 29, none⟩)])] (headC w t) fun e w' => (∃ b, e = .returned (.bool b)) ∧ Q e w') :
    Calls Tryd.prog 47 #[.iface 79 (.agg #[E]), .iface 80 (.pointer (some t))] w Q := by
  have h33 := @run_callFunc_extern Tryd.prog 57 _ (fun args => ReflectliteValue.unpack (args.getD 0 (.tuple #[]))) Tryd.func57 (by kernel_rfl) (by kernel_rfl) (by kernel_rfl) (by kernel_rfl)
  have h34 := @run_callFunc_extern Tryd.prog 58 _ (ReflectliteValue.methodAny (ReflectliteValue.valueError "reflectlite.Value.Type" 0) (fun t _ _ _ => ReflectliteType.toType t)) Tryd.func58 (by kernel_rfl) (by kernel_rfl) (by kernel_rfl) (by kernel_rfl)
  have h35 := @run_callFunc_extern Tryd.prog 59 _ (ReflectliteValue.method (ReflectliteValue.valueError "reflectlite.Value.IsNil" 0) ReflectliteValue.isNil) Tryd.func59 (by kernel_rfl) (by kernel_rfl) (by kernel_rfl) (by kernel_rfl)
  have h68 := @run_callFunc_extern Tryd.prog 106 _ (ReflectliteType.abiMethod fun t => do pure (.int .u8 (← Rtype.kind t))) Tryd.func106 (by kernel_rfl) (by kernel_rfl) (by kernel_rfl) (by kernel_rfl)
  have h83 := @run_callFunc_extern Tryd.prog 122 _ (ReflectliteType.method ReflectliteType.elem) Tryd.func122 (by kernel_rfl) (by kernel_rfl) (by kernel_rfl) (by kernel_rfl)
  have h84 := @run_callFunc_extern Tryd.prog 123 _ (ReflectliteType.relation "Implements" ReflectliteType.implements_) Tryd.func123 (by kernel_rfl) (by kernel_rfl) (by kernel_rfl) (by kernel_rfl)
  have f1 := vo_C
  have f2 := ty_C
  have f3 := method_Kind
  have f4 := method_Elem
  have f5 := method_Implements
  have f6 := kind_C
  have f7 := kind_c
  have f8 := elem_C
  have f9 := impl_c
  have n8 := isNil_C ⟨w.heap.size, 0, none⟩ t (headC w t) (by simp)
  have hg2 : (headC w t).cell? ⟨1, 0, none⟩ = some (.iface 104 (.agg #[.pointer (some ⟨7, 26, none⟩)])) := cell_alloc_old (cell_alloc_old hg _) _
  have H := Lib.hid h
  clear h hg
  go_enter Tryd.func47, Tryd.ntmps47
  go_wp2_with fail
  refine H.out.mono ?_
  rintro e w1 ⟨⟨b, rfl⟩, hq⟩
  go_wp2_with fail
  exact hq

set_option maxHeartbeats 2000000 in
theorem As_head_P {Q : Ending → World → Prop} (u : TypeId) (E : Value) (t : Addr) (w : World) (hg : ET w)
    (h : Calls Tryd.prog 60 #[.iface u E, .iface 81 (.pointer (some t)), vP ⟨w.heap.size, 0, none⟩, .iface 104 (.agg #[.pointer (some ⟨7, 66, none⟩)])] (headP w t) fun e w' => (∃ b, e = .returned (.bool b)) ∧ Q e w') :
    Calls Tryd.prog 47 #[.iface u E, .iface 81 (.pointer (some t))] w Q := by
  have h33 := @run_callFunc_extern Tryd.prog 57 _ (fun args => ReflectliteValue.unpack (args.getD 0 (.tuple #[]))) Tryd.func57 (by kernel_rfl) (by kernel_rfl) (by kernel_rfl) (by kernel_rfl)
  have h34 := @run_callFunc_extern Tryd.prog 58 _ (ReflectliteValue.methodAny (ReflectliteValue.valueError "reflectlite.Value.Type" 0) (fun t _ _ _ => ReflectliteType.toType t)) Tryd.func58 (by kernel_rfl) (by kernel_rfl) (by kernel_rfl) (by kernel_rfl)
  have h35 := @run_callFunc_extern Tryd.prog 59 _ (ReflectliteValue.method (ReflectliteValue.valueError "reflectlite.Value.IsNil" 0) ReflectliteValue.isNil) Tryd.func59 (by kernel_rfl) (by kernel_rfl) (by kernel_rfl) (by kernel_rfl)
  have h68 := @run_callFunc_extern Tryd.prog 106 _ (ReflectliteType.abiMethod fun t => do pure (.int .u8 (← Rtype.kind t))) Tryd.func106 (by kernel_rfl) (by kernel_rfl) (by kernel_rfl) (by kernel_rfl)
  have h83 := @run_callFunc_extern Tryd.prog 122 _ (ReflectliteType.method ReflectliteType.elem) Tryd.func122 (by kernel_rfl) (by kernel_rfl) (by kernel_rfl) (by kernel_rfl)
  have h84 := @run_callFunc_extern Tryd.prog 123 _ (ReflectliteType.relation "Implements" ReflectliteType.implements_) Tryd.func123 (by kernel_rfl) (by kernel_rfl) (by kernel_rfl) (by kernel_rfl)
  have f1 := vo_P
  have f2 := ty_P
  have f3 := method_Kind
  have f4 := method_Elem
  have f5 := method_Implements
  have f6 := kind_P
  have f7 := kind_p
  have f8 := elem_P
  have f9 := impl_p
  have n8 := isNil_P ⟨w.heap.size, 0, none⟩ t (headP w t) (by simp)
  have hg2 : (headP w t).cell? ⟨1, 0, none⟩ = some (.iface 104 (.agg #[.pointer (some ⟨7, 26, none⟩)])) := cell_alloc_old (cell_alloc_old hg _) _
  have H := Lib.hid h
  clear h hg
  go_enter Tryd.func47, Tryd.ntmps47
  go_wp2_with fail
  refine H.out.mono ?_
  rintro e w1 ⟨⟨b, rfl⟩, hq⟩
  go_wp2_with fail
  exact hq

theorem CodePost.returned {w : World} {t : Addr} {c : Option Int} {e : Ending} {w' : World} (h : CodePost w t c e w') : ∃ b, e = .returned (.bool b) := by
  rcases h with ⟨k, _, h, _⟩ | ⟨_, h, _⟩ <;> exact ⟨_, h⟩
/-- errors.As of a link, at an Errno's variable. -/
theorem As_code {B : Nat} (E : Value) (c : Option Int) (l : List Int) (t : Addr) (old : Value) (w : World) (hg : ET w) (hch : Ch B w E c l) (hB : B ≤ w.heap.size) (ht : w.cell? t = some old) (hf : w.frozen? t = false) :
    Calls Tryd.prog 47 #[.iface 79 (.agg #[E]), .iface 80 (.pointer (some t))] w fun e w' => CodePost w t c e w' := by
  have hb : Below w.heap.size w (headC w t) := Below.more (Below.newly' _ _) _
  refine As_head_C E t w hg ((as_code E c l t ⟨w.heap.size, 0, none⟩ old (headC w t) (hch.later (hb.mono hB) (Nat.le_refl _)) (Nat.le_trans hB hb.size) (cell_alloc_old (cell_alloc_old ht _) _) (frozen_alloc_old (cell_alloc_old ht _) (frozen_alloc_old ht hf _) _)).mono fun e w' h => ⟨h.returned, h.after hb⟩)
/-- errors.As of a link over a fault, at a *Fault's variable. -/
theorem As_fault_p (p t : Addr) (old : Value) (w : World) (hg : ET w) (ht : w.cell? t = some old) (hf : w.frozen? t = false) :
    Calls Tryd.prog 47 #[.iface 79 (.agg #[.iface 66 (.pointer (some p))]), .iface 81 (.pointer (some t))] w fun e w' => HitPost w t (.pointer (some p)) e w' := by
  have hb : Below w.heap.size w (headP w t) := Below.more (Below.newly' _ _) _
  refine As_head_P _ _ t w hg ((as_fault_p p t ⟨w.heap.size, 0, none⟩ old (headP w t) (cell_alloc_old (cell_alloc_old ht _) _) (frozen_alloc_old (cell_alloc_old ht _) (frozen_alloc_old ht hf _) _)).mono fun e w' h => ?_)
  obtain ⟨h1, w2, h2, h3⟩ := h
  exact ⟨⟨_, h1⟩, h1, w2, hb.trans (h2.mono hb.size), h3⟩
/-- .. over an Errno, or nothing. -/
theorem As_fault_c (c : Int) (t : Addr) (w : World) (hg : ET w) :
    Calls Tryd.prog 47 #[.iface 79 (.agg #[.iface 29 (.int .i64 c)]), .iface 81 (.pointer (some t))] w fun e w' => MissPost w e w' := by
  have hb : Below w.heap.size w (headP w t) := Below.more (Below.newly' _ _) _
  refine As_head_P _ _ t w hg ((as_fault_c c t ⟨w.heap.size, 0, none⟩ (headP w t)).mono fun e w' h => ⟨⟨_, h.1⟩, h.1, hb.trans (h.2.mono hb.size)⟩)
theorem As_fault_nil (t : Addr) (w : World) (hg : ET w) :
    Calls Tryd.prog 47 #[.iface 79 (.agg #[.nilIface]), .iface 81 (.pointer (some t))] w fun e w' => MissPost w e w' := by
  have hb : Below w.heap.size w (headP w t) := Below.more (Below.newly' _ _) _
  refine As_head_P _ _ t w hg ((as_fault_nil t ⟨w.heap.size, 0, none⟩ (headP w t)).mono fun e w' h => ⟨⟨_, h.1⟩, h.1, hb.trans (h.2.mono hb.size)⟩)
end Go.Proofs.YtgdlkaoadlipmaaDoor
