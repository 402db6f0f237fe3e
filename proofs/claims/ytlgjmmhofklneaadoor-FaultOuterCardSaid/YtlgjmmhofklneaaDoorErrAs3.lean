/- errors.As of a fault itself, at a *Fault's variable. -/
import Derived.Test.YtlgjmmhofklneaaDoorErrAs2
namespace Go.Proofs.YtlgjmmhofklneaaDoor
open Go.RowKit Go.Extern.Stop Go.Stop Go.Extern
set_option maxRecDepth 1000000

theorem elem_of_P (w : World) : (Rtype.elem? 46).run Tryd.prog w = .ok (some 43) w := by kernel_rfl
theorem mk_p (p : Addr) (w : World) : (ReflectliteValue.mk 43 p ReflectliteValue.flagAddr).run Tryd.prog w = .ok (.agg #[.pointer (some ⟨4, 43, none⟩), .pointer (some p), .int .u64 406]) w := by kernel_rfl
theorem elemV_P (a p : Addr) (W : World) (ha : W.cell? a = some (.pointer (some p))) :
    (ReflectliteValue.method (ReflectliteValue.valueError "reflectlite.Value.Elem" 0) ReflectliteValue.elem #[.agg #[.pointer (some ⟨4, 46, none⟩), .pointer (some a), .int .u64 150]]).run Tryd.prog W
      = .ok (.agg #[.pointer (some ⟨4, 43, none⟩), .pointer (some p), .int .u64 406]) W := by
  delta ReflectliteValue.method
  rw [at_one]
  simp only [Sem.run_bind, parts_P, Result.andThen]
  simp [ReflectliteValue.elem, loadVar, isAgg, underlying, Tryd.underlying46, ha, Result.andThen, elem_of_P, mk_p]
theorem parts_pa (a : Addr) (w : World) : (ReflectliteValue.parts (.agg #[.pointer (some ⟨4, 43, none⟩), .pointer (some a), .int .u64 406])).run Tryd.prog w = .ok (some (43, a, 406)) w := by kernel_rfl
theorem parts_p (a : Addr) (w : World) : (ReflectliteValue.parts (.agg #[.pointer (some ⟨4, 43, none⟩), .pointer (some a), .int .u64 150])).run Tryd.prog w = .ok (some (43, a, 150)) w := by kernel_rfl
theorem direct_p (w : World) : (Rtype.directlyAssignable 43 43).run Tryd.prog w = .ok true w := by kernel_rfl
theorem set_p (ta b e : Addr) (old : Value) (W : World) (hb : W.cell? b = some (.pointer (some e))) (ht : W.cell? ta = some old) (hf : W.frozen? ta = false) :
    (ReflectliteValue.set #[.agg #[.pointer (some ⟨4, 43, none⟩), .pointer (some ta), .int .u64 406], .agg #[.pointer (some ⟨4, 43, none⟩), .pointer (some b), .int .u64 150]]).run Tryd.prog W
      = .ok (.tuple #[]) (W.setCell ta (.pointer (some e))) := by
  delta ReflectliteValue.set
  rw [at_two]
  simp only [Sem.run_bind, parts_pa, parts_p, Result.andThen]
  simp [ReflectliteValue.flagAddr, loadVar, isAgg, underlying, Tryd.underlying43, hb, Result.andThen, direct_p, storeVar, Value.cells, storeCells, Addr.add]
  rw [run_store Tryd.prog W ta _ _ (by rfl)]
  simp [ht, hf]

set_option maxHeartbeats 4000000 in
theorem as_self (p t a : Addr) (old : Value) (w : World) (ht : w.cell? t = some old) (hf : w.frozen? t = false) (ha : w.cell? a = some (.pointer (some t))) :
    Calls Tryd.prog 36 #[.iface 43 (.pointer (some p)), .iface 46 (.pointer (some t)), vP a, .iface 81 (.agg #[.pointer (some ⟨4, 43, none⟩)])] w
      fun e w' => HitPost w t (.pointer (some p)) e w' := by
  have h31 := @run_callFunc_extern Tryd.prog 31 _ ReflectliteType.typeOf Tryd.func31 (by kernel_rfl) (by kernel_rfl) (by kernel_rfl) (by kernel_rfl)
  have h81 := @run_callFunc_extern Tryd.prog 81 _ (ReflectliteType.relation "AssignableTo" ReflectliteType.assignableTo) Tryd.func81 (by kernel_rfl) (by kernel_rfl) (by kernel_rfl) (by kernel_rfl)
  have h33 := @run_callFunc_extern Tryd.prog 33 _ (fun args => ReflectliteValue.unpack (args.getD 0 (.tuple #[]))) Tryd.func33 (by kernel_rfl) (by kernel_rfl) (by kernel_rfl) (by kernel_rfl)
  have h39 := @run_callFunc_extern Tryd.prog 39 _ (ReflectliteValue.method (ReflectliteValue.valueError "reflectlite.Value.Elem" 0) ReflectliteValue.elem) Tryd.func39 (by kernel_rfl) (by kernel_rfl) (by kernel_rfl) (by kernel_rfl)
  have h40 := @run_callFunc_extern Tryd.prog 40 _ ReflectliteValue.set Tryd.func40 (by kernel_rfl) (by kernel_rfl) (by kernel_rfl) (by kernel_rfl)
  have f1 := typeOf_p
  have f2 := method_AssignableTo
  have f3 := assign_pp
  have f4 := vo_p
  have el := elemV_P a t (w.alloc (.cells #[.pointer (some ⟨4, 46, none⟩), .pointer (some a), .int .u64 150] 71)) (cell_alloc_old ha _)
  have st := set_p t ⟨w.heap.size + 1, 0, none⟩ p old ((w.alloc (.cells #[.pointer (some ⟨4, 46, none⟩), .pointer (some a), .int .u64 150] 71)).alloc (.cells #[.pointer (some p)] 43))
    (by rw [World.cell?_alloc_at _ _ _ _ (by simp)]; rfl) (cell_alloc_old (cell_alloc_old ht _) _) (frozen_alloc_old (cell_alloc_old ht _) (frozen_alloc_old ht hf _) _)
  clear ht hf ha
  go_enter Tryd.func36, Tryd.ntmps36
  go_wp2
  refine wp_loop_rounds 1 ?_
  rw [rounds_succ]
  go_wp2
  go_ret
  exact (⟨rfl, _, Below.more (Below.newly' _ _) _, rfl⟩ : HitPost w t (.pointer (some p)) _ _)

/-- errors.As of a fault. -/
theorem As_self (p t : Addr) (old : Value) (w : World) (hg : ET w) (ht : w.cell? t = some old) (hf : w.frozen? t = false) :
    Calls Tryd.prog 21 #[.iface 43 (.pointer (some p)), .iface 46 (.pointer (some t))] w fun e w' => HitPost w t (.pointer (some p)) e w' := by
  have hb : Below w.heap.size w (headP w t) := Below.more (Below.newly' _ _) _
  refine As_head_P _ _ t w hg ((as_self p t ⟨w.heap.size, 0, none⟩ old (headP w t) (cell_alloc_old (cell_alloc_old ht _) _) (frozen_alloc_old (cell_alloc_old ht _) (frozen_alloc_old ht hf _) _) (by simp)).mono fun e w' h => ?_)
  obtain ⟨h1, w2, h2, h3⟩ := h
  exact ⟨⟨_, h1⟩, h1, w2, hb.trans (h2.mono hb.size), h3⟩
end Go.Proofs.YtlgjmmhofklneaaDoor
