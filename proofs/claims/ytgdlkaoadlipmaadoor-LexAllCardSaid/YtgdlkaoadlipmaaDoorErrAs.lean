/- errors.as and errors.As over a link, at an Errno's variable and at a *Fault's; errors.As over a fault. -/
import Derived.Test.YtgdlkaoadlipmaaDoorErrChain
namespace Go.Proofs.YtgdlkaoadlipmaaDoor
open Go.RowKit Go.Extern.Stop Go.Stop Go.Extern
set_option maxRecDepth 1000000

/-- The Value that errors.As makes of a target. -/
abbrev vC (a : Addr) : Value := .agg #[.pointer (some ⟨7, 80, none⟩), .pointer (some a), .int .u64 150]

set_option maxHeartbeats 2000000 in
theorem as_code {B : Nat} (E : Value) (c : Option Int) (l : List Int) (t a : Addr) (old : Value) (w : World) (hch : Ch B w E c l) (hB : B ≤ w.heap.size) (ht : w.cell? t = some old) (hf : w.frozen? t = false) :
    Calls Tryd.prog 60 #[.iface 79 (.agg #[E]), .iface 80 (.pointer (some t)), vC a, .iface 104 (.agg #[.pointer (some ⟨7, 29, none⟩)])] w
      fun e w' => CodePost w t c e w' := by
  have h31 := @run_callFunc_extern Tryd.prog 68 _ ReflectliteType.typeOf Tryd.func68 (by kernel_rfl) (by kernel_rfl) (by kernel_rfl) (by kernel_rfl)
  have h81 := @run_callFunc_extern Tryd.prog 120 _ (ReflectliteType.relation "AssignableTo" ReflectliteType.assignableTo) Tryd.func120 (by kernel_rfl) (by kernel_rfl) (by kernel_rfl) (by kernel_rfl)
  have f1 := typeOf_l
  have f2 := method_AssignableTo
  have f3 := assign_lc
  have f4 := as_l
  have f5 := met_As_l
  have f6 := un_l
  have f7 := met_Unwrap_l
  have HT := Lib.hid ht
  have HF := Lib.hid hf
  have HC := Lib.hid hch
  have HB := Lib.hid hB
  clear ht hf hch hB
  go_enter Tryd.func60, Tryd.ntmps60
  go_wp2
  go_loopw [0] (fun v wl => ∃ E' l', v = .iface 79 (.agg #[E']) ∧ Ch B w E' c l' ∧ Below w.heap.size w wl) (fun v _ => lkLen B w v)
  case atStart => exact ⟨E, l, rfl, HC.out, Below.newly' _ _⟩
  case round =>
    obtain ⟨E', l', rfl, hc', hb⟩ := hrel
    have hb' := hb
    cases hc' with
    | code k hk =>
      have ht' := (hb.cell (p := t) (World.block_lt_of_cell? w t HT.out)).trans HT.out
      have hf' := (below_frozen hb t (World.block_lt_of_cell? w t HT.out)).trans HF.out
      have HT' := Lib.hid ht'
      have HF' := Lib.hid hf'
      clear ht' hf'
      go_wp2_with fail
      refine (lAs_c_c k t old wr HT'.out HF'.out).mono ?_
      rintro e w1 ⟨rfl, rfl⟩
      go_wp2_with fail
      go_ret
      exact Or.inl ⟨k, rfl, rfl, _, Below.more hb _, rfl⟩
    | bare b n h1 h2 h3 h4 =>
      have hlt : b < w.heap.size := Nat.lt_of_lt_of_le h1 HB.out
      have h4' := cell_alloc_old ((hb.cell (p := ⟨b, 1, none⟩) hlt).trans h4) (.cells #[.iface 66 (.pointer (some ⟨b, 0, none⟩))] 79)
      have H4 := Lib.hid h4'
      clear h4' h3 h4
      go_wp2_with fail
      refine (lAs_c_p _ t wr).mono ?_
      rintro e w1 ⟨rfl, rfl⟩
      go_wp2_with fail
      refine (lUnwrap_p_nil b _ H4.out).mono ?_
      rintro e w1 ⟨rfl, rfl⟩
      go_wp2_with fail
      go_ret
      exact Or.inr ⟨rfl, rfl, Below.more (Below.more hb _) _⟩
    | put b n u x c l h1 h2 h3 h4 h5 =>
      have hlt : b < w.heap.size := Nat.lt_of_lt_of_le h1 HB.out
      have h4' := cell_alloc_old ((hb.cell (p := ⟨b, 1, none⟩) hlt).trans h4) (.cells #[.iface 66 (.pointer (some ⟨b, 0, none⟩))] 79)
      have H4 := Lib.hid h4'
      have H5 := Lib.hid h5
      have H6 := Lib.hid (Ch.put b n u x c l h1 h2 h3 h4 h5)
      clear h4' h3 h4 h5
      go_wp2_with fail
      refine (lAs_c_p _ t wr).mono ?_
      rintro e w1 ⟨rfl, rfl⟩
      go_wp2_with fail
      refine (lUnwrap_p b u x _ H4.out).mono ?_
      rintro e w1 ⟨rfl, rfl⟩
      go_wp2_with fail
      go_roundw
      case rel => exact ⟨_, l, rfl, H5.out, Below.more (Below.more hb _) _⟩
      case measure =>
        show chLen B w (.iface u x) < chLen B w (.iface 66 (.pointer (some ⟨b, 0, none⟩)))
        rw [chLen_eq H5.out, chLen_eq H6.out]
        simp

/-! ### over a link, at a *Fault's variable: one round -/
abbrev vP (a : Addr) : Value := .agg #[.pointer (some ⟨7, 81, none⟩), .pointer (some a), .int .u64 150]
/-- A target that is hit. -/
def HitPost (w : World) (t : Addr) (v : Value) (e : Ending) (w' : World) : Prop := e = .returned (.bool true) ∧ ∃ w2, Below w.heap.size w w2 ∧ w' = w2.setCell t v
def MissPost (w : World) (e : Ending) (w' : World) : Prop := e = .returned (.bool false) ∧ Below w.heap.size w w'

set_option maxHeartbeats 2000000 in
theorem as_fault_p (p t a : Addr) (old : Value) (w : World) (ht : w.cell? t = some old) (hf : w.frozen? t = false) :
    Calls Tryd.prog 60 #[.iface 79 (.agg #[.iface 66 (.pointer (some p))]), .iface 81 (.pointer (some t)), vP a, .iface 104 (.agg #[.pointer (some ⟨7, 66, none⟩)])] w
      fun e w' => HitPost w t (.pointer (some p)) e w' := by
  have h31 := @run_callFunc_extern Tryd.prog 68 _ ReflectliteType.typeOf Tryd.func68 (by kernel_rfl) (by kernel_rfl) (by kernel_rfl) (by kernel_rfl)
  have h81 := @run_callFunc_extern Tryd.prog 120 _ (ReflectliteType.relation "AssignableTo" ReflectliteType.assignableTo) Tryd.func120 (by kernel_rfl) (by kernel_rfl) (by kernel_rfl) (by kernel_rfl)
  have f1 := typeOf_l
  have f2 := method_AssignableTo
  have f3 := assign_lp
  have f4 := as_l
  have f5 := met_As_l
  have HT := Lib.hid (cell_alloc_old ht (.cells #[.pointer (some ⟨7, 81, none⟩), .pointer (some a), .int .u64 150] 90))
  have HF := Lib.hid (frozen_alloc_old ht hf (.cells #[.pointer (some ⟨7, 81, none⟩), .pointer (some a), .int .u64 150] 90))
  clear ht hf
  go_enter Tryd.func60, Tryd.ntmps60
  go_wp2
  refine wp_loop_rounds 1 ?_
  rw [rounds_succ]
  go_wp2_with fail
  refine (lAs_p_p p t old _ HT.out HF.out).mono ?_
  rintro e w1 ⟨rfl, rfl⟩
  go_wp2_with fail
  go_ret
  exact (⟨rfl, _, Below.more (Below.newly' _ _) _, rfl⟩ : HitPost _ _ _ _ _)

set_option maxHeartbeats 2000000 in
theorem as_fault_c (c : Int) (t a : Addr) (w : World) :
    Calls Tryd.prog 60 #[.iface 79 (.agg #[.iface 29 (.int .i64 c)]), .iface 81 (.pointer (some t)), vP a, .iface 104 (.agg #[.pointer (some ⟨7, 66, none⟩)])] w
      fun e w' => MissPost w e w' := by
  have h31 := @run_callFunc_extern Tryd.prog 68 _ ReflectliteType.typeOf Tryd.func68 (by kernel_rfl) (by kernel_rfl) (by kernel_rfl) (by kernel_rfl)
  have h81 := @run_callFunc_extern Tryd.prog 120 _ (ReflectliteType.relation "AssignableTo" ReflectliteType.assignableTo) Tryd.func120 (by kernel_rfl) (by kernel_rfl) (by kernel_rfl) (by kernel_rfl)
  have f1 := typeOf_l
  have f2 := method_AssignableTo
  have f3 := assign_lp
  have f4 := as_l
  have f5 := met_As_l
  have f6 := un_l
  have f7 := met_Unwrap_l
  go_enter Tryd.func60, Tryd.ntmps60
  go_wp2
  refine wp_loop_rounds 1 ?_
  rw [rounds_succ]
  go_wp2_with fail
  refine (lAs_p_c c t _).mono ?_
  rintro e w1 ⟨rfl, rfl⟩
  go_wp2_with fail
  refine (lUnwrap_c c _).mono ?_
  rintro e w1 ⟨rfl, rfl⟩
  go_wp2_with fail
  go_ret
  exact (⟨rfl, Below.more (Below.more (Below.newly' _ _) _) _⟩ : MissPost _ _ _)

set_option maxHeartbeats 2000000 in
theorem as_fault_nil (t a : Addr) (w : World) :
    Calls Tryd.prog 60 #[.iface 79 (.agg #[.nilIface]), .iface 81 (.pointer (some t)), vP a, .iface 104 (.agg #[.pointer (some ⟨7, 66, none⟩)])] w
      fun e w' => MissPost w e w' := by
  have h31 := @run_callFunc_extern Tryd.prog 68 _ ReflectliteType.typeOf Tryd.func68 (by kernel_rfl) (by kernel_rfl) (by kernel_rfl) (by kernel_rfl)
  have h81 := @run_callFunc_extern Tryd.prog 120 _ (ReflectliteType.relation "AssignableTo" ReflectliteType.assignableTo) Tryd.func120 (by kernel_rfl) (by kernel_rfl) (by kernel_rfl) (by kernel_rfl)
  have f1 := typeOf_l
  have f2 := method_AssignableTo
  have f3 := assign_lp
  have f4 := as_l
  have f5 := met_As_l
  have f6 := un_l
  have f7 := met_Unwrap_l
  go_enter Tryd.func60, Tryd.ntmps60
  go_wp2
  refine wp_loop_rounds 1 ?_
  rw [rounds_succ]
  go_wp2_with fail
  refine (lAs_p_nil t _).mono ?_
  rintro e w1 ⟨rfl, rfl⟩
  go_wp2_with fail
  refine (lUnwrap_nil _).mono ?_
  rintro e w1 ⟨rfl, rfl⟩
  go_wp2_with fail
  go_ret
  exact (⟨rfl, Below.more (Below.more (Below.newly' _ _) _) _⟩ : MissPost _ _ _)
end Go.Proofs.YtgdlkaoadlipmaaDoor
