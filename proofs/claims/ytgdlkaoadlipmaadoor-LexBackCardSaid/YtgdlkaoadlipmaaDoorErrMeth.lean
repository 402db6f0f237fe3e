/- The methods of package fault's links and faults, and errors.Unwrap, by their contracts. -/
import Derived.Test.YtgdlkaoadlipmaaDoorErrFacts
import Derived.Stop.IfaceNil
import Derived.Lib.IfaceEq
import Derived.Lib.Hide
namespace Go.Proofs.YtgdlkaoadlipmaaDoor
open Go.RowKit Go.Extern.Stop Go.Stop Go.Extern
set_option maxRecDepth 1000000

theorem cell_alloc_old {w : World} {a : Addr} {v : Value} (h : w.cell? a = some v) (o : Obj) : (w.alloc o).cell? a = some v := by
  rw [World.cell?_alloc_lt _ _ a (World.block_lt_of_cell? w a h)]; exact h
theorem frozen_alloc_old {w : World} {a : Addr} {v : Value} (h : w.cell? a = some v) (hf : w.frozen? a = false) (o : Obj) : (w.alloc o).frozen? a = false := by
  rw [World.frozen?_alloc_old _ _ a (Nat.ne_of_lt (World.block_lt_of_cell? w a h))]; exact hf

/-! ### which methods the types have -/
theorem as_l (v : Value) (xT : TypeId) (w : World) : (Instr.typeAssert (.iface 79 v) xT 109 true).run Tryd.prog w = .ok (.tuple #[.iface 79 v, .bool true]) w := run_typeAssert_hasB Tryd.underlying109 (by kernel_rfl) v xT w
theorem un_l (v : Value) (xT : TypeId) (w : World) : (Instr.typeAssert (.iface 79 v) xT 112 true).run Tryd.prog w = .ok (.tuple #[.iface 79 v, .bool true]) w := run_typeAssert_hasB Tryd.underlying112 (by kernel_rfl) v xT w
theorem un_p (v : Value) (xT : TypeId) (w : World) : (Instr.typeAssert (.iface 66 v) xT 112 true).run Tryd.prog w = .ok (.tuple #[.iface 66 v, .bool true]) w := run_typeAssert_hasB Tryd.underlying112 (by kernel_rfl) v xT w
theorem un_c (v : Value) (xT : TypeId) (w : World) : (Instr.typeAssert (.iface 29 v) xT 112 true).run Tryd.prog w = .ok (.tuple #[.nilIface, .bool false]) w := run_typeAssert_lacksB Tryd.underlying112 (by kernel_rfl) (by kernel_rfl) v xT w
theorem uns_c (v : Value) (xT : TypeId) (w : World) : (Instr.typeAssert (.iface 29 v) xT 114 true).run Tryd.prog w = .ok (.tuple #[.nilIface, .bool false]) w := run_typeAssert_lacksB Tryd.underlying114 (by kernel_rfl) (by kernel_rfl) v xT w
theorem met_Unwrap_p (v : Value) (w : World) : (Go.method 272 66 v "Unwrap").run Tryd.prog w = .ok (112, v) w := by kernel_rfl
theorem met_Unwrap_l (v : Value) (w : World) : (Go.method 272 79 v "Unwrap").run Tryd.prog w = .ok (114, v) w := by kernel_rfl
theorem met_As_l (v : Value) (w : World) : (Go.method 272 79 v "As").run Tryd.prog w = .ok (113, v) w := by kernel_rfl
theorem un_nil (w : World) : (Instr.typeAssert .nilIface 26 112 true).run Tryd.prog w = .ok (.tuple #[.nilIface, .bool false]) w := by kernel_rfl
theorem tc_nil (w : World) : (Instr.typeAssert .nilIface 26 29 true).run Tryd.prog w = .ok (.tuple #[.int .i64 0, .bool false]) w := by kernel_rfl
theorem tp_nil (w : World) : (Instr.typeAssert .nilIface 26 66 true).run Tryd.prog w = .ok (.tuple #[.pointer none, .bool false]) w := by kernel_rfl
theorem tt_CC (v : Value) (w : World) : (Instr.typeAssert (.iface 80 v) 20 80 true).run Tryd.prog w = .ok (.tuple #[v, .bool true]) w := by kernel_rfl
theorem tt_PC (v : Value) (w : World) : (Instr.typeAssert (.iface 81 v) 20 80 true).run Tryd.prog w = .ok (.tuple #[.pointer none, .bool false]) w := by kernel_rfl
theorem tt_PP (v : Value) (w : World) : (Instr.typeAssert (.iface 81 v) 20 81 true).run Tryd.prog w = .ok (.tuple #[v, .bool true]) w := by kernel_rfl
theorem tt_cc (v : Value) (w : World) : (Instr.typeAssert (.iface 29 v) 26 29 true).run Tryd.prog w = .ok (.tuple #[v, .bool true]) w := by kernel_rfl
theorem tt_pc (v : Value) (w : World) : (Instr.typeAssert (.iface 66 v) 26 29 true).run Tryd.prog w = .ok (.tuple #[.int .i64 0, .bool false]) w := by kernel_rfl
theorem tt_pp (v : Value) (w : World) : (Instr.typeAssert (.iface 66 v) 26 66 true).run Tryd.prog w = .ok (.tuple #[v, .bool true]) w := by kernel_rfl
theorem tt_cp (v : Value) (w : World) : (Instr.typeAssert (.iface 29 v) 26 66 true).run Tryd.prog w = .ok (.tuple #[.pointer none, .bool false]) w := by kernel_rfl

/-! ### (*Fault).Unwrap -/
theorem fUnwrap (b : Nat) (U : Value) (w : World) (hc : w.cell? ⟨b, 1, none⟩ = some U) : Calls Tryd.prog 112 #[.pointer (some ⟨b, 0, none⟩)] w fun e w' => e = .returned U ∧ w' = w := by
  go_enter Tryd.func112, Tryd.ntmps112
  go_wp2
  go_ret
  exact ⟨rfl, rfl⟩
theorem fUnwrap_nil (w : World) : Calls Tryd.prog 112 #[.pointer none] w fun e w' => e = .returned .nilIface ∧ w' = w := by
  go_enter Tryd.func112, Tryd.ntmps112
  go_wp2
  go_ret
  exact ⟨rfl, rfl⟩

/-! ### errors.Unwrap -/
theorem eUnwrap_nil (w : World) : Calls Tryd.prog 115 #[.nilIface] w fun e w' => e = .returned .nilIface ∧ w' = w := by
  have H := un_nil
  go_enter Tryd.func115, Tryd.ntmps115
  go_wp2
  go_ret
  exact ⟨rfl, rfl⟩
theorem eUnwrap_c (c : Int) (w : World) : Calls Tryd.prog 115 #[.iface 29 (.int .i64 c)] w fun e w' => e = .returned .nilIface ∧ w' = w := by
  have H := un_c
  go_enter Tryd.func115, Tryd.ntmps115
  go_wp2
  go_ret
  exact ⟨rfl, rfl⟩
theorem eUnwrap_p (b : Nat) (U : Value) (w : World) (hc : w.cell? ⟨b, 1, none⟩ = some U) : Calls Tryd.prog 115 #[.iface 66 (.pointer (some ⟨b, 0, none⟩))] w fun e w' => e = .returned U ∧ w' = w := by
  have H := un_p
  have M := met_Unwrap_p
  go_enter Tryd.func115, Tryd.ntmps115
  go_wp2_with fail
  refine (fUnwrap b U w hc).mono ?_
  rintro e w1 ⟨rfl, rfl⟩
  go_wp2_with fail
  go_ret
  exact ⟨rfl, rfl⟩

/-! ### (link).Unwrap: a new link over what lies under, or nil -/
theorem lUnwrap_nil (w : World) : Calls Tryd.prog 114 #[.agg #[.nilIface]] w fun e w' => e = .returned .nilIface ∧ w' = w.alloc (.cells #[.nilIface] 79) := by
  go_enter Tryd.func114, Tryd.ntmps114
  go_wp2_with fail
  refine (eUnwrap_nil _).mono ?_
  rintro e w1 ⟨rfl, rfl⟩
  go_wp2_with fail
  go_ret
  exact ⟨rfl, rfl⟩
theorem lUnwrap_c (c : Int) (w : World) : Calls Tryd.prog 114 #[.agg #[.iface 29 (.int .i64 c)]] w fun e w' => e = .returned .nilIface ∧ w' = w.alloc (.cells #[.iface 29 (.int .i64 c)] 79) := by
  go_enter Tryd.func114, Tryd.ntmps114
  go_wp2_with fail
  refine (eUnwrap_c _ _).mono ?_
  rintro e w1 ⟨rfl, rfl⟩
  go_wp2_with fail
  go_ret
  exact ⟨rfl, rfl⟩
theorem lUnwrap_p_nil (b : Nat) (w : World) (hc : w.cell? ⟨b, 1, none⟩ = some .nilIface) :
    Calls Tryd.prog 114 #[.agg #[.iface 66 (.pointer (some ⟨b, 0, none⟩))]] w fun e w' => e = .returned .nilIface ∧ w' = w.alloc (.cells #[.iface 66 (.pointer (some ⟨b, 0, none⟩))] 79) := by
  have hc' := cell_alloc_old hc (.cells #[.iface 66 (.pointer (some ⟨b, 0, none⟩))] 79)
  go_enter Tryd.func114, Tryd.ntmps114
  go_wp2_with fail
  refine (eUnwrap_p b _ _ hc').mono ?_
  rintro e w1 ⟨rfl, rfl⟩
  go_wp2_with fail
  go_ret
  exact ⟨rfl, rfl⟩
theorem lUnwrap_p (b : Nat) (u : TypeId) (x : Value) (w : World) (hc : w.cell? ⟨b, 1, none⟩ = some (.iface u x)) :
    Calls Tryd.prog 114 #[.agg #[.iface 66 (.pointer (some ⟨b, 0, none⟩))]] w fun e w' => e = .returned (.iface 79 (.agg #[.iface u x])) ∧ w' = w.alloc (.cells #[.iface 66 (.pointer (some ⟨b, 0, none⟩))] 79) := by
  have hc' := cell_alloc_old hc (.cells #[.iface 66 (.pointer (some ⟨b, 0, none⟩))] 79)
  go_enter Tryd.func114, Tryd.ntmps114
  go_wp2_with fail
  refine (eUnwrap_p b _ _ hc').mono ?_
  rintro e w1 ⟨rfl, rfl⟩
  go_wp2_with fail
  go_ret
  exact ⟨rfl, rfl⟩

/-! ### (link).As, at an Errno's variable -/
theorem lAs_c_nil (t : Addr) (w : World) : Calls Tryd.prog 113 #[.agg #[.nilIface], .iface 80 (.pointer (some t))] w fun e w' => e = .returned (.bool false) ∧ w' = w.alloc (.cells #[.nilIface] 79) := by
  have T0 := tt_CC
  have T1 := tc_nil
  go_enter Tryd.func113, Tryd.ntmps113
  go_wp2
  go_ret
  exact ⟨rfl, rfl⟩
theorem lAs_c_p (p t : Addr) (w : World) : Calls Tryd.prog 113 #[.agg #[.iface 66 (.pointer (some p))], .iface 80 (.pointer (some t))] w fun e w' => e = .returned (.bool false) ∧ w' = w.alloc (.cells #[.iface 66 (.pointer (some p))] 79) := by
  have T0 := tt_CC
  have T1 := tt_pc
  go_enter Tryd.func113, Tryd.ntmps113
  go_wp2
  go_ret
  exact ⟨rfl, rfl⟩
theorem lAs_c_c (c : Int) (t : Addr) (old : Value) (w : World) (ht : w.cell? t = some old) (hf : w.frozen? t = false) :
    Calls Tryd.prog 113 #[.agg #[.iface 29 (.int .i64 c)], .iface 80 (.pointer (some t))] w fun e w' => e = .returned (.bool true) ∧ w' = (w.alloc (.cells #[.iface 29 (.int .i64 c)] 79)).setCell t (.int .i64 c) := by
  have ht' := cell_alloc_old ht (.cells #[.iface 29 (.int .i64 c)] 79)
  have hf' := frozen_alloc_old ht hf (.cells #[.iface 29 (.int .i64 c)] 79)
  have T0 := tt_CC
  have T1 := tt_cc
  go_enter Tryd.func113, Tryd.ntmps113
  go_wp2
  go_ret
  exact ⟨rfl, rfl⟩
/-! ### (link).As, at a *Fault's variable -/
theorem lAs_p_nil (t : Addr) (w : World) : Calls Tryd.prog 113 #[.agg #[.nilIface], .iface 81 (.pointer (some t))] w fun e w' => e = .returned (.bool false) ∧ w' = w.alloc (.cells #[.nilIface] 79) := by
  have T0 := tt_PC
  have T1 := tt_PP
  have T2 := tp_nil
  go_enter Tryd.func113, Tryd.ntmps113
  go_wp2
  go_ret
  exact ⟨rfl, rfl⟩
theorem lAs_p_c (c : Int) (t : Addr) (w : World) : Calls Tryd.prog 113 #[.agg #[.iface 29 (.int .i64 c)], .iface 81 (.pointer (some t))] w fun e w' => e = .returned (.bool false) ∧ w' = w.alloc (.cells #[.iface 29 (.int .i64 c)] 79) := by
  have T0 := tt_PC
  have T1 := tt_PP
  have T2 := tt_cp
  go_enter Tryd.func113, Tryd.ntmps113
  go_wp2
  go_ret
  exact ⟨rfl, rfl⟩
theorem lAs_p_p (p t : Addr) (old : Value) (w : World) (ht : w.cell? t = some old) (hf : w.frozen? t = false) :
    Calls Tryd.prog 113 #[.agg #[.iface 66 (.pointer (some p))], .iface 81 (.pointer (some t))] w fun e w' => e = .returned (.bool true) ∧ w' = (w.alloc (.cells #[.iface 66 (.pointer (some p))] 79)).setCell t (.pointer (some p)) := by
  have ht' := cell_alloc_old ht (.cells #[.iface 66 (.pointer (some p))] 79)
  have hf' := frozen_alloc_old ht hf (.cells #[.iface 66 (.pointer (some p))] 79)
  have T0 := tt_PC
  have T1 := tt_PP
  have T2 := tt_pp
  go_enter Tryd.func113, Tryd.ntmps113
  go_wp2
  go_ret
  exact ⟨rfl, rfl⟩

/-! ### (link).Is, at an Errno -/
end Go.Proofs.YtgdlkaoadlipmaaDoor
