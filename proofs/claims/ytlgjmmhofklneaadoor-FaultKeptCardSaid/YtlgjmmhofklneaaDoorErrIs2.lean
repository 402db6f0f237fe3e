/- Has of no error. -/
import Derived.Test.YtlgjmmhofklneaaDoorFault1
namespace Go.Proofs.YtlgjmmhofklneaaDoor
open Go.RowKit Go.Extern.Stop Go.Stop Go.Extern
set_option maxRecDepth 1000000

set_option maxHeartbeats 2000000 in
theorem is_link_nil (d : Int) (w : World) :
    Calls Tryd.prog 32 #[.iface 55 (.agg #[.nilIface]), .iface 22 (.int .i64 d), .bool true] w fun e w' => IsPost w none d e w' := by
  have g1 := fun (v : Value) (w : World) => run_eql_iface_types (P := Tryd.prog) 55 22 v (.int .i64 d) Tryd.underlying26 (by decide) w
  have f4 := is_l
  have f5 := met_Is_l
  have f6 := un_l
  have f7 := met_Unwrap_l
  go_enter Tryd.func32, Tryd.ntmps32
  go_wp2
  refine wp_loop_rounds 1 ?_
  rw [rounds_succ]
  go_wp2_with fail
  refine (lIs_nil d _).mono ?_
  rintro e w1 ⟨rfl, rfl⟩
  go_wp2_with fail
  refine (lUnwrap_nil _).mono ?_
  rintro e w1 ⟨rfl, rfl⟩
  go_wp2_with fail
  go_ret
  exact (⟨rfl, Below.more (Below.newly' _ _) _⟩ : IsPost w none d _ _)
theorem Is_link_nil (d : Int) (w : World) :
    Calls Tryd.prog 20 #[.iface 55 (.agg #[.nilIface]), .iface 22 (.int .i64 d)] w fun e w' => IsPost w none d e w' :=
  Is_head _ _ d w ((is_link_nil d w).mono fun _ _ h => ⟨⟨_, h.1⟩, h⟩)
theorem fault_Has_nil (d : Int) (w : World) :
    Calls Tryd.prog 19 #[.nilIface, .int .i64 d] w fun e w' => e = .returned (.bool false) ∧ Below w.heap.size w w' := by
  have HA := Lib.hid (Is_link_nil d w)
  go_enter Tryd.func19, Tryd.ntmps19
  go_wp2_with fail
  refine HA.out.mono ?_
  rintro e w1 ⟨rfl, h1⟩
  have H1 := Lib.hid h1
  clear h1
  go_wp2_with fail
  go_ret
  exact ⟨rfl, H1.out⟩
end Go.Proofs.YtlgjmmhofklneaaDoor
