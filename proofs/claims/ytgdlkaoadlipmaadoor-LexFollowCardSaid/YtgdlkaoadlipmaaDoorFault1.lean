/- Package fault: New, In, Code, Has by their contracts. -/
import Derived.Test.YtgdlkaoadlipmaaDoorErrAs2
import Derived.Test.YtgdlkaoadlipmaaDoorErrIs
namespace Go.Proofs.YtgdlkaoadlipmaaDoor
open Go.RowKit
set_option maxRecDepth 1000000
set_option maxHeartbeats 1000000

theorem fault_New_ok (n : Int) (w : World) : Calls Tryd.prog 18 #[.int .i64 0, .int .i64 n] w fun e w' => e = .returned .nilIface ∧ w' = w := by
  go_enter Tryd.func18, Tryd.ntmps18
  go_wp2
  go_ret
  exact ⟨rfl, rfl⟩
/-- New: a fault over an Errno. -/
theorem fault_New (c n : Int) (w : World) (h0 : ¬ c = 0) (hc : -9223372036854775808 ≤ c ∧ c ≤ 9223372036854775807) (hn : -9223372036854775808 ≤ n ∧ n ≤ 9223372036854775807) :
    Calls Tryd.prog 18 #[.int .i64 c, .int .i64 n] w fun e w' => ∃ b, e = .returned (.iface 66 (.pointer (some ⟨b, 0, none⟩))) ∧ w'.cell? ⟨b, 0, none⟩ = some (.int .i64 n) ∧ Ch w'.heap.size w' (.iface 66 (.pointer (some ⟨b, 0, none⟩))) (some c) [n] ∧ Below w.heap.size w w' := by
  have h : (c == 0) = false := beq_eq_false_iff_ne.2 h0
  have HC := Lib.hid hc
  have HN := Lib.hid hn
  clear hc hn h0
  go_enter Tryd.func18, Tryd.ntmps18
  go_wp2
  go_ret
  refine ⟨w.heap.size, rfl, by simp, ?_, Below.newly' _ _⟩
  exact .put w.heap.size n _ _ _ _ (by simp) HN.out (by simp) (by simp) (.code c HC.out)
/-- The code that is asked of an error. -/
def codeS : Option Int → Int
  | some c => c
  | none => 19
theorem fault_Code_nil (w : World) : Calls Tryd.prog 34 #[.nilIface] w fun e w' => e = .returned (.int .i64 0) ∧ w' = w := by
  go_enter Tryd.func34, Tryd.ntmps34
  go_wp2
  go_ret
  exact ⟨rfl, rfl⟩
theorem fault_Code {B : Nat} (E : Value) (c : Option Int) (l : List Int) (w : World) (hg : ET w) (hch : Ch B w E c l) (hB : B ≤ w.heap.size) :
    Calls Tryd.prog 34 #[E] w fun e w' => e = .returned (.int .i64 (codeS c)) ∧ Below w.heap.size w w' := by
  have hb : Below w.heap.size w (w.alloc (.cells #[.int .i64 0] 29)) := Below.newly' _ _
  have HA := Lib.hid (As_code E c l ⟨w.heap.size, 0, none⟩ (.int .i64 0) (w.alloc (.cells #[.int .i64 0] 29)) (hg.below hb) (hch.later (hb.mono hB) (Nat.le_refl _)) (Nat.le_trans hB hb.size) (by simp) (by simp))
  obtain ⟨u, x, rfl⟩ := hch.iface
  have HB := Lib.hid hb
  clear hg hch hB hb
  go_enter Tryd.func34, Tryd.ntmps34
  go_wp2_with fail
  refine HA.out.mono ?_
  rintro e w1 (⟨k, rfl, rfl, w2, h1, rfl⟩ | ⟨rfl, rfl, h1⟩)
  · have hlt : w.heap.size < w2.heap.size := by have := h1.size; simp at this; omega
    have hc : (w2.setCell ⟨w.heap.size, 0, none⟩ (.int .i64 k)).cell? ⟨w.heap.size, 0, none⟩ = some (.int .i64 k) := by
      have hh : w2.heap[w.heap.size]? = some (.cells #[.int .i64 0] 29 (0, 0)) := by rw [h1.block w.heap.size (by simp)]; exact heap_alloc_new w _
      simp [World.setCell, World.cell?, Array.getElem?_modify, hh]
    have H1 := Lib.hid h1
    clear h1 hlt
    go_wp2_with fail
    go_ret
    exact ⟨rfl, ((HB.out.trans (H1.out.mono (by simp))).setCell (p := ⟨w.heap.size, 0, none⟩) (Nat.le_refl _) _)⟩
  · have H1 := Lib.hid h1
    clear h1
    go_wp2_with fail
    go_ret
    exact ⟨rfl, HB.out.trans (H1.out.mono (by simp))⟩
end Go.Proofs.YtgdlkaoadlipmaaDoor
