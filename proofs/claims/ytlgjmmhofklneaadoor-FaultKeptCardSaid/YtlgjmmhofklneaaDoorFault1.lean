/- Package fault: New, In, Code, Has by their contracts. -/
import Derived.Test.YtlgjmmhofklneaaDoorErrAs2
import Derived.Test.YtlgjmmhofklneaaDoorErrIs
namespace Go.Proofs.YtlgjmmhofklneaaDoor
open Go.RowKit
set_option maxRecDepth 1000000
set_option maxHeartbeats 1000000

theorem fault_New_ok (n : Int) (w : World) : Calls Tryd.prog 26 #[.int .i64 0, .int .i64 n] w fun e w' => e = .returned .nilIface ∧ w' = w := by
  go_enter Tryd.func26, Tryd.ntmps26
  go_wp2
  go_ret
  exact ⟨rfl, rfl⟩
/-- New: a fault over an Errno. -/
theorem fault_New (c n : Int) (w : World) (h0 : ¬ c = 0) (hc : -9223372036854775808 ≤ c ∧ c ≤ 9223372036854775807) (hn : -9223372036854775808 ≤ n ∧ n ≤ 9223372036854775807) :
    Calls Tryd.prog 26 #[.int .i64 c, .int .i64 n] w fun e w' => ∃ b, e = .returned (.iface 43 (.pointer (some ⟨b, 0, none⟩))) ∧ w'.cell? ⟨b, 0, none⟩ = some (.int .i64 n) ∧ Ch w'.heap.size w' (.iface 43 (.pointer (some ⟨b, 0, none⟩))) (some c) [n] ∧ Below w.heap.size w w' := by
  have h : (c == 0) = false := beq_eq_false_iff_ne.2 h0
  have HC := Lib.hid hc
  have HN := Lib.hid hn
  clear hc hn h0
  go_enter Tryd.func26, Tryd.ntmps26
  go_wp2
  go_ret
  refine ⟨w.heap.size, rfl, by simp, ?_, Below.newly' _ _⟩
  exact .put w.heap.size n _ _ _ _ (by simp) HN.out (by simp) (by simp) (.code c HC.out)
theorem fault_In_nil (n : Int) (w : World) : Calls Tryd.prog 22 #[.nilIface, .int .i64 n] w fun e w' => e = .returned .nilIface ∧ w' = w := by
  go_enter Tryd.func22, Tryd.ntmps22
  go_wp2
  go_ret
  exact ⟨rfl, rfl⟩
/-- In: a fault over an error. -/
theorem fault_In {B : Nat} (E : Value) (c : Option Int) (l : List Int) (n : Int) (w : World) (hch : Ch B w E c l) (hB : B ≤ w.heap.size) (hn : -9223372036854775808 ≤ n ∧ n ≤ 9223372036854775807) :
    Calls Tryd.prog 22 #[E, .int .i64 n] w fun e w' => ∃ b, e = .returned (.iface 43 (.pointer (some ⟨b, 0, none⟩))) ∧ w.heap.size ≤ b ∧ w'.cell? ⟨b, 0, none⟩ = some (.int .i64 n) ∧ w'.cell? ⟨b, 1, none⟩ = some E ∧ Ch w'.heap.size w' (.iface 43 (.pointer (some ⟨b, 0, none⟩))) c (n :: l) ∧ Below w.heap.size w w' := by
  obtain ⟨u, x, rfl⟩ := hch.iface
  have HC := Lib.hid hch
  have HN := Lib.hid hn
  have HB := Lib.hid hB
  clear hch hn hB
  go_enter Tryd.func22, Tryd.ntmps22
  go_wp2
  go_ret
  refine ⟨w.heap.size, rfl, Nat.le_refl _, by simp, by simp, ?_, Below.newly' _ _⟩
  exact .put w.heap.size n _ _ _ _ (by simp) HN.out (by simp) (by simp) (HC.out.later ((Below.newly' _ _).mono HB.out) (by simp; exact Nat.le_succ_of_le HB.out))

/-- The code that is asked of an error. -/
def codeS : Option Int → Int
  | some c => c
  | none => 19
theorem fault_Code_nil (w : World) : Calls Tryd.prog 13 #[.nilIface] w fun e w' => e = .returned (.int .i64 0) ∧ w' = w := by
  go_enter Tryd.func13, Tryd.ntmps13
  go_wp2
  go_ret
  exact ⟨rfl, rfl⟩
theorem fault_Code {B : Nat} (E : Value) (c : Option Int) (l : List Int) (w : World) (hg : ET w) (hch : Ch B w E c l) (hB : B ≤ w.heap.size) :
    Calls Tryd.prog 13 #[E] w fun e w' => e = .returned (.int .i64 (codeS c)) ∧ Below w.heap.size w w' := by
  have hb : Below w.heap.size w (w.alloc (.cells #[.int .i64 0] 22)) := Below.newly' _ _
  have HA := Lib.hid (As_code E c l ⟨w.heap.size, 0, none⟩ (.int .i64 0) (w.alloc (.cells #[.int .i64 0] 22)) (hg.below hb) (hch.later (hb.mono hB) (Nat.le_refl _)) (Nat.le_trans hB hb.size) (by simp) (by simp))
  obtain ⟨u, x, rfl⟩ := hch.iface
  have HB := Lib.hid hb
  clear hg hch hB hb
  go_enter Tryd.func13, Tryd.ntmps13
  go_wp2_with fail
  refine HA.out.mono ?_
  rintro e w1 (⟨k, rfl, rfl, w2, h1, rfl⟩ | ⟨rfl, rfl, h1⟩)
  · have hlt : w.heap.size < w2.heap.size := by have := h1.size; simp at this; omega
    have hc : (w2.setCell ⟨w.heap.size, 0, none⟩ (.int .i64 k)).cell? ⟨w.heap.size, 0, none⟩ = some (.int .i64 k) := by
      have hh : w2.heap[w.heap.size]? = some (.cells #[.int .i64 0] 22 (0, 0)) := by rw [h1.block w.heap.size (by simp)]; exact heap_alloc_new w _
      simp [World.setCell, World.cell?, Array.getElem?_modify, hh]
    have H1 := Lib.hid h1
    clear h1 hlt
    go_wp2_with fail
    go_ret
    exact ⟨rfl, ((HB.out.trans (H1.out.mono (by simp))).setCell (p := ⟨w.heap.size, 0, none⟩) (Nat.le_refl _) _)⟩
  · have H1 := Lib.hid h1
    clear h1
    go_wp2_with fail
    go_ret
    exact ⟨rfl, HB.out.trans (H1.out.mono (by simp))⟩
/-- Has. -/
theorem fault_Has {B : Nat} (E : Value) (c : Option Int) (l : List Int) (d : Int) (w : World) (hch : Ch B w E c l) (hB : B ≤ w.heap.size) :
    Calls Tryd.prog 19 #[E, .int .i64 d] w fun e w' => e = .returned (.bool (c == some d)) ∧ Below w.heap.size w w' := by
  have HA := Lib.hid (Is_link E c l d w hch hB)
  obtain ⟨u, x, rfl⟩ := hch.iface
  clear hch hB
  go_enter Tryd.func19, Tryd.ntmps19
  go_wp2_with fail
  refine HA.out.mono ?_
  rintro e w1 ⟨rfl, h1⟩
  have H1 := Lib.hid h1
  clear h1
  go_wp2_with fail
  go_ret
  exact ⟨rfl, H1.out⟩
end Go.Proofs.YtlgjmmhofklneaaDoor
