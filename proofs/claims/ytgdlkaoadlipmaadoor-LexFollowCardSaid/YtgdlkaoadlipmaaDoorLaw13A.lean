/- The law's question of an error of a code at a place; what the law's calls of the landed functions are asked. -/
import Derived.Test.YtgdlkaoadlipmaaDoorRef13P
import Derived.Test.YtgdlkaoadlipmaaDoorFault2
import Derived.Test.YtgdlkaoadlipmaaDoorEsc
namespace Go.Proofs.YtgdlkaoadlipmaaDoor
open Go.RowKit
set_option maxRecDepth 1000000
set_option linter.unusedSimpArgs false

/-- E is no error, with the code 0; or one of this code at this place. -/
def ErrV (w : World) (E : Value) (c n : Int) : Prop := (c = 0 ∧ E = .nilIface) ∨ (c ≠ 0 ∧ ∃ l, Ch w.heap.size w E (some c) (l ++ [n]) ∧ l.length + 1 ≤ 1000)
theorem ErrV.later {w w' : World} {E : Value} {c n : Int} (h : ErrV w E c n) (hb : Below w.heap.size w w') : ErrV w' E c n := by
  rcases h with h | ⟨h0, l, h1, h2⟩
  · exact .inl h
  · exact .inr ⟨h0, l, h1.later hb hb.size, h2⟩
set_option maxHeartbeats 2000000 in
theorem lw_At (E : Value) (c n : Int) (w : World) (h : ErrV w E c n) (hT : ET w) : Calls Tryd.prog 11 #[E, .int .i64 n, .int .i64 c] w fun e w' => e = .returned (.bool true) ∧ Below w.heap.size w w' := by
  rcases h with ⟨rfl, rfl⟩ | ⟨h0, l, h1, h2⟩
  · clear hT
    go_enter Tryd.func11, Tryd.ntmps11
    go_wp2_with fail
    go_ret
    exact ⟨rfl, Below.refl _ _⟩
  · have HL := Lib.hid (fun W (hb : Below w.heap.size w W) => fault_Last E (some c) l n W (hT.below hb) (h1.later hb hb.size) (Nat.le_refl _) h2)
    have HC := Lib.hid (fun W (hb : Below w.heap.size w W) => fault_Code E (some c) (l ++ [n]) W (hT.below hb) (h1.later hb hb.size) (Nat.le_refl _))
    have hc0 : (c == 0) = false := beq_eq_false_iff_ne.2 h0
    obtain ⟨u, x, rfl⟩ := h1.iface
    have HW : Hid (Below w.heap.size w w) := Below.refl _ _
    clear h0 h1 h2 hT
    go_enter Tryd.func11, Tryd.ntmps11
    go_wp2_with (first
      | (go_at_call 15; refine (HL.out _ HW.out).mono ?_; rintro r V ⟨rfl, hb⟩; replace HW := Lib.hid (HW.out.trans (hb.mono HW.out.size)); clear hb)
      | (go_at_call 34; refine (HC.out _ HW.out).mono ?_; rintro r V ⟨rfl, hb⟩; replace HW := Lib.hid (HW.out.trans (hb.mono HW.out.size)); clear hb))
    go_ret
    exact ⟨by simp [codeS], HW.out⟩
end Go.Proofs.YtgdlkaoadlipmaaDoor
