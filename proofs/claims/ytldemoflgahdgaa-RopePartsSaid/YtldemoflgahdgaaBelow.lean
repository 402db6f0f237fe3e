/- What lies below a mark is as it was: small steps. -/
import Derived.WalkKit
import Derived.Below
import Derived.Deep.Draws
namespace Go.Proofs.Ytldemoflgahdgaa
open Go.RowKit
theorem Below.drewMany {B : Nat} {w w1 : World} (h : Below B w w1) (n : Nat) : Below B w (w1.drewN n) := ⟨h.os, h.tape, h.output, h.size, h.block⟩
theorem Below.newly' (w : World) (o : Obj) : Below w.heap.size w (w.alloc o) := (Below.refl _ _).alloc (Nat.le_refl _) o
theorem Below.more {w w1 : World} (h : Below w.heap.size w w1) (o : Obj) : Below w.heap.size w (w1.alloc o) := h.alloc h.size o
theorem drawn_below (w : World) : Below w.heap.size w w.drew := Below.drewMany (Below.refl _ w) 1
end Go.Proofs.Ytldemoflgahdgaa
