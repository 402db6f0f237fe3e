/- A list of bytes that a call makes with a capacity. -/
import Derived.Test.YtjefaibnlhnaiaaBuf
import Derived.OwnWalk
namespace Go.Proofs.Ytjefaibnlhnaiaa
open Go.RowKit

/-- 'make([]byte, 0, n)': a list of its own, empty. -/
theorem buf_make {ops : Array Oper} {rest : List Oper} {o : Oper} {a : Act} {Q : Exit → Act → World → Prop} {w : World} (hgd : o.guard = none) (l c : Operand) (hop : o.op = .makeSlice 41 l c)
    {B : Nat} (kl kc : IntKind) (C : Int) (n : Nat) (hl : a.eval l = .int kl 0) (hc : a.eval c = .int kc C) (hC : C = (n : Int)) (hn : n ≤ 10000000) (hB : B ≤ w.heap.size)
    (h : ∀ v w', Buf B v [] w' → Below w.heap.size w w' → wpList Try.prog ops Q rest (a.put o.dst v) w') : wpList Try.prog ops Q (o :: rest) a w := by
  obtain ⟨i, hi, hz, h1, h2⟩ := info_parts u8_info
  refine wpList_make_own w hgd l c 41 hop B 5 i (.int .u8 0) 1 Try.underlying41 hi hz h1 kl kc C n hl hc hC (by rw [h2]; omega) (by unfold maxLen; omega) hB fun w' r1 r2 => ?_
  have hb : Below w.heap.size w w' := (Below.refl _ _).grown r2 (Nat.le_refl _) (fun k hk => by cases hk)
  exact h _ _ ⟨World.ownsRowF_of r1, Nat.le_trans hB hb.size⟩ hb
end Go.Proofs.Ytjefaibnlhnaiaa
