/- Lists of numbers behind a plain address; 'l[k:]', 'l[:k]'; what is asked of a list at a place. -/
import Derived.Test.YtldemoflgahdgaaOwns
import Derived.Test.YtldemoflgahdgaaRuns
import Derived.Test.YtldemoflgahdgaaResRow
namespace Go.Proofs.Ytldemoflgahdgaa
open Go.RowKit
set_option maxRecDepth 1000000
set_option linter.unusedSimpArgs false

/-- v reads as n numbers behind a plain address. -/
def SpotAt (W : World) (v : Value) (f : Nat → Int) (n : Nat) : Prop := ∃ (a : Option Addr) (b o cap : Nat), v = .slice a n cap ∧ n ≤ cap ∧ (0 < n → a = some ⟨b, o, none⟩) ∧ ∀ j, j < n → W.cell? ⟨b, o + j, none⟩ = some (.int .i64 (f j))
theorem SpotAt.later {W W' : World} {v : Value} {f : Nat → Int} {n : Nat} (h : SpotAt W v f n) (hb : Below W.heap.size W W') : SpotAt W' v f n := by
  obtain ⟨a, b, o, cap, h1, h2, h3, h4⟩ := h
  exact ⟨a, b, o, cap, h1, h2, h3, fun j hj => (hb.cell (p := ⟨b, o + j, none⟩) (World.block_lt_of_cell? W _ (h4 j hj))).trans (h4 j hj)⟩
theorem SpotAt.congr {W : World} {v : Value} {f g : Nat → Int} {n : Nat} (h : SpotAt W v f n) (e : ∀ j, j < n → f j = g j) : SpotAt W v g n := by
  obtain ⟨a, b, o, cap, h1, h2, h3, h4⟩ := h
  exact ⟨a, b, o, cap, h1, h2, h3, fun j hj => by rw [← e j hj]; exact h4 j hj⟩
theorem SpotAt.places {W : World} {v : Value} {f : Nat → Int} {n : Nat} (h : SpotAt W v f n) : PlacesAt W 1 v (fi f) n := by
  obtain ⟨a, b, o, cap, rfl, h2, h3, h4⟩ := h
  exact ⟨a, cap, rfl, fun h0 => ⟨_, h3 h0, fun j hj => by rw [add_at]; exact h4 j (by omega)⟩⟩
/-- 'l[k:]' of a list of numbers that lies plainly. -/
theorem ints_drop (b o n c k : Nat) (h1 : k ≤ n) (w : World) : (Instr.slice 31 (.slice (some ⟨b, o, none⟩) n c) (some (.int .i64 (k : Int))) none none).run Try.prog w = .ok (.slice (if c = k then some ⟨b, o, none⟩ else some ⟨b, o + k, none⟩) (n - k) (c - k)) w := by
  have hu : Try.prog.underlying 31 = some (.slice (Try.prog.elem 31)) := by kernel_rfl
  have hs : (sizeOf (Try.prog.elem 31)).run Try.prog w = .ok 1 w := by
    have e : Try.prog.elem 31 = 3 := by kernel_rfl
    rw [e]
    obtain ⟨i, hi, _, h1, _⟩ := info_parts int_info
    simp [sizeOf, typeInfo, hi, h1]
  rw [run_slice_l w _ _ _ _ hu _ _ (by omega) (by omega), hs]
  simp only [Result.andThen_ok, sliced, Int.toNat_natCast, Nat.mul_one, Option.map_some, add_at]
theorem spot_drop {W : World} {b o n c k : Nat} {f : Nat → Int} (h : SpotAt W (.slice (some ⟨b, o, none⟩) n c) f n) (hk : k ≤ n) : SpotAt W (.slice (if c = k then some ⟨b, o, none⟩ else some ⟨b, o + k, none⟩) (n - k) (c - k)) (fun j => f (k + j)) (n - k) := by
  obtain ⟨a, b', o', cap, e, h2, h3, h4⟩ := h
  simp only [Value.slice.injEq, true_and] at e
  obtain ⟨rfl, rfl⟩ := e
  refine ⟨_, b, o + k, _, rfl, by omega, fun h0 => by rw [if_neg (by omega)], fun j hj => ?_⟩
  have e2 := h3 (by omega)
  simp only [Option.some.injEq, Addr.mk.injEq, and_true] at e2
  obtain ⟨rfl, rfl⟩ := e2
  rw [Nat.add_assoc]
  exact h4 (k + j) (by omega)
/-- 'l[:k]' of a list of numbers. -/
theorem ints_cut (ad : Addr) (n c k : Nat) (h1 : k ≤ c) (w : World) : (Instr.slice 31 (.slice (some ad) n c) none (some (.int .i64 (k : Int))) none).run Try.prog w = .ok (.slice (some ad) k c) w := by
  have hu : Try.prog.underlying 31 = some (.slice (Try.prog.elem 31)) := by kernel_rfl
  have hs : (sizeOf (Try.prog.elem 31)).run Try.prog w = .ok 1 w := by
    have e : Try.prog.elem 31 = 3 := by kernel_rfl
    rw [e]
    obtain ⟨i, hi, _, h1, _⟩ := info_parts int_info
    simp [sizeOf, typeInfo, hi, h1]
  rw [run_slice_h w _ _ _ _ hu _ _ (by omega) (by omega), hs]
  have e0 : ad.add 0 = ad := by unfold Addr.add; simp
  simp only [Result.andThen_ok, sliced, Int.toNat_natCast, Nat.sub_zero, Nat.zero_mul, Option.map_some, e0, ite_self]
/-- What is asked of a vector at a place. -/
def getF (f : Nat → Int) (n : Nat) (i : Int) : Int × Bool := if 0 ≤ i ∧ i < n then (f i.toNat, true) else (0, false)
end Go.Proofs.Ytldemoflgahdgaa
