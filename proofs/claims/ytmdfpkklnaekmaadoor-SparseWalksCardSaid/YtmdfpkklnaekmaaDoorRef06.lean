/- Layer 6: the document's own rows: 32 places, what they answer. -/
import Derived.Test.YtmdfpkklnaekmaaDoorSparsePure
import Derived.Test.YtmdfpkklnaekmaaDoorCells
import Derived.Handy
namespace Go.Proofs.YtmdfpkklnaekmaaDoor
open Go.RowKit
set_option maxRecDepth 1000000

/-- These 64 cells are the document's row. -/
structure RC (R : Rw) (c : Array Value) : Prop where
  size : c.size = 64
  is : ∀ i, i < 32 → c[i]? = some (.bool (R i).isSome)
  x : ∀ i, i < 32 → c[32 + i]? = some (.int .i64 ((R i).getD 0))
theorem RC.one {R : Rw} {c : Array Value} (h : RC R c) : c.all (·.oneCell') = true := by
  rw [Array.all_eq_true_iff_forall_mem]
  intro v hv
  obtain ⟨k, hk, rfl⟩ := Array.mem_iff_getElem.1 hv
  by_cases h1 : k < 32
  · have := h.is k h1
    rw [Array.getElem?_eq_getElem hk] at this
    rw [Option.some.inj this]; rfl
  · have := h.x (k - 32) (by have := h.size; omega)
    rw [show 32 + (k - 32) = k by omega, Array.getElem?_eq_getElem hk] at this
    rw [Option.some.inj this]; rfl
theorem RC.cells {R : Rw} {c : Array Value} (h : RC R c) {W : World} {X : Nat} {T : TypeId} {fr : Nat × Nat} (hB : W.heap[X]? = some (.cells c T fr)) {j : Nat} (hj : j < 32) :
    W.cell? ⟨X, j, none⟩ = some (.bool (R j).isSome) ∧ W.cell? ⟨X, 32 + j, none⟩ = some (.int .i64 ((R j).getD 0)) := ⟨cell_in hB (h.is j hj), cell_in hB (h.x j hj)⟩
theorem RC.put {R : Rw} {c : Array Value} (h : RC R c) {j : Nat} (hj : j < 32) (b : Bool) (n : Int) (r : Option Int) (hb : r.isSome = b) (hn : r.getD 0 = n) :
    RC (fun k => if k = j then r else R k) ((c.setIfInBounds j (.bool b)).setIfInBounds (32 + j) (.int .i64 n)) := by
  refine ⟨by simp [h.size], fun i hi => ?_, fun i hi => ?_⟩
  · rw [Array.getElem?_setIfInBounds, if_neg (by omega), Array.getElem?_setIfInBounds]
    by_cases e : j = i
    · subst e; simp [h.size, hb]; omega
    · have e' : ¬ i = j := fun x => e x.symm
      simp only [if_neg e, if_neg e']; exact h.is i hi
  · rw [Array.getElem?_setIfInBounds]
    by_cases e : j = i
    · subst e; simp [h.size, hn]; omega
    · have e' : ¬ i = j := fun x => e x.symm
      rw [if_neg (by omega), Array.getElem?_setIfInBounds, if_neg (by omega)]
      simp only [if_neg e']; exact h.x i hi
theorem no_step {R : Rw} {k : Nat} (h : ∀ j, j < k → (R j).isSome = false) (hk : (R k).isSome = false) : ∀ j, j < k + 1 → (R j).isSome = false := fun j hj => by
  rcases Nat.lt_or_ge j k with h1 | h1
  · exact h j h1
  · obtain rfl : j = k := by omega
    exact hk
theorem ret_i6 {x y : Int} (h : x = y) : Ending.returned (.int .i64 x) = .returned (.int .i64 y) := by rw [h]
theorem ret_u6 {x y : Int} (h : x = y) : Ending.returned (.int .u32 x) = .returned (.int .u32 y) := by rw [h]

theorem ref_On (i : Int) (w : World) : Calls Tryd.prog 32 #[.int .i64 i] w fun e w' => e = .returned (.bool (onP i)) ∧ w = w' := by
  by_cases h0 : 0 ≤ i
  · by_cases h1 : i < 32
    · rw [show onP i = true by simp [onP, h0, h1]]
      go_enter Tryd.func32, Tryd.ntmps32
      go_wp2
      go_ret
      exact ⟨rfl, rfl⟩
    · rw [show onP i = false by simp [onP, h1]]
      go_enter Tryd.func32, Tryd.ntmps32
      go_wp2
      go_ret
      exact ⟨rfl, rfl⟩
  · rw [show onP i = false by simp [onP, h0]]
    go_enter Tryd.func32, Tryd.ntmps32
    go_wp2
    go_ret
    exact ⟨rfl, rfl⟩
set_option maxHeartbeats 2000000 in
theorem ref_Get6 (R : Rw) (c : Array Value) (hc : RC R c) (i : Int) (w : World) : Calls Tryd.prog 13 #[.agg c, .int .i64 i] w fun e w' => e = .returned (.tuple #[.int .i64 (getR R i).1, .bool (getR R i).2]) ∧ Below w.heap.size w w' := by
  have HO := Lib.hid (fun W => ref_On i W)
  have HN := Lib.hid (Below.newly' w (.cells c 31))
  by_cases ho : onP i = true
  · rw [ho] at HO
    obtain ⟨j, rfl, hj⟩ := on_nat ho
    rw [get_on hj]
    obtain ⟨c0, c1⟩ := hc.cells (heap_alloc_last w (.cells c 31)) hj
    have i0 : (0 : Int) ≤ (j : Int) := by omega
    have i1 : (j : Int) < 32 := by omega
    clear ho
    cases hr : (R j).isSome
    · rw [hr] at c0
      have HR : Hid ((R j).getD 0 = 0) := by show _ = _; cases h : R j with | none => rfl | some n => rw [h] at hr; cases hr
      go_enter Tryd.func13, Tryd.ntmps13
      go_wp2_with fail
      refine (HO.out _).mono ?_
      rintro e w1 ⟨rfl, rfl⟩
      go_wp2_with fail
      go_ret2
      exact ⟨by rw [HR.out]; rfl, HN.out⟩
    · rw [hr] at c0
      go_enter Tryd.func13, Tryd.ntmps13
      go_wp2_with fail
      refine (HO.out _).mono ?_
      rintro e w1 ⟨rfl, rfl⟩
      go_wp2_with fail
      go_ret2
      exact ⟨rfl, HN.out⟩
  · rw [get_off ho]
    have ho' : onP i = false := by simpa using ho
    rw [ho'] at HO
    go_enter Tryd.func13, Tryd.ntmps13
    go_wp2_with fail
    refine (HO.out _).mono ?_
    rintro e w1 ⟨rfl, rfl⟩
    go_wp2_with fail
    go_ret2
    exact ⟨rfl, HN.out⟩
set_option maxHeartbeats 2000000 in
theorem ref_Len6 (R : Rw) (c : Array Value) (hc : RC R c) (w : World) : Calls Tryd.prog 16 #[.agg c] w fun e w' => e = .returned (.int .i64 (cntR R 32 : Nat)) ∧ Below w.heap.size w w' := by
  have HN := Lib.hid (Below.newly' w (.cells c 31))
  have HC := Lib.hid hc
  clear hc
  go_enter Tryd.func16, Tryd.ntmps16
  go_wp2
  go_loopw [3, 5] (fun n i wl => ∃ k : Nat, k ≤ 32 ∧ i = .int .i64 k ∧ n = .int .i64 (cntR R k : Nat) ∧ wl = w.alloc (.cells c 31)) (fun _ i _ => 32 - (intOf i).toNat)
  case atStart => exact ⟨0, by omega, rfl, rfl, rfl⟩
  case round =>
    obtain ⟨k, hk, rfl, rfl, rfl⟩ := hrel
    have hle := cnt_le R k
    by_cases hlt : k < 32
    · obtain ⟨c0, c1⟩ := HC.out.cells (heap_alloc_last w (.cells c 31)) hlt
      have i0 : (0 : Int) ≤ (k : Int) := by omega
      have i1 : (k : Int) < 32 := by omega
      cases hr : (R k).isSome
      · have HR : Hid (cntR R (k + 1) = cntR R k) := by show _ = _; simp [cntR, hr]
        rw [hr] at c0
        go_wp2_with fail
        go_roundw
        case rel => exact ⟨k + 1, by omega, by go_num, by rw [HR.out], trivial⟩
        case measure => simp [intOf]; omega
      · have HR : Hid (cntR R (k + 1) = cntR R k + 1) := by show _ = _; simp [cntR, hr]
        rw [hr] at c0
        go_wp2_with fail
        go_roundw
        case rel => exact ⟨k + 1, by omega, by go_num, by rw [HR.out]; go_num, trivial⟩
        case measure => simp [intOf]; omega
    · obtain rfl : k = 32 := by omega
      go_wp2_with fail
      go_ret
      exact ⟨rfl, HN.out⟩
set_option maxHeartbeats 2000000 in
theorem ref_Bits6 (R : Rw) (c : Array Value) (hc : RC R c) (w : World) : Calls Tryd.prog 20 #[.agg c] w fun e w' => e = .returned (.int .u32 (bitsR R 32 : Nat)) ∧ Below w.heap.size w w' := by
  have HN := Lib.hid (Below.newly' w (.cells c 31))
  have HC := Lib.hid hc
  clear hc
  go_enter Tryd.func20, Tryd.ntmps20
  go_wp2
  go_loopw [3, 5] (fun n i wl => ∃ k : Nat, k ≤ 32 ∧ i = .int .i64 k ∧ n = .int .u32 (bitsR R k : Nat) ∧ wl = w.alloc (.cells c 31)) (fun _ i _ => 32 - (intOf i).toNat)
  case atStart => exact ⟨0, by omega, rfl, rfl, rfl⟩
  case round =>
    obtain ⟨k, hk, rfl, rfl, rfl⟩ := hrel
    by_cases hlt : k < 32
    · obtain ⟨c0, c1⟩ := HC.out.cells (heap_alloc_last w (.cells c 31)) hlt
      have i0 : (0 : Int) ≤ (k : Int) := by omega
      have i1 : (k : Int) < 32 := by omega
      cases hr : (R k).isSome
      · have HR : Hid (bitsR R (k + 1) = bitsR R k) := by show _ = _; simp [bitsR, hr]
        rw [hr] at c0
        go_wp2_with fail
        go_roundw
        case rel => exact ⟨k + 1, by omega, by go_num, by rw [HR.out], trivial⟩
        case measure => simp [intOf]; omega
      · have HR : Hid (bitsR R (k + 1) = bitsR R k + 2 ^ k) := by show _ = _; simp [bitsR, hr]
        have HE := or_bit (bitsR R k) k (bits_lt R k) hlt
        rw [IntKind.wrap_u32] at HE
        replace HE := Lib.hid HE
        rw [hr] at c0
        go_wp2_with fail
        go_roundw
        case rel => exact ⟨k + 1, by omega, by go_num, by rw [HR.out, ← HE.out], trivial⟩
        case measure => simp [intOf]; omega
    · obtain rfl : k = 32 := by omega
      go_wp2_with fail
      go_ret
      exact ⟨rfl, HN.out⟩
set_option maxHeartbeats 2000000 in
theorem ref_First6 (R : Rw) (c : Array Value) (hc : RC R c) (w : World) : Calls Tryd.prog 33 #[.agg c] w fun e w' => e = .returned (.tuple #[.int .i64 (firstR R).1, .int .i64 (firstR R).2.1, .bool (firstR R).2.2]) ∧ Below w.heap.size w w' := by
  have HN := Lib.hid (Below.newly' w (.cells c 31))
  have HC := Lib.hid hc
  clear hc
  go_enter Tryd.func33, Tryd.ntmps33
  go_wp2
  go_loopw [6] (fun i wl => ∃ k : Nat, k ≤ 32 ∧ i = .int .i64 k ∧ (∀ j, j < k → (R j).isSome = false) ∧ wl = w.alloc (.cells c 31)) (fun i _ => 32 - (intOf i).toNat)
  case atStart => exact ⟨0, by omega, rfl, fun j hj => absurd hj (by omega), rfl⟩
  case round =>
    obtain ⟨k, hk, rfl, hno, rfl⟩ := hrel
    have HO := Lib.hid hno
    clear hno
    by_cases hlt : k < 32
    · obtain ⟨c0, c1⟩ := HC.out.cells (heap_alloc_last w (.cells c 31)) hlt
      have i0 : (0 : Int) ≤ (k : Int) := by omega
      have i1 : (k : Int) < 32 := by omega
      cases hr : (R k).isSome
      · have HR := Lib.hid hr
        rw [hr] at c0
        clear hr
        go_wp2_with fail
        go_roundw
        case rel => exact ⟨k + 1, by omega, by go_num, no_step HO.out HR.out, trivial⟩
        case measure => simp [intOf]; omega
      · have HR := Lib.hid (first_at hlt HO.out hr)
        rw [hr] at c0
        clear hr
        go_wp2_with fail
        go_region
        all_goals go_wp2_with fail
        all_goals
          go_ret3
          exact ⟨by rw [HR.out]; rfl, Below.drewMany HN.out 1⟩
    · obtain rfl : k = 32 := by omega
      have HR := Lib.hid (first_none HO.out)
      go_wp2_with fail
      go_ret3
      exact ⟨by rw [HR.out]; rfl, HN.out⟩
end Go.Proofs.YtmdfpkklnaekmaaDoor
