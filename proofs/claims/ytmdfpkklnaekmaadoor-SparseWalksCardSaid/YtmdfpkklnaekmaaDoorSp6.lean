/- Package sparse: All: the iterator's contract. -/
import Derived.Test.YtmdfpkklnaekmaaDoorSp3
import Derived.RangeFuncNested
import Derived.RangeFuncBound
import Derived.RangeFuncCalls
import Derived.RangeFuncLeaves
import Derived.RangeFuncBox
import Derived.Shelf.Abstract
import Derived.Shelf.RegionOpen
import Derived.OwnWalkIn
import Derived.TacticsInMore
import Derived.LoopNIn
import Derived.LoopIn
namespace Go.Proofs.YtmdfpkklnaekmaaDoor
open Go.RowKit Go.Shelf
set_option maxRecDepth 1000000
set_option linter.unusedSimpArgs false
attribute [local go_sem] Oper.semAt_some

abbrev encP (x : Nat × Int) : Array Value := #[Value.int .i64 (x.1 : Int), Value.int .i64 x.2]
/-- What lies below n₀ of a list. -/
def LisIn (n₀ : Nat) (W : World) (v : Value) (zs : List Int) : Prop :=
  (zs = [] ∧ v = .slice none 0 0) ∨ (0 < zs.length ∧ ∃ (g c : Nat), v = .slice (some ⟨g, 0, none⟩) zs.length c ∧ g < n₀ ∧ ∀ k (hk : k < zs.length), W.cell? ⟨g, k, none⟩ = some (.int .i64 zs[k]))
theorem LisAt.in_ {W : World} {v : Value} {zs : List Int} (h : LisAt W v zs) : LisIn W.heap.size W v zs := by
  rcases h with h | ⟨h0, g, c, cs, fr, rfl, _, h3, h4⟩
  · exact .inl h
  · exact .inr ⟨h0, g, c, rfl, (Array.getElem?_eq_some_iff.1 h3).1, fun k hk => cell_in h3 (h4 k _ (by rw [iv, List.getElem?_map, List.getElem?_eq_getElem hk]; rfl))⟩
theorem LisIn.below {n₀ : Nat} {A B : World} {v : Value} {zs : List Int} (h : Below n₀ A B) : LisIn n₀ A v zs → LisIn n₀ B v zs
  | .inl e => .inl e
  | .inr ⟨h0, g, c, e, hg, hc⟩ => .inr ⟨h0, g, c, e, hg, fun k hk => (h.cell (p := ⟨g, k, none⟩) hg).trans (hc k hk)⟩
set_option maxHeartbeats 2000000 in
theorem sp_all1_in (n : Nat) (hn : 1 ≤ n) (l Bs n₀ : Nat) (R : Rw) (g cp : Nat) (hgn : g < n₀) (htn : 0 < n₀) (J Jx : List (Nat × Int) → World → Prop)
    (hY : ∀ pre x W, J pre W → pre.length < (allR R).length → YieldAt Fence.wide (n - 1) Tryd.prog l #[Value.int .i64 (x.1 : Int), Value.int .i64 x.2] W fun e W' =>
      (e = .returned (.bool true) ∧ J (pre ++ [x]) W' ∧ Below n₀ W W') ∨ (e = .returned (.bool false) ∧ Jx (pre ++ [x]) W'))
    (W : World) (hB0 : W.cell? ⟨Bs, 0, none⟩ = some (.int .u32 (bitsR R 32 : Nat))) (hB1 : W.cell? ⟨Bs, 1, none⟩ = some (.slice (some ⟨g, 0, none⟩) (lisR R).length cp))
    (hL : ∀ k (hk : k < (lisR R).length), W.cell? ⟨g, k, none⟩ = some (.int .i64 (lisR R)[k])) (hT : Tab6 W) (h0 : J [] W) :
    CallsIn Fence.wide n Tryd.prog 34 #[.func (.yield l) #[] #[], .pointer (some ⟨Bs, 0, none⟩)] W fun e W' => (∃ v, e = .returned v) ∧
      ((∃ ys, ys = allR R ∧ J ys W') ∨ (∃ pre, (∃ k, k ≤ (allR R).length ∧ pre = (allR R).take k) ∧ Jx pre W')) := by
  refine callsIn_of_wp Tryd.func34 rfl trivial ?_ rfl
  simp only [Tryd.ntmps34, List.size_toArray, List.length_cons, List.length_nil, Nat.reduceAdd, Nat.reduceSub, Array.replicate_succ, Array.replicate_zero, List.push_toArray, List.append_toArray, List.nil_append, List.cons_append]
  gi_wp2
  have HLEN := Lib.hid (show (lisR R).length = (allR R).length by rw [lisR_len, all_len])
  have hl32 : ((lisR R).length : Int) ≤ 32 := by have := cnt_le R 32; rw [← lisR_len] at this; omega
  gi_loopw [3, 11] (fun left i wr => ∃ k p : Nat, k ≤ (lisR R).length ∧ cntR R p = k ∧ i = .int .i64 k ∧ left = .int .u32 (leftN (bitsR R 32) p : Nat) ∧ J ((allR R).take k) wr ∧ Below n₀ W wr) (fun _ i _ => (lisR R).length - (intOf i).toNat)
  case atStart => exact ⟨0, 0, Nat.zero_le _, rfl, rfl, by rw [left_zero], h0, Below.refl _ _⟩
  case round =>
    obtain ⟨k, p, hk, hp, rfl, rfl, hJs, hnx⟩ := hrel
    by_cases hlt : k < (lisR R).length
    · obtain ⟨q, x, hz0, hctz, hpq, hq, hx, hcq, hcq1, hleft⟩ := left_low R (p := p) (by rw [hp, ← lisR_len]; exact hlt)
      have hcell := (hnx.cell (p := ⟨g, k, none⟩) hgn).trans (hL k hlt)
      have hal := all_at R hq hx
      rw [hcq, hp] at hal
      have hli := lis_at R hq hx
      rw [hcq, hp, List.getElem?_eq_getElem hlt] at hli
      obtain hli := Option.some.inj hli
      rw [hli] at hcell
      have htk : (allR R).take k ++ [(q, x)] = (allR R).take (k + 1) := by
        obtain ⟨h1, h2⟩ := List.getElem?_eq_some_iff.1 hal
        rw [List.take_succ_eq_append_getElem h1, h2]
      obtain ⟨fn, tmps, assign, body, hy, hR⟩ := hY _ (q, x) wr hJs (by rw [List.length_take, ← HLEN.out]; omega)
      dsimp only at hy
      have hLlt : leftN (bitsR R 32) p < 4294967296 := left_lt p (bits_lt R 32)
      have hT3 : Tab6 wr := fun j hj => (hnx.cell (p := ⟨0, j, none⟩) htn).trans (hT j hj)
      have HZ := Lib.hid (sp_zeros (leftN (bitsR R 32) p) hLlt hz0 wr hT3)
      rw [hctz] at HZ
      obtain ⟨L, hLe⟩ : ∃ L, L = leftN (bitsR R 32) p := ⟨_, rfl⟩
      obtain ⟨L', hLe'⟩ : ∃ L', L' = leftN (bitsR R 32) (q + 1) := ⟨_, rfl⟩
      rw [← hLe, ← hLe'] at hleft
      rw [← hLe] at hz0 hLlt HZ ⊢
      obtain ⟨M, hM⟩ : ∃ M, M = L - 1 := ⟨_, rfl⟩
      rw [← hM] at hleft
      have e1 : (L : Int) - 1 = (M : Int) := by omega
      have e2 : bits .and .u32 (L : Int) (M : Int) = (L' : Int) := by rw [← hleft]; exact and_32 L M hLlt
      have hL1 : 1 ≤ (L : Int) := by omega
      have HLE' := Lib.hid hLe'
      have HTK := Lib.hid htk
      have HCQ := Lib.hid (hcq1.trans (by rw [hp]))
      clear hal hli htk hleft hM hctz hLe hLe' hT3 hcq hcq1
      gi_wp2_with (refine ⟨trivial, ?_⟩; gi_at_call 35; refine (callsIn_wide.2 HZ.out).mono ?_; rintro e w' ⟨rfl, rfl⟩)
      refine hR.mono ?_
      rintro e W3 (⟨rfl, hJ3, hk3⟩ | ⟨rfl, hJx3⟩)
      · gi_wp2
        go_roundw
        case rel => exact ⟨k + 1, q + 1, by omega, HCQ.out, by simp, by rw [HLE'.out], by rw [← HTK.out]; exact hJ3, hnx.trans hk3⟩
        case measure => simp [intOf]; omega
      · gi_wp2
        refine bodyPost_ret (results_none rfl _ _ _) rfl ?_
        exact ⟨⟨_, rfl⟩, .inr ⟨_, ⟨k + 1, by rw [← HLEN.out]; omega, HTK.out⟩, hJx3⟩⟩
    · obtain rfl : k = (lisR R).length := by omega
      gi_wp2
      go_end0
      exact ⟨⟨_, rfl⟩, .inl ⟨_, rfl, by rwa [HLEN.out, List.take_length] at hJs⟩⟩
set_option maxHeartbeats 1000000 in
/-- .. of a row of nothing: no round. -/
theorem sp_all1_nil_in (n : Nat) (l Bs : Nat) (J : List (Nat × Int) → World → Prop) (b : Nat) (W : World) (hB0 : W.cell? ⟨Bs, 0, none⟩ = some (.int .u32 (b : Nat))) (hB1 : W.cell? ⟨Bs, 1, none⟩ = some (.slice none 0 0)) (h0 : J [] W) :
    CallsIn Fence.wide n Tryd.prog 34 #[.func (.yield l) #[] #[], .pointer (some ⟨Bs, 0, none⟩)] W fun e W' => (∃ v, e = .returned v) ∧ J [] W' := by
  refine callsIn_of_wp Tryd.func34 rfl trivial ?_ rfl
  simp only [Tryd.ntmps34, List.size_toArray, List.length_cons, List.length_nil, Nat.reduceAdd, Nat.reduceSub, Array.replicate_succ, Array.replicate_zero, List.push_toArray, List.append_toArray, List.nil_append, List.cons_append]
  gi_wp2
  gi_loopw [11] (fun i wr => i = .int .i64 0 ∧ J [] wr) (fun _ _ => 0)
  case atStart => exact ⟨rfl, h0⟩
  case round =>
    obtain ⟨rfl, hJs⟩ := hrel
    gi_wp2
    go_end0
    exact ⟨⟨_, rfl⟩, hJs⟩
set_option maxHeartbeats 1000000 in
/-- All: the row is boxed; the function value has the box. -/
theorem sp_All_in (n : Nat) (b : Int) (v : Value) (w : World) :
    CallsIn Fence.wide n Tryd.prog 15 #[.agg #[.int .u32 b, v]] w fun e w' => e = .returned (.func (.func 34) #[] #[.pointer (some ⟨w.heap.size, 0, none⟩)]) ∧ w' = w.alloc (.cells #[.int .u32 b, v] 27) := by
  refine callsIn_of_wp Tryd.func15 rfl trivial ?_ rfl
  simp only [Tryd.ntmps15, List.size_toArray, List.length_cons, List.length_nil, Nat.reduceAdd, Nat.reduceSub, Array.replicate_succ, Array.replicate_zero, List.push_toArray, List.append_toArray, List.nil_append, List.cons_append]
  gi_wp2
  go_ret
  exact ⟨rfl, rfl⟩
/-- .. which goes through the row's places, all, or as far as one goes, whatever a round does that keeps what lay below n₀. -/
theorem sp_all_stops (n : Nat) (hn : 1 ≤ n) (Bs n₀ : Nat) (R : Rw) (v : Value) (w : World) (hBs : Bs < w.heap.size) (hn₀ : n₀ ≤ w.heap.size) (htn : 0 < n₀) (hB0 : w.cell? ⟨Bs, 0, none⟩ = some (.int .u32 (bitsR R 32 : Nat)))
    (hB1 : w.cell? ⟨Bs, 1, none⟩ = some v) (hL : LisIn n₀ w v (lisR R)) (hT : Tab6 w) :
    SeqStopsK Fence.wide n Tryd.prog 34 #[.pointer (some ⟨Bs, 0, none⟩)] encP (Below n₀) (fun ys => ys = allR R) (fun pre => ∃ k, k ≤ (allR R).length ∧ pre = (allR R).take k) (allR R).length w := fun l J Jx W hW _ _ hY h0 => by
  have h0' := (hW.cell (p := ⟨Bs, 0, none⟩) hBs).trans hB0
  have h1' := (hW.cell (p := ⟨Bs, 1, none⟩) hBs).trans hB1
  rcases hL.below (hW.mono hn₀) with ⟨he, rfl⟩ | ⟨_, g, c, rfl, hg, hc⟩
  · have ha : allR R = [] := List.eq_nil_of_length_eq_zero (by rw [all_len, ← lisR_len, he]; rfl)
    exact (sp_all1_nil_in n l Bs J _ W h0' h1' h0).mono fun e W' ⟨hr, hj⟩ => ⟨hr, .inl ⟨_, ha.symm, hj⟩⟩
  · exact sp_all1_in n hn l Bs n₀ R g c hg htn J Jx hY W h0' h1' hc (hT.below hW) h0
end Go.Proofs.YtmdfpkklnaekmaaDoor
