import Derived.Test.YtpodmgihlomglaaGreatDoorP2
import Derived.Ground.Names2Prog
import Derived.Laws.Rows
import Derived.Lib.EndianBits
import Derived.OrdersIn
import Derived.OwnWalkIn
import Derived.RangeFuncBound
import Derived.RangeFuncBox
import Derived.RangeFuncCalls
import Derived.RangeFuncLeaves
import Derived.RangeFuncNested
import Derived.Shelf.Abstract
import Derived.Shelf.RegionOpen
import Derived.Shelf.Slices.Cells
import Derived.Shelf.Slices.Clone
import Derived.Shelf.Slices.CompactS
import Derived.Shelf.Slices.In.SortNone
import Derived.Shelf.Small.Bits
import Derived.Shelf.Small.Strs
import Derived.Shelf.Sort.Plain
import Derived.Shelf.Strconv.Itoa0
import Derived.Test.YtpodmgihlomglaaGreatDoorProg
namespace Go.Proofs.YtpodmgihlomglaaGreatDoor
open Go.RowKit
theorem u64_mul_nat (a c : Nat) : IntKind.u64.wrap ((a : Int) * (c : Int)) = ((a * c % 18446744073709551616 : Nat) : Int) := by
 rw [IntKind.wrap_u64, ← Int.natCast_mul]; omega
theorem u64_add_nat (a c : Nat) : IntKind.u64.wrap ((a : Int) + (c : Int)) = (((a + c) % 18446744073709551616 : Nat) : Int) := by
 rw [IntKind.wrap_u64]; omega
theorem div_nat (a c : Nat) : (a : Int) / (c : Int) = ((a / c : Nat) : Int) := (Int.natCast_ediv a c).symm
theorem ret_u64 {x y : Int} (h : x = y) : Ending.returned (.int .u64 x) = .returned (.int .u64 y) := by rw [h]
theorem ret_i64 {x y : Int} (h : x = y) : Ending.returned (.int .i64 x) = .returned (.int .i64 y) := by rw [h]
theorem rot_nat (t : Nat) (ht : t < 18446744073709551616) :
  bits .or .u64 (IntKind.u64.wrap ((t : Int) * 2147483648)) ((t : Int) / 8589934592) = (rotT t : Int) := by
 have e1 := u64_mul_nat t 2147483648
 have e2 := div_nat t 8589934592
 have e3 := bits_or_u64_nat (t * 2147483648 % 18446744073709551616) (t / 8589934592) (Nat.mod_lt _ (by decide)) (by omega)
 rw [← e1, ← e2] at e3
 exact e3
theorem fold_nat (h : Nat) (hh : h < 18446744073709551616) : bits .xor .u64 (h : Int) ((h : Int) / 4294967296) = (foldN h : Int) :=
 xorShift_u64 h 4294967296 hh
theorem mix_rotl (x : Nat) (hx : x < 18446744073709551616) (w : World) :
  Calls Tryz.prog 194 #[.int .u64 (x : Int), .int .i64 31] w fun e w' => e = .returned (.int .u64 (rotT x : Int)) ∧ w = w' := by
 have H := Lib.hid (rot_nat x hx)
 have hb : bits BinOp.and IntKind.u64 31 63 = 31 := by decide
 go_enter Tryz.func194, Tryz.ntmps194
 go_wp2
 go_ret
 exact ⟨ret_u64 H.out, rfl⟩
theorem mix_fold (h : Nat) (hh : h < 18446744073709551616) (w : World) :
  Calls Tryz.prog 195 #[.int .u64 (h : Int)] w fun e w' => e = .returned (.int .u64 (foldN h : Int)) ∧ w = w' := by
 have H := Lib.hid (fold_nat h hh)
 go_enter Tryz.func195, Tryz.ntmps195
 go_wp2
 go_ret
 exact ⟨ret_u64 H.out, rfl⟩
theorem xmul_nat (h x : Nat) (hh : h < 18446744073709551616) (hx : x < 18446744073709551616) :
  IntKind.u64.wrap (bits .xor .u64 (h : Int) (x : Int) * 11400714819323198485) = (stepT (h ^^^ x) : Int) := by
 rw [bits_xor_u64_nat h x hh hx]; exact u64_mul_nat _ 11400714819323198485
theorem mix_Step (h x : Nat) (hh : h < 18446744073709551616) (hx : x < 18446744073709551616) (w : World) :
  Calls Tryz.prog 160 #[.int .u64 (h : Int), .int .u64 (x : Int)] w fun e w' => e = .returned (.int .u64 (stepN h x : Int)) ∧ w = w' := by
 have h1 := xmul_nat h x hh hx
 have H2 := Lib.hid (u64_add_nat (rotT (stepT (h ^^^ x))) 15485907386658061715)
 have l : stepT (h ^^^ x) < 18446744073709551616 := Nat.mod_lt _ (by decide)
 have L := Lib.hid l
 clear l hh hx
 go_enter Tryz.func160, Tryz.ntmps160
 go_wp2_with fail
 refine (mix_rotl _ L.out w).mono ?_
 rintro e w1 ⟨rfl, rfl⟩
 go_wp2_with fail
 go_ret
 exact ⟨ret_u64 H2.out, rfl⟩
theorem mix_End (h : Nat) (hh : h < 18446744073709551616) (w : World) :
  Calls Tryz.prog 162 #[.int .u64 (h : Int)] w fun e w' => e = .returned (.int .u64 (endN h : Int)) ∧ w = w' := by
 have h1 := u64_mul_nat (foldN h) 15485907386658061715
 have l : foldN h * 15485907386658061715 % 18446744073709551616 < 18446744073709551616 := Nat.mod_lt _ (by decide)
 obtain ⟨m, hm⟩ : ∃ m, m = foldN h * 15485907386658061715 % 18446744073709551616 := ⟨_, rfl⟩
 rw [← hm] at h1 l
 have h2 : IntKind.u64.wrap ((foldN h : Int) * 15485907386658061715) = (m : Int) := h1
 have E := Lib.hid (show endN h = foldN m by rw [hm]; rfl)
 have L := Lib.hid l
 have HH := Lib.hid hh
 clear hm h1 l hh
 go_enter Tryz.func162, Tryz.ntmps162
 go_wp2_with fail
 refine (mix_fold _ HH.out w).mono ?_
 rintro e w1 ⟨rfl, rfl⟩
 go_wp2_with fail
 refine (mix_fold _ L.out w).mono ?_
 rintro e w1 ⟨rfl, rfl⟩
 go_wp2_with fail
 go_ret
 exact ⟨ret_u64 (by rw [E.out]), rfl⟩
theorem pow_nat (m : Nat) : (2 : Int) ^ m = ((2 ^ m : Nat) : Int) := by rw [Int.natCast_pow]; rfl
theorem div_pow_nat (h m : Nat) : (h : Int) / 2 ^ m = ((h / 2 ^ m : Nat) : Int) := by rw [pow_nat, div_nat]
theorem pow_lt {m : Nat} (hm : m < 64) : 2 ^ m < 18446744073709551616 := Nat.pow_lt_pow_right (by decide) hm
theorem mask_nat (m : Nat) (hm : m ≤ 64) : IntKind.u64.wrap (IntKind.u64.wrap ((2 : Int) ^ m) - 1) = ((2 ^ m - 1 : Nat) : Int) := by
 by_cases h : m = 64
 ·subst h; decide
 ·have h1 := pow_lt (show m < 64 by omega)
  have h2 := Nat.two_pow_pos m
  rw [pow_nat, IntKind.wrap_u64, IntKind.wrap_u64]
  omega
def narrowN (h : Nat) (k : Int) : Nat := h % 2 ^ (min (max k 0) 64).toNat
def chunkN (h : Nat) (k : Int) : Nat := if 0 ≤ k ∧ k ≤ 12 then h / 2 ^ (5 * k).toNat % 32 else 0
theorem narrowN_lt {h : Nat} (k : Int) (hh : h < 18446744073709551616) : narrowN h k < 18446744073709551616 := Nat.lt_of_le_of_lt (Nat.mod_le _ _) hh
theorem chunkN_lt (h : Nat) (k : Int) : chunkN h k < 32 := by unfold chunkN; split <;> omega
theorem mix_Narrow (h : Nat) (k : Int) (hh : h < 18446744073709551616) (w : World) :
  Calls Tryz.prog 140 #[.int .u64 (h : Int), .int .i64 k] w fun e w' => e = .returned (.int .u64 (narrowN h k : Int)) ∧ w = w' := by
 have e : bits .and .u64 (h : Int) (IntKind.u64.wrap (IntKind.u64.wrap ((2 : Int) ^ (min (max k 0) 64).toNat) - 1)) = (narrowN h k : Int) := by
  have hm : (min (max k 0) 64).toNat ≤ 64 := by omega
  have hp : 2 ^ (min (max k 0) 64).toNat ≤ 2 ^ 64 := Nat.pow_le_pow_right (by decide) hm
  rw [mask_nat _ hm, bits_and_u64_nat h _ hh (by omega), and_mask]
  rfl
 have H := Lib.hid e
 clear e hh
 go_enter Tryz.func140, Tryz.ntmps140
 go_wp2
 go_ret
 exact ⟨ret_u64 H.out, rfl⟩
theorem mix_Chunk (h : Nat) (k : Int) (hh : h < 18446744073709551616) (w : World) :
  Calls Tryz.prog 139 #[.int .u64 (h : Int), .int .i64 k] w fun e w' => e = .returned (.int .i64 (chunkN h k : Int)) ∧ w = w' := by
 by_cases hk : 0 ≤ k ∧ k ≤ 12
 ·obtain ⟨q, hq⟩ : ∃ q, q = h / 2 ^ (5 * k).toNat := ⟨_, rfl⟩
  have H := Lib.hid (fun w => mix_Narrow q 5 (hq ▸ Nat.lt_of_le_of_lt (Nat.div_le_self _ _) hh) w)
  have h1 := div_pow_nat h (5 * k).toNat
  rw [← hq] at h1
  have h2 : wrap64 (narrowN q 5 : Int) = (chunkN h k : Int) := by
   have e : narrowN q 5 = q % 32 := rfl
   rw [e, chunkN, if_pos hk, ← hq]
   unfold wrap64; omega
  obtain ⟨k1, k2⟩ := hk
  clear hh hq
  go_enter Tryz.func139, Tryz.ntmps139
  go_wp2_with fail
  refine (H.out w).mono ?_
  rintro e w1 ⟨rfl, rfl⟩
  go_wp2_with fail
  go_ret
  exact ⟨ret_i64 h2, rfl⟩
 ·have h2 : chunkN h k = 0 := by rw [chunkN, if_neg hk]
  have H := Lib.hid h2
  clear h2 hh
  by_cases h0 : k < 0
  ·clear hk
   go_enter Tryz.func139, Tryz.ntmps139
   go_wp2_with fail
   go_ret
   exact ⟨ret_i64 (by rw [H.out]; rfl), rfl⟩
  ·have h12 : 12 < k := by omega
   clear hk
   go_enter Tryz.func139, Tryz.ntmps139
   go_wp2_with fail
   go_ret
   exact ⟨ret_i64 (by rw [H.out]; rfl), rfl⟩
end Go.Proofs.YtpodmgihlomglaaGreatDoor
namespace Go.Proofs.YtpodmgihlomglaaGreatDoor
open Go.RowKit Go.Shelf
set_option maxRecDepth 1000000
set_option linter.unusedSimpArgs false
def Owns (B : Nat) (v : Value) (l : List Int) (w : World) : Prop := w.ownsRow B 3 1 v l.length (iv l) ∧ B ≤ w.heap.size
section
variable {B : Nat} {v : Value} {l : List Int} {w w1 : World}
theorem Owns.nil (h : B ≤ w.heap.size) : Owns B (.slice none 0 0) [] w := ⟨World.ownsRow_nil _ _ _ _, h⟩
theorem Owns.lit (hB : B ≤ w.heap.size) (cs : Array Value) (l : List Int) (hc : cs.toList = iv l) (hl4 : l.length ≤ 4096) :
  Owns B (.slice (some ⟨w.heap.size, 0, none⟩) l.length l.length) l (w.alloc (.cells cs 3)) := by
 have hl : l.length ≤ maxLen := by unfold maxLen; omega
 have hs : cs.size = l.length * 1 := by rw [← Array.length_toList, hc, iv_len]; omega
 refine ⟨?_, by simp; omega⟩
 have := (World.ownsRow_lit (base := B) (e := 3) (size := 1) w cs l.length hB hl hs)
 rwa [hc] at this
theorem Owns.low {B' : Nat} (h : Owns B v l w) (hB : B' ≤ B) : Owns B' v l w := by
 obtain ⟨⟨h1, h2⟩, h3⟩ := h
 refine ⟨⟨h1, ?_⟩, by omega⟩
 rcases h2 with h2 | ⟨g, cap, cur, a1, a2, a3⟩
 ·exact .inl h2
 ·exact .inr ⟨g, cap, cur, a1, by omega, a3⟩
theorem Owns.grown {row : Option Nat} (h : Owns B v l w) (hg : w.grownBy w1 row) (hne : v.ownBlock = none ∨ v.ownBlock ≠ row) : Owns B v l w1 := ⟨h.1.kept hg hne, Nat.le_trans h.2 hg.size⟩
theorem Owns.later (h : Owns B v l w) (hb : Below w.heap.size w w1) : Owns B v l w1 := h.grown (row := none) ⟨hb.os, hb.tape, hb.output, hb.size, fun k hk _ => hb.block k hk⟩ (by cases v.ownBlock <;> simp)
theorem Owns.alloc (h : Owns B v l w) (o : Obj) : Owns B v l (w.alloc o) := h.later ((Below.refl _ _).alloc (Nat.le_refl _) o)
theorem Owns.len (h : Owns B v l w) : ∃ a c, v = .slice a l.length c := by
 obtain ⟨⟨_, h2⟩, _⟩ := h
 rcases h2 with ⟨rfl, h2⟩ | ⟨g, cap, cur, rfl, _⟩
 ·exact ⟨none, 0, by rw [h2]⟩
 ·exact ⟨_, _, rfl⟩
end
theorem Owns.pos {B : Nat} {v : Value} {l : List Int} {w : World} (h : Owns B v l w) (h0 : 0 < l.length) : ∃ (g c : Nat) (cs : Array Value), v = .slice (some ⟨g, 0, none⟩) l.length c ∧ l.length ≤ c ∧ B ≤ g ∧ w.heap[g]? = some (.cells cs 3 (0, 0)) ∧ l.length ≤ cs.size ∧ ∀ j, j < l.length → cs[j]? = some (.int .i64 (l.getD j 0)) := by
 obtain ⟨⟨_, h2⟩, _⟩ := h
 rcases h2 with ⟨rfl, h3⟩ | ⟨g, cap, cur, rfl, hB, hg, h5, h6, h7, h8⟩
 ·omega
 ·refine ⟨g, cap, cur, rfl, h5, hB, hg, by omega, fun j hj => ?_⟩
  have hu : (iv l)[j]? = some (.int .i64 (l.getD j 0)) := by
   rw [iv, List.getElem?_map, List.getElem?_eq_getElem hj, List.getD_eq_getElem?_getD, List.getElem?_eq_getElem hj]; rfl
  rw [← h8, List.getElem?_take_of_lt (by omega), Array.getElem?_toList] at hu
  exact hu
theorem Owns.put {B : Nat} {v : Value} {l : List Int} {w w' : World} (h : Owns B v l w) {g c j : Nat} {cs : Array Value} {x : Int} (hv : v = .slice (some ⟨g, 0, none⟩) l.length c) (hg : w.heap[g]? = some (.cells cs 3 (0, 0)))
  (h' : w'.heap[g]? = some (.cells (cs.setIfInBounds j (.int .i64 x)) 3 (0, 0))) (k : Only g w w') : Owns B v (l.set j x) w' := by
 obtain ⟨⟨h1, h2⟩, h3⟩ := h
 subst hv
 rcases h2 with ⟨e, _⟩ | ⟨g', cap, cur, e, hB, hg', h5, h6, h7, h8⟩
 ·cases e
 ·simp only [Value.slice.injEq, Option.some.injEq, Addr.mk.injEq, and_true, true_and] at e
  obtain ⟨rfl, rfl⟩ := e
  rw [hg] at hg'
  simp only [Option.some.injEq, Obj.cells.injEq, and_true] at hg'
  subst hg'
  refine ⟨⟨by rw [iv_len]; omega, .inr ⟨g, c, _, by rw [List.length_set], hB, h', by rw [List.length_set]; exact h5, h6, by simpa using h7, ?_⟩⟩, Nat.le_trans h3 k.by_.size⟩
  rw [List.length_set, Array.toList_setIfInBounds, List.take_set, h8]
  simp [iv]
end Go.Proofs.YtpodmgihlomglaaGreatDoor
namespace Go.Proofs.YtpodmgihlomglaaGreatDoor
open Go.RowKit
section
variable {P : Program} {md : Region.Mode} {ops : Array Oper} {Q : Exit → Act → World → Prop} {S : World → Prop} {U : List Nat}
def YieldsC (P : Program) (ops : Array Oper) (S : World → Prop) (o : Oper) (v : Value) (a : Act) : Prop :=
 Region.wanted o (yielded ops a.tmps) = true ∧ ∀ w, S w → ∃ f args, (execOp a.eval o).run P w = .ok (.enter f args) w ∧ Calls P f args w fun e w' => e = .returned v ∧ w' = w
theorem YieldsC.wpOp {i : Nat} {o : Oper} {v : Value} {a : Act} (hi : ops[i]? = some o) (hy : YieldsC P ops S o v a)
  {K : Act → World → Prop} {w : World} (hS : S w) (h : K (a.put o.dst v) w) : wpOp P ops Q i K a w := by
 obtain ⟨hw, hv⟩ := hy
 obtain ⟨f, args, hrun, hc⟩ := hv w hS
 unfold Go.wpOp
 simp only [hi, hw, if_true, Oper.wp, hrun, Oper.upon]
 refine .inl (hc.mono ?_)
 rintro e w' ⟨rfl, rfl⟩
 exact h
theorem YieldsC.of_same {o : Oper} {v : Value} {a a' : Act} (hy : YieldsC P ops S o v a) (he : execOp a'.eval o = execOp a.eval o)
  (hw : Region.wanted o (yielded ops a'.tmps) = Region.wanted o (yielded ops a.tmps)) : YieldsC P ops S o v a' := by
 unfold YieldsC at *
 rw [he, hw]
 exact hy
theorem wpOp_putC {j : Nat} {oi oj : Oper} {v : Value} (hj : ops[j]? = some oj) (hap : oi.apart ops oj = true)
  (hsi : ∀ cs b, oi.op ≠ .select cs b) (hsj : ∀ cs b, oj.op ≠ .select cs b)
  (hQ : ∀ c a w, Q (.panic c) (a.put oi.dst v) w → Q (.panic c) a w) {K : Act → World → Prop} {a : Act} {w : World}
  (hy : YieldsC P ops S oi v a) (h : wpOp P ops Q j K (a.put oi.dst v) w) :
  wpOp P ops Q j (fun a' w' => YieldsC P ops S oi v a' ∧ K (a'.put oi.dst v) w') a w := by
 obtain ⟨h1, h2, h3⟩ := Oper.apart_spec hap
 have keep : ∀ (a : Act), YieldsC P ops S oi v a → ∀ u, YieldsC P ops S oi v (a.put oj.dst u) := fun a hy u =>
  hy.of_same (execOp_put oi hsi a oj.dst u h3) (wanted_put oi a oj.dst u h3)
 have keepD : ∀ d, YieldsC P ops S oi v { a with defers := d :: a.defers } := fun d => hy.of_same rfl rfl
 unfold wpOp at *
 simp only [hj] at *
 rw [wanted_put oj a oi.dst v h1] at h
 split
 ·rename_i hw
  simp only [hw, if_true] at h
  rcases h with h | ⟨hasks, hlets⟩
  case inr => exact .inr ⟨by unfold Oper.asks at *; rw [execOp_put oj hsj a oi.dst v h1] at hasks; exact hasks, hlets⟩
  refine .inl ?_
  unfold Oper.wp at *
  rw [execOp_put oj hsj a oi.dst v h1] at h
  generalize (execOp a.eval oj).run P w = r at *
  cases r with
  | ok n w' =>
   cases n <;> simp only [Oper.upon] at h ⊢
   case value u => exact ⟨keep a hy u, by rw [← Act.put_comm a v u h2]; exact h⟩
   case skip => exact ⟨keep a hy _, by rw [← Act.put_comm a v undef h2]; exact h⟩
   case defer d =>
    refine ⟨keep _ (keepD d) _, ?_⟩
    rw [← Act.put_comm _ v undef h2, ← Act.put_defers]
    exact h
   case enter f args =>
    refine Calls.mono h fun e w'' he => ?_
    cases e with
    | returned u => exact ⟨keep a hy u, by rw [← Act.put_comm a v u h2]; exact he⟩
    | panicked c => exact hQ _ _ _ he
    | outgrown => exact he
   case row row args => exact Rows.mono h fun u w'' he => ⟨keep a hy u, by rw [← Act.put_comm a v u h2]; exact he⟩
  | halt x w' =>
   cases x <;> simp only [Oper.upon] at h ⊢
   case panic u => exact hQ _ _ _ h
 ·rename_i hw
  simp only [hw] at h
  exact ⟨keep a hy _, by rw [← Act.put_comm a v undef h2]; exact h⟩
theorem wpAnyT_firstC {i : Nat} {oi : Oper} {v : Value} (hi : ops[i]? = some oi) (hsel : ∀ (j : Nat) (o : Oper) cs b, ops[j]? = some o → o.op ≠ .select cs b)
  (hQ : ∀ c a w, Q (.panic c) (a.put oi.dst v) w → Q (.panic c) a w) (hw : waitsFor md ops U i = true) :
  ∀ (fuel : Nat) (listed : Array Bool) (a : Act) (w : World),
   (∀ j oj, ops[j]? = some oj → j ≠ i → listed.getD j true = false → (∀ e ∈ oj.after, Region.binds md e = true → e.on ≠ i) → oi.apart ops oj = true) →
   Closed md ops listed → i ∈ Region.ready md ops listed → YieldsC P ops S oi v a → S w →
   wpAnyT P md ops Q S U fuel (listed.setIfInBounds i true) (a.put oi.dst v) w → wpAnyT P md ops Q S U (fuel + 1) listed a w := by
 intro fuel
 induction fuel with
 | zero =>
  intro listed a w _ _ hr hy hS H
  refine ⟨fun h => (by rw [h] at hr; cases hr), fun j hj => ?_⟩
  by_cases hji : j = i
  ·subst hji; exact hy.wpOp hi hS ⟨fun _ => hS, H⟩
  ·have := ready_mono hj hji
   rw [H.1] at this
   cases this
 | succ fuel ih =>
  intro listed a w hfree hcl hr hy hS H
  refine ⟨fun h => (by rw [h] at hr; cases hr), fun j hj => ?_⟩
  by_cases hji : j = i
  ·subst hji; exact hy.wpOp hi hS ⟨fun _ => hS, H⟩
  ·have h1 := H.2 j (ready_mono hj hji)
   obtain ⟨hjun, oj, hoj, hall⟩ := mem_ready.1 hj
   have hifalse : listed.getD i false = false := by
    have h0 := (mem_ready.1 hr).1
    rcases Nat.lt_or_ge i listed.size with h' | h'
    ·simp [h'] at h0 ⊢; exact h0
    ·simp [Array.getElem?_eq_none h']
   have hnot : ∀ e ∈ oj.after, Region.binds md e = true → e.on ≠ i := fun e he hb heq => by
    have h1 := hall e he hb
    rw [heq, hifalse] at h1
    cases h1
   have hnU : U.contains j = false := by
    cases hc : U.contains j with
    | false => rfl
    | true => exact (waits_ready hw hcl hifalse hc hj).elim
   have h2 := wpOp_putC hoj (hfree j oj hoj hji hjun hnot) (fun cs b => hsel i oi cs b hi) (fun cs b => hsel j oj cs b hoj) hQ hy h1
   have hfree' : ∀ k ok, ops[k]? = some ok → k ≠ i → (listed.setIfInBounds j true).getD k true = false →
     (∀ e ∈ ok.after, Region.binds md e = true → e.on ≠ i) → oi.apart ops ok = true := fun k ok hk hki hun hno => by
    refine hfree k ok hk hki ?_ hno
    by_cases hjk : j = k
    ·subst hjk; exact hjun
    ·rw [getD_set_ne true hjk] at hun; exact hun
   refine wpOp_mono (fun a' w' h3 => ⟨fun hc => h3.2.1 hc, ih (listed.setIfInBounds j true) a' w' hfree' (closed_set hcl hj) (ready_mono hr (Ne.symm hji)) h3.1 (h3.2.1 hnU) ?_⟩) h2
   rw [Array.setIfInBounds_comm _ _ hji]
   exact h3.2.2
theorem wpAnyT_takeC {i : Nat} {oi : Oper} {v : Value} {fuel : Nat} {listed : Array Bool} {a : Act} {w : World} (hi : ops[i]? = some oi)
  (hs : Region.noSelect ops = true) (hf : Region.free md ops listed i = true) (hr : (Region.ready md ops listed).contains i = true) (hw : (waitsFor md ops U i && closedB md ops listed) = true)
  (hQ : ∀ c a w, Q (.panic c) (a.put oi.dst v) w → Q (.panic c) a w) (hy : YieldsC P ops S oi v a) (hS : S w)
  (h : wpAnyT P md ops Q S U fuel (listed.setIfInBounds i true) (a.put oi.dst v) w) : wpAnyT P md ops Q S U (fuel + 1) listed a w :=
 wpAnyT_firstC hi (Region.noSelect_spec hs) hQ (Bool.and_eq_true_iff.1 hw).1 fuel listed a w (Region.free_spec hi hf) (closed_of (Bool.and_eq_true_iff.1 hw).2) (by simpa using hr) hy hS h
end
end Go.Proofs.YtpodmgihlomglaaGreatDoor
namespace Go.Proofs.YtpodmgihlomglaaGreatDoor
open Go.RowKit
set_option linter.unusedSimpArgs false
theorem results_cell_row1 {P : Program} {fn : Func} {p u : Tmp} {ty : TypeId} (h : fn.results = #[.cell p ty, .tmp u]) (tmps : Array Value) (w : World) (g : Nat) (t : TypeId) (cs : Array Value) (fr : Nat × Nat) (d : TypeDesc)
  (hp : tmps.getD p undef = .pointer (some ⟨g, 0, none⟩)) (hg : w.heap[g]? = some (.cells cs t fr))
  (hu : P.underlying ty = some d) (hd : (match d with | .struct _ | .array _ _ => true | _ => false) = true) (hi : (P.info? ty).map (·.size) = some cs.size) :
  (results fn tmps).run P w = .ok (.tuple #[.agg cs, tmps.getD u undef]) w := by
 have hp' : tmps[p]?.getD undef = .pointer (some ⟨g, 0, none⟩) := by simpa using hp
 simp [results, h, hp', asAddr, run_loadVar_row w g t ty cs fr d hg hu hd hi]
section
variable {P : Program} {md : Region.Mode} {ops : Array Oper} {Q : Exit → Act → World → Prop}
theorem rows_wide {F : Fence} {n l : Nat} (hF : F = Fence.wide.inRound l) {row : String} {args : Array Value} {w : World} {R : Value → World → Prop} (h : Rows P row args w R) : RowsIn F n P row args w R := fun c cs _ => by
 subst hF
 obtain ⟨v, w', r, s⟩ := h c cs
 exact ⟨v, w', r, stepsIn_wide.2 s⟩
theorem wp_in_round {n l : Nat} {o : Oper} {a : Act} {w : World} {K : Act → World → Prop} (hd : ∀ c, o.op ≠ .defer c) (h : o.wp P a w K Q) : o.wpIn (Fence.wide.inRound l) n P a w K Q := by
 unfold Oper.wpIn
 refine ⟨fun _ _ => trivial, ?_⟩
 rw [Oper.semAt_eq _ _ _ hd]
 unfold Oper.wp at h
 generalize (execOp a.eval o).run P w = r at h ⊢
 cases r with
 | ok x w' =>
  cases x with
  | value v => exact h
  | skip => exact h
  | defer d => exact h
  | enter f args => exact ⟨fun hh => by simp [Fence.wide] at hh, CallsIn.inRound l (callsIn_wide.2 h)⟩
  | row row args => exact ⟨fun hh => by simp [Fence.wide] at hh, rows_wide rfl h⟩
  | _ => exact h.elim
 | halt x w' =>
  cases x with
  | panic v => exact h
  | _ => exact h.elim
theorem wpOp_in {n l i : Nat} {a : Act} {w : World} {K : Act → World → Prop} (hd : ∀ (j : Nat) (o : Oper), ops[j]? = some o → ∀ c, o.op ≠ .defer c) (hq : ¬ LetsOut Q) (h : wpOp P ops Q i K a w) : wpOpIn (Fence.wide.inRound l) n P ops Q i K a w := by
 unfold wpOp at h
 unfold wpOpIn
 cases ho : ops[i]? with
 | none => rw [ho] at h; exact h
 | some o =>
  rw [ho] at h
  simp only at h ⊢
  split at h
  ·rename_i hw
   rw [if_pos hw]
   rcases h with h | h
   ·exact wp_in_round (hd i o ho) h
   ·exact absurd h.2 hq
  ·rename_i hw
   rw [if_neg hw]
   exact ⟨fun _ _ => trivial, h⟩
theorem wpAny_in {n l : Nat} (hd : ∀ (j : Nat) (o : Oper), ops[j]? = some o → ∀ c, o.op ≠ .defer c) (hq : ¬ LetsOut Q) :
  ∀ (fuel : Nat) (listed : Array Bool) (a : Act) (w : World), wpAny P md ops Q fuel listed a w → wpAnyIn (Fence.wide.inRound l) n P md ops Q fuel listed a w
 | 0, _, _, _, h => h
 | fuel + 1, listed, a, w, h => ⟨h.1, fun i hi => by
   have := wpOp_in (n := n) (l := l) hd hq (h.2 i hi)
   refine wpOpIn_mono (fun a' w' h' => ?_) this
   exact wpAny_in hd hq fuel _ a' w' h'⟩
def noDefer (ops : Array Oper) : Bool := ops.toList.all fun o => match o.op with | .defer _ => false | _ => true
theorem no_defer (h : noDefer ops = true) : ∀ (j : Nat) (o : Oper), ops[j]? = some o → ∀ c, o.op ≠ .defer c := by
 intro j o ho c hc
 unfold noDefer at h
 rw [List.all_eq_true] at h
 have := h o (by rw [← Array.getElem?_toList] at ho; exact List.mem_of_getElem? ho)
 rw [hc] at this
 cases this
theorem region_T_in {S : World → Prop} {n l id : Nat} {a : Act} {w : World} (U : List Nat) (hm : P.follows .mixedOrders = true) (hd : noDefer ops = true) (hq : ¬ LetsOut Q) (hS : S w.drew)
  (h : S w.drew → wpAnyT P .any ops Q S U ops.size (Array.replicate ops.size false) a w.drew) : (Code.region id ops true).wpIn (Fence.wide.inRound l) n P Q a w :=
 wpIn_region_any hm (wpAny_in (no_defer hd) hq _ _ _ _ (wpAnyT_any _ _ _ _ (h hS)))
theorem list_in {n l : Nat} {rest : List Oper} {o : Oper} {a : Act} {w : World} (hgd : o.guard = none) (hd : ∀ c, o.op ≠ .defer c)
  (h : ∀ K : Act → World → Prop, (∀ a w, wpListIn (Fence.wide.inRound l) n P ops Q rest a w → K a w) → o.wp P a w K Q) : wpListIn (Fence.wide.inRound l) n P ops Q (o :: rest) a w :=
 wpListIn_plain hgd fun K hK => wp_in_round hd (h K hK)
end
theorem ld_in {ops : Array Oper} {rest : List Oper} {o : Oper} {a : Act} {w : World} {Q : Exit → Act → World → Prop} {n l : Nat} (hgd : o.guard = none) (ty : TypeId) (x : Operand) (ho : o.op = .load ty x)
  (X : Nat) (hx : a.eval x = .pointer (some ⟨X, 0, none⟩)) (T : TypeId) (c : Array Value) (fr : Nat × Nat) (d : TypeDesc) (hB : w.heap[X]? = some (.cells c T fr))
  (hu : Tryz.prog.underlying ty = some d) (hd : d.isRow = true) (hi : (Tryz.prog.info? ty).map (·.size) = some c.size)
  (h : wpListIn (Fence.wide.inRound l) n Tryz.prog ops Q rest (a.put o.dst (.agg c)) w) : wpListIn (Fence.wide.inRound l) n Tryz.prog ops Q (o :: rest) a w :=
 list_in hgd (fun c' hc => by rw [ho] at hc; cases hc) fun _ hK => wp_load_row ty x ho X hx T c fr d hB hu (by cases d <;> simp_all [TypeDesc.isRow]) hi (hK _ _ h)
end Go.Proofs.YtpodmgihlomglaaGreatDoor
namespace Go.Proofs
open Go.Shelf
def Tryz.lays106_ren : Go.Shelf.Ren := ⟨fun | 106 => 155 | 213 => 192 | 265 => 209 | n => n, fun | 9 => 9 | 3 => 3 | n => n, fun | n => n⟩
theorem Tryz.lays106 : Go.Proofs.Lays.n106 Tryz.prog Tryz.lays106_ren := {
 mixed := by kernel_rfl
 f106 := Tryz.func155.trans (congrArg some (by kernel_rfl))
 f213 := Tryz.func192.trans (congrArg some (by kernel_rfl))
 f265 := Tryz.func209.trans (congrArg some (by kernel_rfl))
 t3 := Tryz.underlying3
 a3 := Tryz.isAgg3
 z3 := Tryz.sizeOf3
 v3 := Tryz.zeroValue3
 t9 := Tryz.underlying9
 a9 := Tryz.isAgg9
 z9 := Tryz.sizeOf9
 v9 := Tryz.zeroValue9 }
open Go.RowKit in
theorem Tryz.strings_Compare (a b : ByteArray) (w : World) :
  Calls Tryz.prog 155 #[.string a, .string b] w fun e w' => e = .returned (.int .i64 (Lib.compareBytes a.data.toList b.data.toList)) ∧ w' = w := Any.strings_Compare Tryz.lays106 a b w
def Tryz.lays190_ren : Go.Shelf.Ren := ⟨fun | 190 => 131 | 125 => 152 | 258 => 151 | 128 => 180 | 129 => 181 | 302 => 171 | 303 => 172 | 304 => 173 | 305 => 174 | 306 => 175 | 307 => 176 | 308 => 177 | 309 => 178 | 310 => 179 | 333 => 200 | 329 => 201 | 330 => 202 | 334 => 203 | 335 => 204 | 336 => 205 | 344 => 211 | n => n, fun | 31 => 25 | 9 => 9 | 3 => 3 | 46 => 183 | 0 => 0 | 51 => 113 | 53 => 22 | 4 => 4 | 183 => 226 | 182 => 225 | 131 => 76 | 5 => 5 | 218 => 245 | 222 => 249 | 228 => 255 | 229 => 146 | n => n, fun | n => n⟩
theorem Tryz.lays190 : Go.Proofs.Lays.n190 Tryz.prog Tryz.lays190_ren := {
 mixed := by kernel_rfl
 f125 := Tryz.func152.trans (congrArg some (by kernel_rfl))
 f128 := Tryz.func180.trans (congrArg some (by kernel_rfl))
 f129 := Tryz.func181.trans (congrArg some (by kernel_rfl))
 f190 := Tryz.func131.trans (congrArg some (by kernel_rfl))
 f258 := Tryz.func151.trans (congrArg some (by kernel_rfl))
 f302 := Tryz.func171.trans (congrArg some (by kernel_rfl))
 f303 := Tryz.func172.trans (congrArg some (by kernel_rfl))
 f304 := Tryz.func173.trans (congrArg some (by kernel_rfl))
 f305 := Tryz.func174.trans (congrArg some (by kernel_rfl))
 f306 := Tryz.func175.trans (congrArg some (by kernel_rfl))
 f307 := Tryz.func176.trans (congrArg some (by kernel_rfl))
 f308 := Tryz.func177.trans (congrArg some (by kernel_rfl))
 f309 := Tryz.func178.trans (congrArg some (by kernel_rfl))
 f310 := Tryz.func179.trans (congrArg some (by kernel_rfl))
 f329 := Tryz.func201.trans (congrArg some (by kernel_rfl))
 f330 := Tryz.func202.trans (congrArg some (by kernel_rfl))
 f333 := Tryz.func200.trans (congrArg some (by kernel_rfl))
 f334 := Tryz.func203.trans (congrArg some (by kernel_rfl))
 f335 := Tryz.func204.trans (congrArg some (by kernel_rfl))
 f336 := Tryz.func205.trans (congrArg some (by kernel_rfl))
 f344 := Tryz.func211.trans (congrArg some (by kernel_rfl))
 t0 := Tryz.underlying0
 a0 := Tryz.isAgg0
 z0 := Tryz.sizeOf0
 v0 := Tryz.zeroValue0
 t3 := Tryz.underlying3
 a3 := Tryz.isAgg3
 z3 := Tryz.sizeOf3
 v3 := Tryz.zeroValue3
 t4 := Tryz.underlying4
 a4 := Tryz.isAgg4
 z4 := Tryz.sizeOf4
 v4 := Tryz.zeroValue4
 t5 := Tryz.underlying5
 a5 := Tryz.isAgg5
 z5 := Tryz.sizeOf5
 v5 := Tryz.zeroValue5
 t9 := Tryz.underlying9
 a9 := Tryz.isAgg9
 z9 := Tryz.sizeOf9
 v9 := Tryz.zeroValue9
 t31 := Tryz.underlying25
 a31 := Tryz.isAgg25
 z31 := Tryz.sizeOf25
 v31 := Tryz.zeroValue25
 t46 := Tryz.underlying183
 a46 := Tryz.isAgg183
 z46 := Tryz.sizeOf183
 v46 := Tryz.zeroValue183
 t51 := Tryz.underlying113
 a51 := Tryz.isAgg113
 z51 := Tryz.sizeOf113
 v51 := Tryz.zeroValue113
 t53 := Tryz.underlying22
 a53 := Tryz.isAgg22
 z53 := Tryz.sizeOf22
 v53 := Tryz.zeroValue22
 t131 := Tryz.underlying76
 a131 := Tryz.isAgg76
 z131 := Tryz.sizeOf76
 v131 := Tryz.zeroValue76
 t182 := Tryz.underlying225
 a182 := Tryz.isAgg225
 z182 := Tryz.sizeOf225
 v182 := Tryz.zeroValue225
 t183 := Tryz.underlying226
 a183 := Tryz.isAgg226
 z183 := Tryz.sizeOf226
 v183 := Tryz.zeroValue226
 t218 := Tryz.underlying245
 a218 := Tryz.isAgg245
 z218 := Tryz.sizeOf245
 v218 := Tryz.zeroValue245
 t222 := Tryz.underlying249
 a222 := Tryz.isAgg249
 z222 := Tryz.sizeOf249
 v222 := Tryz.zeroValue249
 t228 := Tryz.underlying255
 a228 := Tryz.isAgg255
 z228 := Tryz.sizeOf255
 v228 := Tryz.zeroValue255
 t229 := Tryz.underlying146
 a229 := Tryz.isAgg146
 z229 := Tryz.sizeOf146
 v229 := Tryz.zeroValue146 }
open Go.Sort Go.RowKit in
theorem Tryz.slices_Sort_string (blk off cap : Nat) (ss : List (List UInt8)) (w : World) (hH : Holds encStr w blk off ss.toArray) (hblk : blk < w.heap.size) (hsz : ss.length < 4611686018427387904) :
  Calls Tryz.prog 131 #[.slice (some ⟨blk, off, none⟩) ss.length cap] w fun e w' =>
   e = .returned (.tuple #[]) ∧ ∃ n os, w' = grow (putRow encStr (Sort.ahead w n) blk off (ss.mergeSort fun x y => decide (x ≤ y)).toArray) os := Any.slices_Sort_string Tryz.lays190 blk off cap ss w hH hblk hsz
def Tryz.laysNm216_ren : Go.Shelf.Ren := ⟨fun | 16 => 130 | n => n, fun | 24 => 25 | 9 => 9 | 4 => 4 | n => n, fun | n => n⟩
theorem Tryz.laysNm216 : Go.Proofs.Lays2.n16 Tryz.prog Tryz.laysNm216_ren := {
 mixed := by kernel_rfl
 f16 := Tryz.func130.trans (congrArg some (by kernel_rfl))
 t4 := Tryz.underlying4
 a4 := Tryz.isAgg4
 z4 := Tryz.sizeOf4
 v4 := Tryz.zeroValue4
 t9 := Tryz.underlying9
 a9 := Tryz.isAgg9
 z9 := Tryz.sizeOf9
 v9 := Tryz.zeroValue9
 t24 := Tryz.underlying25
 a24 := Tryz.isAgg25
 z24 := Tryz.sizeOf25
 v24 := Tryz.zeroValue25
 i9 := by kernel_rfl }
open Go.RowKit Go.Lib in
theorem Tryz.slices_Clone_string (b off n c : Nat) (zs : List ByteArray) (w : World) (hz : n ≤ zs.length) (hbig : n * 16 ≤ 140737488355328) (hc : ∀ j, j < zs.length → w.cell? ⟨b, off + j, none⟩ = some (.string (zs.getD j ByteArray.empty))) :
  Calls Tryz.prog 130 #[.slice (some ⟨b, off, none⟩) n c] w fun e w' => ∃ v', e = .returned v' ∧ w'.ownsRow w.heap.size 9 1 v' n ((zs.take n).map (Value.string)) ∧ v' ≠ .slice none 0 0 ∧ Below w.heap.size w w' := Any.slices_Clone_string Tryz.laysNm216 b off n c zs w hz hbig hc
open Go.RowKit Go.Lib in
theorem Tryz.slices_Clone_string_nil (n c : Nat) (w : World) :
  Calls Tryz.prog 130 #[.slice none n c] w fun e w' => e = .returned (.slice none 0 0) ∧ w' = w := Any.slices_Clone_string_nil Tryz.laysNm216 n c w
open Go.RowKit Go.Lib in
theorem Tryz.slices_Clone_string_zero (a : Addr) (c : Nat) (w : World) :
  Calls Tryz.prog 130 #[.slice (some a) 0 c] w fun e w' => ∃ v', e = .returned v' ∧ w'.ownsRow w.heap.size 9 1 v' 0 [] ∧ v' ≠ .slice none 0 0 ∧ Below w.heap.size w w' := Any.slices_Clone_string_zero Tryz.laysNm216 a c w
def Tryz.lays194_ren : Go.Shelf.Ren := ⟨fun | 194 => 132 | n => n, fun | 31 => 25 | 9 => 9 | 3 => 3 | 4 => 4 | 0 => 0 | n => n, fun | n => n⟩
theorem Tryz.lays194 : Go.Proofs.Lays.n194 Tryz.prog Tryz.lays194_ren := {
 mixed := by kernel_rfl
 f194 := Tryz.func132.trans (congrArg some (by kernel_rfl))
 t0 := Tryz.underlying0
 a0 := Tryz.isAgg0
 z0 := Tryz.sizeOf0
 v0 := Tryz.zeroValue0
 t3 := Tryz.underlying3
 a3 := Tryz.isAgg3
 z3 := Tryz.sizeOf3
 v3 := Tryz.zeroValue3
 t4 := Tryz.underlying4
 a4 := Tryz.isAgg4
 z4 := Tryz.sizeOf4
 v4 := Tryz.zeroValue4
 t9 := Tryz.underlying9
 a9 := Tryz.isAgg9
 z9 := Tryz.sizeOf9
 v9 := Tryz.zeroValue9
 t31 := Tryz.underlying25
 a31 := Tryz.isAgg25
 z31 := Tryz.sizeOf25
 v31 := Tryz.zeroValue25 }
open Go.RowKit Go.Lib Go.Sort in
theorem Tryz.slices_Compact_string (blk off cap : Nat) (zs : List (List UInt8)) (w : World) (hH : Holds encStr w blk off zs.toArray) (hsz : zs.length ≤ 9223372036854775807) (hcap : zs.length ≤ cap) :
  Calls Tryz.prog 132 #[.slice (some ⟨blk, off, none⟩) zs.length cap] w fun e w' => e = .returned (.slice (some ⟨blk, off, none⟩) (Lib.compact zs).length cap) ∧ ∃ q, w' = putRow encStr (Sort.ahead w q) blk off (Lib.compact zs ++ List.replicate (zs.length - (Lib.compact zs).length) []).toArray := Any.slices_Compact_string Tryz.lays194 blk off cap zs w hH hsz hcap
open Go.RowKit Go.Lib Go.Sort in
theorem Tryz.slices_Compact_string_empty (a : Option Addr) (cap : Nat) (w : World) :
  Calls Tryz.prog 132 #[.slice a 0 cap] w fun e w' => e = .returned (.slice a 0 cap) ∧ w' = w := Any.slices_Compact_string_empty Tryz.lays194 a cap w
open Go.RowKit Go.Sort in
theorem Tryz.slices_Sort_string_none (p : Option Addr) (cap : Nat) (w : World) :
  Calls Tryz.prog 131 #[.slice p 0 cap] w fun e w' => e = .returned (.tuple #[]) ∧ w' = w := Any.slices_Sort_string_none Tryz.lays190 p cap w
end Go.Proofs
namespace Go.Proofs.YtpodmgihlomglaaGreatDoor
open Go.RowKit
set_option maxRecDepth 1000000
abbrev Rw := Nat → Option Int
structure Ok (R : Rw) : Prop where
 off : ∀ i, 32 ≤ i → R i = none
 inr : ∀ i n, R i = some n → -9223372036854775808 ≤ n ∧ n ≤ 9223372036854775807
def noR : Rw := fun _ => none
theorem Ok.no : Ok noR := ⟨fun _ _ => rfl, fun _ _ h => by cases h⟩
def onP (i : Int) : Bool := decide (0 ≤ i ∧ i < 32)
theorem on_nat {i : Int} (h : onP i = true) : ∃ j : Nat, i = (j : Int) ∧ j < 32 := by
 have h' : 0 ≤ i ∧ i < 32 := by simpa [onP] using h
 exact ⟨i.toNat, by omega, by omega⟩
theorem on_of {j : Nat} (h : j < 32) : onP (j : Int) = true := by simp [onP]; omega
def setR (R : Rw) (i x : Int) : Rw := if onP i = true then fun j => if j = i.toNat then some x else R j else R
def cutR (R : Rw) (i : Int) : Rw := if onP i = true then fun j => if j = i.toNat then none else R j else R
theorem set_on {R : Rw} {j : Nat} (x : Int) (h : j < 32) : setR R (j : Int) x = fun k => if k = j then some x else R k := by unfold setR; rw [if_pos (on_of h)]; rfl
theorem cut_on {R : Rw} {j : Nat} (h : j < 32) : cutR R (j : Int) = fun k => if k = j then none else R k := by unfold cutR; rw [if_pos (on_of h)]; rfl
theorem set_off {R : Rw} {i x : Int} (h : ¬ onP i = true) : setR R i x = R := by unfold setR; rw [if_neg h]
theorem cut_off {R : Rw} {i : Int} (h : ¬ onP i = true) : cutR R i = R := by unfold cutR; rw [if_neg h]
theorem Ok.set {R : Rw} (h : Ok R) (i x : Int) (hx : -9223372036854775808 ≤ x ∧ x ≤ 9223372036854775807) : Ok (setR R i x) := by
 by_cases ho : onP i = true
 ·obtain ⟨j, rfl, hj⟩ := on_nat ho
  rw [set_on x hj]
  refine ⟨fun k hk => ?_, fun k n hn => ?_⟩
  ·show (if k = j then some x else R k) = none
   rw [if_neg (by omega)]; exact h.off k hk
  ·replace hn : (if k = j then some x else R k) = some n := hn
   split at hn
   ·cases hn; exact hx
   ·exact h.inr k n hn
 ·rw [set_off ho]; exact h
theorem Ok.cut {R : Rw} (h : Ok R) (i : Int) : Ok (cutR R i) := by
 by_cases ho : onP i = true
 ·obtain ⟨j, rfl, hj⟩ := on_nat ho
  rw [cut_on hj]
  refine ⟨fun k hk => ?_, fun k n hn => ?_⟩
  ·show (if k = j then none else R k) = none
   split
   ·rfl
   ·exact h.off k hk
  ·replace hn : (if k = j then none else R k) = some n := hn
   split at hn
   ·cases hn
   ·exact h.inr k n hn
 ·rw [cut_off ho]; exact h
def bitN (b i : Nat) : Bool := b / 2 ^ i % 2 == 1
def rkN (b : Nat) : Nat → Nat
 | 0 => 0
 | k + 1 => rkN b k + (if bitN b k = true then 1 else 0)
theorem rk_le (b : Nat) : ∀ k, rkN b k ≤ k
 | 0 => Nat.le_refl _
 | k + 1 => by have := rk_le b k; unfold rkN; split <;> omega
end Go.Proofs.YtpodmgihlomglaaGreatDoor
