import Derived.Test.YtpodmgihlomglaaGreatDoorP3
import Derived.BigQuiet
import Derived.Deep.QuietTactic
import Derived.Ground.SlsgProg
import Derived.KernelRfl
import Derived.Lib.AppendZerosOnto
import Derived.LoopIn
import Derived.LoopNIn
import Derived.OrdersIn
import Derived.OwnWalkIn
import Derived.RangeFuncBound
import Derived.RangeFuncBox
import Derived.RangeFuncCalls
import Derived.RangeFuncLeaves
import Derived.RangeFuncNested
import Derived.Shelf.Abstract
import Derived.Shelf.RegionOpen
import Derived.Shelf.SlCmpFuncs.BinarySearchFunc
import Derived.Shelf.SlCmpFuncs.None
import Derived.Shelf.SlGeneric
import Derived.TacticsInMore
import Derived.Test.YtpodmgihlomglaaGreatDoorProg
import Derived.WalkLawsBesides
namespace Go.Proofs.YtpodmgihlomglaaGreatDoor
open Go.RowKit
set_option maxRecDepth 1000000
structure Cel where
 k : Int
 n : Int
 t : ByteArray
 p : Option Addr
def zeroV : Cel := ⟨0, 0, ⟨#[]⟩, none⟩
abbrev celC (x : Cel) : Array Value := #[.int .i64 x.k, .int .i64 x.n, .string x.t, .pointer x.p]
def enV (x : Cel) : List Value := [.int .i64 x.k, .int .i64 x.n, .string x.t, .pointer x.p]
theorem enV_len (x : Cel) : (enV x).length = 4 := rfl
theorem enV_one (x : Cel) : ∀ u ∈ enV x, u.oneCell' = true := by
 intro u hu
 simp only [enV, List.mem_cons, List.not_mem_nil, or_false] at hu
 rcases hu with rfl | rfl | rfl | rfl <;> rfl
theorem celC_one (x : Cel) : (celC x).all (·.oneCell') = true := by simp [Value.oneCell']
theorem val_info : (Tryz.prog.info? 35).map (fun i => (i.zero, i.size, i.bytes)) = some (some (.agg (celC zeroV)), 4, 40) := by kernel_rfl
theorem val_size : (Tryz.prog.info? 35).map (·.size) = some 4 := by kernel_rfl
abbrev ivV (l : List Cel) : List Value := en enV l
end Go.Proofs.YtpodmgihlomglaaGreatDoor
namespace Go.Proofs.YtpodmgihlomglaaGreatDoor
open Go.RowKit Go.Shelf
set_option maxRecDepth 1000000
set_option linter.unusedSimpArgs false
attribute [local go_sem] Oper.semAt_some
theorem wp_in_wide {P : Program} {Q : Exit → Act → World → Prop} {n : Nat} {o : Oper} {a : Act} {w : World} {K : Act → World → Prop} (hd : ∀ c, o.op ≠ .defer c) (h : o.wp P a w K Q) : o.wpIn Fence.wide n P a w K Q := by
 unfold Oper.wpIn
 refine ⟨fun _ _ => trivial, ?_⟩
 rw [Oper.semAt_eq _ _ _ hd]
 unfold Oper.wp at h
 generalize (execOp a.eval o).run P w = r at h ⊢
 cases r with
 | ok x w' =>
  cases x with
  | value v => exact h
  | skip => exact h
  | defer d => exact h
  | enter f args => exact ⟨fun hh => by simp [Fence.wide] at hh, callsIn_wide.2 h⟩
  | row row args => exact ⟨fun hh => by simp [Fence.wide] at hh, fun c cs _ => by obtain ⟨v, w', r, s⟩ := h c cs; exact ⟨v, w', r, stepsIn_wide.2 s⟩⟩
  | _ => exact h.elim
 | halt x w' =>
  cases x with
  | panic v => exact h
  | _ => exact h.elim
theorem ld_wide {ops : Array Oper} {rest : List Oper} {o : Oper} {a : Act} {w : World} {Q : Exit → Act → World → Prop} {n : Nat} (hgd : o.guard = none) (ty : TypeId) (x : Operand) (ho : o.op = .load ty x)
  (X : Nat) (hx : a.eval x = .pointer (some ⟨X, 0, none⟩)) (T : TypeId) (c : Array Value) (fr : Nat × Nat) (d : TypeDesc) (hB : w.heap[X]? = some (.cells c T fr))
  (hu : Tryz.prog.underlying ty = some d) (hd : d.isRow = true) (hi : (Tryz.prog.info? ty).map (·.size) = some c.size)
  (h : wpListIn Fence.wide n Tryz.prog ops Q rest (a.put o.dst (.agg c)) w) : wpListIn Fence.wide n Tryz.prog ops Q (o :: rest) a w :=
 wpListIn_plain hgd fun _ hK => wp_in_wide (fun c' hc => by rw [ho] at hc; cases hc) (wp_load_row ty x ho X hx T c fr d hB hu (by cases d <;> simp_all [TypeDesc.isRow]) hi (hK _ _ h))
end Go.Proofs.YtpodmgihlomglaaGreatDoor
namespace Go.Proofs.YtpodmgihlomglaaGreatDoor
open Go.RowKit Go.Shelf
set_option linter.unusedSimpArgs false
def TK (T : TypeId) (A B : World) : Prop := ∀ (k : Nat) (cs : Array Value) (fr : Nat × Nat), A.heap[k]? = some (.cells cs T fr) → B.heap[k]? = some (.cells cs T fr)
theorem TK.refl (T : TypeId) (A : World) : TK T A A := fun _ _ _ h => h
theorem TK.trans {T : TypeId} {A B C : World} (h : TK T A B) (k : TK T B C) : TK T A C := fun i cs fr e => k i cs fr (h i cs fr e)
theorem TK.below {T : TypeId} {A B : World} (h : Below A.heap.size A B) : TK T A B := fun k _ _ e => (h.block k (Array.getElem?_eq_some_iff.1 e).1).trans e
theorem TK.grown {T : TypeId} {A B : World} {row : Option Nat} (h : A.grownBy B row) (hT : ∀ X, row = some X → ∀ cs fr, A.heap[X]? ≠ some (.cells cs T fr)) : TK T A B := fun k cs fr e => (h.block k (Array.getElem?_eq_some_iff.1 e).1 (fun e' => hT k e'.symm cs fr e)).trans e
def KS (T : TypeId) (n₀ Y : Nat) (A B : World) : Prop := Below n₀ A B ∧ B.heap[Y]? = A.heap[Y]? ∧ B.heap[Y + 1]? = A.heap[Y + 1]? ∧ TK T A B
theorem KS.trans {T : TypeId} {n₀ Y : Nat} {A B C : World} (h : KS T n₀ Y A B) (k : KS T n₀ Y B C) : KS T n₀ Y A C := ⟨h.1.trans k.1, k.2.1.trans h.2.1, k.2.2.1.trans h.2.2.1, h.2.2.2.trans k.2.2.2⟩
theorem yield_any {m m' l : Nat} {P : Program} {args : Array Value} {W : World} {R : Ending → World → Prop} (h : YieldAt Fence.wide m P l args W R) : YieldAt Fence.wide m' P l args W R := by
 obtain ⟨fn, tmps, assign, body, hy, hR⟩ := h
 exact ⟨fn, tmps, assign, body, hy, hR.1, fun c cs _ => hR.2 c cs (fun d h => by cases h)⟩
theorem range_resolves {P : Program} {g : Operand} {a : Act} {gf : Nat} {lb : Array Value} (hg : a.eval g = .func (.func gf) #[] lb) (l : Nat) (V : World) :
  (resolve a.eval (rangeCall g l) 0).run P V = .ok { target := .fn (.func gf) lb, args := #[.func (.yield l) #[] #[]] } V := by
 simp only [resolve, hg]
 simp [go_sem]
theorem range_enters {P : Program} {gf : Nat} {lb : Array Value} (eg : ∀ args w, (callFunc gf args).run P w = .ok (.enter gf args) w) (args : Array Value) (V : World) :
  (invoke (.fn (.func gf) lb) args).run P V = .ok (.enter gf (args ++ lb)) V := by
 simp [invoke, go_sem, eg]
end Go.Proofs.YtpodmgihlomglaaGreatDoor
namespace Go.Proofs.YtpodmgihlomglaaGreatDoor
open Go.RowKit
set_option maxRecDepth 1000000
set_option linter.unusedSimpArgs false
def wS : List UInt8 → Int
 | [] => 0
 | c :: r => (c.toNat : Int) * 256 ^ r.length + wS r
theorem bytesS_len (n : Int) : (bytesS n).length = 8 := rfl
set_option maxHeartbeats 1000000 in
theorem ref_Bytes (n : Int) (w : World) (hn : InR n) : Calls Tryz.prog 108 #[.int .i64 n] w fun e w' => e = .returned (.string ⟨(bytesS n).toArray⟩) ∧ Below w.heap.size w w' := by
 have hmk := mk8
 have hcv := cv8
 have hw := Lib.hid (word_ofB n hn)
 have hb : Hid (∀ o, Below w.heap.size w (w.alloc o)) := fun o => (Below.refl _ _).alloc (Nat.le_refl _) o
 go_enter Tryz.func108, Tryz.ntmps108
 go_wp2_with fail
 go_rounds 9
 go_wp2_with fail
 go_ret
 exact ⟨by unfold bytesS; rw [← hw.out]; rfl, hb.out _⟩
theorem wpList_append_known {P : Program} {ops : Array Oper} {rest : List Oper} {o : Oper} {a : Act} {Q : Exit → Act → World → Prop} {w w' : World} (hgd : o.guard = none) (p x : Operand) (t t' : TypeId)
  (ho : o.op = .call { callee := .builtin .append, args := #[p, x], argTypes := #[t, t'] }) {vp vx v' : Value} (hp : a.eval p = vp) (hx : a.eval x = vx)
  (hr : ∀ ty, (Builtin.append_ #[t, t'] ty #[vp, vx]).run P w = .ok v' w') (h : wpList P ops Q rest (a.put o.dst v') w') : wpList P ops Q (o :: rest) a w := by
 refine wpList_plain hgd fun K hK => ?_
 unfold Oper.wp execOp
 simp only [ho, resolve, invoke, builtin, Sem.run_bind, Sem.run_pure, Result.andThen_ok, List.map_toArray, List.map_cons, List.map_nil, hp, hx, hr]
 exact hK _ _ h
theorem rnode_info : (Tryz.prog.info? 110).map (fun i => (i.zero, i.size, i.bytes)) = some (some (.agg #[.int .i64 0, .int .i64 0, .slice none 0 0, .slice none 0 0]), 4, 64) := by kernel_rfl
theorem rnode_size : (Tryz.prog.info? 110).map (·.size) = some 4 := by kernel_rfl
theorem below_of_grown {B : Nat} {w w' : World} {row : Option Nat} (hg : w.grownBy w' row) (hB : B ≤ w.heap.size) (hr : ∀ k, row = some k → B ≤ k) : Below B w w' := (Below.refl B w).grown hg hB (fun k e => hr k e)
set_option maxHeartbeats 1000000 in
theorem gr_val (n : Nat) (hn : n ≤ 200000) (w : World) : Calls Tryz.prog 199 #[.slice none 0 0, .int .i64 (n : Int)] w fun e w' => ∃ v, e = .returned v ∧ w'.ownsRow w.heap.size 35 4 v 0 [] ∧ Below w.heap.size w w' := by
 by_cases h0 : n = 0
 ·subst h0
  go_enter Tryz.func199, Tryz.ntmps199
  go_wp2
  go_ret
  exact ⟨_, rfl, World.ownsRow_nil _ _ _ _, Below.refl _ _⟩
 ·obtain ⟨i, hi, hz, h1, h2⟩ := info_parts val_info
  have hrun : ∀ ty, (Builtin.append_ #[55, 3] ty #[.slice none 0 0, .int .i64 (n : Int)]).run Tryz.prog w = .ok (.slice (some ⟨w.heap.size, 0, none⟩) n (grownCap w n 0 35)) (w.drew.alloc (.cells (Builtin.zeroCells (.agg (celC zeroV) : Value).cells n ++ Builtin.zeroCells (.agg (celC zeroV) : Value).cells (grownCap w n 0 35 - n)) 35)) := fun ty => by
   have h := Lib.run_append_grow_zeros (P := Tryz.prog) w 55 3 ty 35 i (.agg (celC zeroV)) .i64 .i64 Tryz.underlying55 Tryz.underlying3 hi hz none 0 0 [] (run_firstCells_none w.drew i.size 0 0 0) n (by omega) (by omega) (by omega) (by omega) (by rw [h2]; omega)
    (by rw [Nat.zero_add, h2]; exact growslice_fits (by omega) (by omega))
   simpa using h
  have hG1 := grownCap_ge w n 0 35
  have hG2 := grownCap_le_maxLen w n 0 35 (by unfold maxLen; omega)
  obtain ⟨G, hG⟩ : ∃ G, G = grownCap w n 0 35 := ⟨_, rfl⟩
  rw [← hG] at hrun hG1 hG2
  have hG3 : (G : Int) ≤ 9223372036854775807 := by unfold maxLen at hG2; omega
  have hn3 : (n : Int) ≤ 200000 := by omega
  have hn0 : (0 : Int) < n := by omega
  have HRUN := Lib.hid hrun
  have HG1 := Lib.hid hG1
  have HG2 := Lib.hid hG2
  have HN := Lib.hid hn
  clear hrun hG1 hG2 h0 hG hn
  go_enter Tryz.func199, Tryz.ntmps199
  go_wp2_with (refine wpList_append_known rfl _ _ _ _ rfl rfl rfl HRUN.out ?_)
  go_ret
  refine ⟨_, rfl, World.ownsRow_made w.drew _ G (Nat.le_refl _) HG2.out ?_, Below.more (drawn_below w) _⟩
  have := HG1.out
  rw [Array.size_append, size_zeroCells, size_zeroCells]
  show n * 4 + (G - n) * 4 = G * 4
  omega
set_option maxHeartbeats 4000000 in
theorem cc_val {α : Type} {enc : α → List Value} (hone : ∀ x, ∀ u ∈ enc x, u.oneCell' = true) (w : World) {S : Nat → Prop} (B : Nat) (ls : List (Value × List α))
  (hcells : ∀ k (hk : k < ls.length), w.cell? ⟨B, k, none⟩ = some ls[k].1) (hcut : ∀ p ∈ ls, CutAt S w 4 p.1 (en enc p.2) p.2.length) (hN : (catE ls ls.length).length ≤ 100000) (hl : ls.length ≤ 1000) :
  Calls Tryz.prog 166 #[.slice (some ⟨B, 0, none⟩) ls.length ls.length] w fun e w' => ∃ v, e = .returned v ∧ CutAt (fun g => w.heap.size ≤ g) w' 4 v (en enc (catE ls ls.length)) (catE ls ls.length).length ∧ Below w.heap.size w w' := by
 obtain ⟨i, hi, hz, h1, h2⟩ := info_parts val_info
 have HS := Lib.hid hcut
 have HC := Lib.hid hcells
 have HN := Lib.hid hN
 have HI := Lib.hid (And.intro hi (And.intro hz (And.intro h1 h2)))
 clear hcut hcells hi hz h1 h2 hN
 go_enter Tryz.func166, Tryz.ntmps166
 go_wp2_with fail
 go_loopw [3, 11] (fun n i wr => ∃ k : Nat, k ≤ ls.length ∧ i = .int .i64 k ∧ n = .int .i64 ((catE ls k).length : Nat) ∧ w = wr) (fun _ i _ => ls.length - (intOf i).toNat)
 case atStart => exact ⟨0, Nat.zero_le _, rfl, rfl, rfl⟩
 case round =>
  obtain ⟨k, hk, rfl, rfl, rfl⟩ := hrel
  by_cases hlt : k < ls.length
  ·have hc := HC.out k hlt
   obtain ⟨a, cap, ha, _⟩ := HS.out _ (List.getElem_mem hlt)
   have hle := catE_le (ls := ls) (k + 1) hlt (Nat.le_refl _)
   have hle' : ((catE ls (k + 1)).length : Int) ≤ 100000 := by have := HN.out; omega
   have hs := catE_succ hlt
   have hsl : ((catE ls (k + 1)).length : Int) = (catE ls k).length + ls[k].2.length := by rw [hs, List.length_append]; omega
   rw [hsl] at hle'
   have HSL := Lib.hid hsl
   rw [ha] at hc
   have hp0 : ¬ (((catE ls k).length : Int) + (ls[k].2.length : Int) < 0) := by omega
   clear hs hsl hle
   go_wp2_with fail
   go_roundw
   case rel => exact ⟨k + 1, by omega, by simp, by rw [HSL.out], trivial⟩
   case measure => simp [intOf]; omega
  ·obtain rfl : k = ls.length := by omega
   obtain ⟨N, hN⟩ : ∃ N, N = (catE ls ls.length).length := ⟨_, rfl⟩
   have HGR := Lib.hid (gr_val N (by have := HN.out; omega) w)
   have HNN := Lib.hid hN
   rw [← hN]
   clear hN
   go_wp2_with (go_at_call 199; refine HGR.out.mono ?_; rintro e w1 ⟨v1, rfl, ho1, hb1⟩; have HO1 := Lib.hid ho1; have HB1 := Lib.hid hb1; clear ho1 hb1)
   go_loopw [6, 27] (fun nv i wr => ∃ k : Nat, k ≤ ls.length ∧ i = .int .i64 k ∧ Hid (wr.ownsRow w.heap.size 35 4 nv (catE ls k).length (en enc (catE ls k))) ∧ Hid (Below w.heap.size w wr)) (fun _ i _ => ls.length - (intOf i).toNat)
   case atStart => exact ⟨0, Nat.zero_le _, rfl, HO1, HB1⟩
   case round =>
    clear HO1 HB1
    obtain ⟨k, hk, rfl, HO, HB⟩ := hrel
    by_cases hlt : k < ls.length
    ·have hc := (HB.out.cell (p := ⟨B, k, none⟩) (World.block_lt_of_cell? _ _ (HC.out k hlt))).trans (HC.out k hlt)
     have HCUT := Lib.hid ((HS.out _ (List.getElem_mem hlt)).later HB.out)
     have hle := catE_le (ls := ls) (k + 1) hlt (Nat.le_refl _)
     have HS2 := Lib.hid (catE_succ hlt)
     have HLE : Hid ((catE ls k).length + ls[k].2.length ≤ 100000) := by show _ ≤ _; rw [HS2.out, List.length_append] at hle; have := HN.out; omega
     clear hle
     go_wp2_with (refine wpList_append_cut rfl _ _ 55 rfl w.heap.size 35 i (.agg (celC zeroV)) 40 Tryz.underlying55 HI.out.1 HI.out.2.1 HI.out.2.2.1 HI.out.2.2.2 rfl (by decide) rfl HO.out rfl HCUT.out (en_one hone _) (by have := HLE.out; unfold maxLen; omega) (by have := HLE.out; omega) HB.out.size ?_; intro v2 w2 ho2 hg2; have HO2 := Lib.hid ho2; have HB2 := Lib.hid (HB.out.trans (below_of_grown hg2 HB.out.size (ownsRow_low HO.out))); clear ho2 hg2)
     go_roundw
     case rel => exact ⟨k + 1, by omega, by simp, by rw [HS2.out, List.length_append, en_app]; exact HO2, HB2⟩
     case measure => simp [intOf]; omega
    ·obtain rfl : k = ls.length := by omega
     go_wp2_with fail
     go_ret
     exact ⟨_, rfl, by rw [HNN.out]; exact ownsRow_cut HO.out, HB.out⟩
set_option maxHeartbeats 1000000 in
theorem gr_node (n : Nat) (hn : n ≤ 200000) (w : World) : Calls Tryz.prog 198 #[.slice none 0 0, .int .i64 (n : Int)] w fun e w' => ∃ v, e = .returned v ∧ w'.ownsRow w.heap.size 110 4 v 0 [] ∧ Below w.heap.size w w' := by
 by_cases h0 : n = 0
 ·subst h0
  go_enter Tryz.func198, Tryz.ntmps198
  go_wp2
  go_ret
  exact ⟨_, rfl, World.ownsRow_nil _ _ _ _, Below.refl _ _⟩
 ·obtain ⟨i, hi, hz, h1, h2⟩ := info_parts rnode_info
  have hrun : ∀ ty, (Builtin.append_ #[108, 3] ty #[.slice none 0 0, .int .i64 (n : Int)]).run Tryz.prog w = .ok (.slice (some ⟨w.heap.size, 0, none⟩) n (grownCap w n 0 110)) (w.drew.alloc (.cells (Builtin.zeroCells (.agg #[.int .i64 0, .int .i64 0, .slice none 0 0, .slice none 0 0] : Value).cells n ++ Builtin.zeroCells (.agg #[.int .i64 0, .int .i64 0, .slice none 0 0, .slice none 0 0] : Value).cells (grownCap w n 0 110 - n)) 110)) := fun ty => by
   have h := Lib.run_append_grow_zeros (P := Tryz.prog) w 108 3 ty 110 i (.agg #[.int .i64 0, .int .i64 0, .slice none 0 0, .slice none 0 0]) .i64 .i64 Tryz.underlying108 Tryz.underlying3 hi hz none 0 0 [] (run_firstCells_none w.drew i.size 0 0 0) n (by omega) (by omega) (by omega) (by omega) (by rw [h2]; omega)
    (by rw [Nat.zero_add, h2]; exact growslice_fits (by omega) (by omega))
   simpa using h
  have hG1 := grownCap_ge w n 0 110
  have hG2 := grownCap_le_maxLen w n 0 110 (by unfold maxLen; omega)
  obtain ⟨G, hG⟩ : ∃ G, G = grownCap w n 0 110 := ⟨_, rfl⟩
  rw [← hG] at hrun hG1 hG2
  have hG3 : (G : Int) ≤ 9223372036854775807 := by unfold maxLen at hG2; omega
  have hn3 : (n : Int) ≤ 200000 := by omega
  have hn0 : (0 : Int) < n := by omega
  have HRUN := Lib.hid hrun
  have HG1 := Lib.hid hG1
  have HG2 := Lib.hid hG2
  have HN := Lib.hid hn
  clear hrun hG1 hG2 h0 hG hn
  go_enter Tryz.func198, Tryz.ntmps198
  go_wp2_with (refine wpList_append_known rfl _ _ _ _ rfl rfl rfl HRUN.out ?_)
  go_ret
  refine ⟨_, rfl, World.ownsRow_made w.drew _ G (Nat.le_refl _) HG2.out ?_, Below.more (drawn_below w) _⟩
  have := HG1.out
  rw [Array.size_append, size_zeroCells, size_zeroCells]
  show n * 4 + (G - n) * 4 = G * 4
  omega
set_option maxHeartbeats 4000000 in
theorem cc_node {α : Type} {enc : α → List Value} (hone : ∀ x, ∀ u ∈ enc x, u.oneCell' = true) (w : World) {S : Nat → Prop} (B : Nat) (ls : List (Value × List α))
  (hcells : ∀ k (hk : k < ls.length), w.cell? ⟨B, k, none⟩ = some ls[k].1) (hcut : ∀ p ∈ ls, CutAt S w 4 p.1 (en enc p.2) p.2.length) (hN : (catE ls ls.length).length ≤ 100000) (hl : ls.length ≤ 1000) :
  Calls Tryz.prog 165 #[.slice (some ⟨B, 0, none⟩) ls.length ls.length] w fun e w' => ∃ v, e = .returned v ∧ CutAt (fun g => w.heap.size ≤ g) w' 4 v (en enc (catE ls ls.length)) (catE ls ls.length).length ∧ Below w.heap.size w w' := by
 obtain ⟨i, hi, hz, h1, h2⟩ := info_parts rnode_info
 have HS := Lib.hid hcut
 have HC := Lib.hid hcells
 have HN := Lib.hid hN
 have HI := Lib.hid (And.intro hi (And.intro hz (And.intro h1 h2)))
 clear hcut hcells hi hz h1 h2 hN
 go_enter Tryz.func165, Tryz.ntmps165
 go_wp2_with fail
 go_loopw [3, 11] (fun n i wr => ∃ k : Nat, k ≤ ls.length ∧ i = .int .i64 k ∧ n = .int .i64 ((catE ls k).length : Nat) ∧ w = wr) (fun _ i _ => ls.length - (intOf i).toNat)
 case atStart => exact ⟨0, Nat.zero_le _, rfl, rfl, rfl⟩
 case round =>
  obtain ⟨k, hk, rfl, rfl, rfl⟩ := hrel
  by_cases hlt : k < ls.length
  ·have hc := HC.out k hlt
   obtain ⟨a, cap, ha, _⟩ := HS.out _ (List.getElem_mem hlt)
   have hle := catE_le (ls := ls) (k + 1) hlt (Nat.le_refl _)
   have hle' : ((catE ls (k + 1)).length : Int) ≤ 100000 := by have := HN.out; omega
   have hs := catE_succ hlt
   have hsl : ((catE ls (k + 1)).length : Int) = (catE ls k).length + ls[k].2.length := by rw [hs, List.length_append]; omega
   rw [hsl] at hle'
   have HSL := Lib.hid hsl
   rw [ha] at hc
   have hp0 : ¬ (((catE ls k).length : Int) + (ls[k].2.length : Int) < 0) := by omega
   clear hs hsl hle
   go_wp2_with fail
   go_roundw
   case rel => exact ⟨k + 1, by omega, by simp, by rw [HSL.out], trivial⟩
   case measure => simp [intOf]; omega
  ·obtain rfl : k = ls.length := by omega
   obtain ⟨N, hN⟩ : ∃ N, N = (catE ls ls.length).length := ⟨_, rfl⟩
   have HGR := Lib.hid (gr_node N (by have := HN.out; omega) w)
   have HNN := Lib.hid hN
   rw [← hN]
   clear hN
   go_wp2_with (go_at_call 198; refine HGR.out.mono ?_; rintro e w1 ⟨v1, rfl, ho1, hb1⟩; have HO1 := Lib.hid ho1; have HB1 := Lib.hid hb1; clear ho1 hb1)
   go_loopw [6, 27] (fun nv i wr => ∃ k : Nat, k ≤ ls.length ∧ i = .int .i64 k ∧ Hid (wr.ownsRow w.heap.size 110 4 nv (catE ls k).length (en enc (catE ls k))) ∧ Hid (Below w.heap.size w wr)) (fun _ i _ => ls.length - (intOf i).toNat)
   case atStart => exact ⟨0, Nat.zero_le _, rfl, HO1, HB1⟩
   case round =>
    clear HO1 HB1
    obtain ⟨k, hk, rfl, HO, HB⟩ := hrel
    by_cases hlt : k < ls.length
    ·have hc := (HB.out.cell (p := ⟨B, k, none⟩) (World.block_lt_of_cell? _ _ (HC.out k hlt))).trans (HC.out k hlt)
     have HCUT := Lib.hid ((HS.out _ (List.getElem_mem hlt)).later HB.out)
     have hle := catE_le (ls := ls) (k + 1) hlt (Nat.le_refl _)
     have HS2 := Lib.hid (catE_succ hlt)
     have HLE : Hid ((catE ls k).length + ls[k].2.length ≤ 100000) := by show _ ≤ _; rw [HS2.out, List.length_append] at hle; have := HN.out; omega
     clear hle
     go_wp2_with (refine wpList_append_cut rfl _ _ 108 rfl w.heap.size 110 i (.agg #[.int .i64 0, .int .i64 0, .slice none 0 0, .slice none 0 0]) 64 Tryz.underlying108 HI.out.1 HI.out.2.1 HI.out.2.2.1 HI.out.2.2.2 rfl (by decide) rfl HO.out rfl HCUT.out (en_one hone _) (by have := HLE.out; unfold maxLen; omega) (by have := HLE.out; omega) HB.out.size ?_; intro v2 w2 ho2 hg2; have HO2 := Lib.hid ho2; have HB2 := Lib.hid (HB.out.trans (below_of_grown hg2 HB.out.size (ownsRow_low HO.out))); clear ho2 hg2)
     go_roundw
     case rel => exact ⟨k + 1, by omega, by simp, by rw [HS2.out, List.length_append, en_app]; exact HO2, HB2⟩
     case measure => simp [intOf]; omega
    ·obtain rfl : k = ls.length := by omega
     go_wp2_with fail
     go_ret
     exact ⟨_, rfl, by rw [HNN.out]; exact ownsRow_cut HO.out, HB.out⟩
end Go.Proofs.YtpodmgihlomglaaGreatDoor
namespace Go.Proofs
open Go.Shelf
def Tryz.searchL_ren : Go.Shelf.Ren := ⟨fun | 14 => 156 | n => n, fun | 22 => 117 | 24 => 166 | 29 => 9 | 32 => 212 | 3 => 3 | 4 => 4 | 35 => 183 | 0 => 0 | n => n, fun | n => n⟩
theorem Tryz.searchL : Go.Proofs.SlLaysG2.n14 Tryz.prog Tryz.searchL_ren := {
 mixed := by kernel_rfl
 f14 := ⟨Tryz.f156.name, by decide, Tryz.func156.trans (congrArg some (by kernel_rfl))⟩
 t0 := Tryz.underlying0
 a0 := Tryz.isAgg0
 z0 := Tryz.sizeOf0
 v0 := Tryz.zeroValue0
 t3 := Tryz.underlying3
 a3 := Tryz.isAgg3
 z3 := Tryz.sizeOf3
 v3 := Tryz.zeroValue3
 t4 := Tryz.underlying4
 a4 := Tryz.isAgg4
 z4 := Tryz.sizeOf4
 v4 := Tryz.zeroValue4
 t22 := Tryz.underlying117
 a22 := Tryz.isAgg117
 z22 := Tryz.sizeOf117
 v22 := Tryz.zeroValue117
 a24 := Tryz.isAgg166
 z24 := Tryz.sizeOf166
 a29 := Tryz.isAgg9
 z29 := Tryz.sizeOf9
 t32 := Tryz.underlying212
 a32 := Tryz.isAgg212
 z32 := Tryz.sizeOf212
 v32 := Tryz.zeroValue212
 t35 := Tryz.underlying183
 a35 := Tryz.isAgg183
 z35 := Tryz.sizeOf183
 v35 := Tryz.zeroValue183 }
end Go.Proofs
