/- Texts put together: Sp1 HmLib HmRow HmRow2 HmAll HmFirst. -/
import Derived.Test.YtnnlfgfgfegjkaaDoorPkA
import Derived.Handy
import Derived.Deep.QuietTactic
import Derived.BigQuiet
import Derived.Deep.RegionWith
import Derived.Deep.Cut
import Derived.Lib.Tables
import Derived.Lib.AppendZerosOnto
import Derived.Lib.MinMax
import Derived.Deep.OwnRows
import Derived.Test.YtnnlfgfgfegjkaaDoorPkB
import Derived.OwnWalkIn
import Derived.TacticsInMore
import Derived.LoopNIn
import Derived.LoopIn
import Derived.Deep.RegionHeld3

/- Package sparse: the bit of a place; how many bits a word has; its lowest place. -/
namespace Go.Proofs.YtnnlfgfgfegjkaaDoor
open Go.RowKit
set_option maxRecDepth 1000000
set_option linter.unusedSimpArgs false

set_option maxHeartbeats 1000000 in
theorem sp_bit_off (i : Int) (h : ¬ onP i = true) (w : World) : Calls Tryd.prog 94 #[.int .i64 i] w fun e w' => e = .returned (.int .u32 0) ∧ w' = w := by
  have h' : i < 0 ∨ 32 ≤ i := by simp [onP] at h; omega
  by_cases h1 : i < 0
  · go_enter Tryd.func94, Tryd.ntmps94
    go_wp2
    go_ret
    exact ⟨rfl, rfl⟩
  · have h2 : 32 ≤ i := by omega
    have h3 : 0 ≤ i := by omega
    clear h h'
    go_enter Tryd.func94, Tryd.ntmps94
    go_wp2
    go_ret
    exact ⟨rfl, rfl⟩
theorem pow_word {j : Nat} (hj : j < 32) : (2 : Int) ^ j % 4294967296 = ((2 ^ j : Nat) : Int) := by
  have h : 2 ^ j < 4294967296 := Nat.pow_lt_pow_right (show 1 < 2 by decide) hj
  have e : ((2 : Int) ^ j) = ((2 ^ j : Nat) : Int) := by simp
  rw [e]
  generalize 2 ^ j = m at h
  omega
set_option maxHeartbeats 1000000 in
theorem sp_bit_on (j : Nat) (hj : j < 32) (w : World) : Calls Tryd.prog 94 #[.int .i64 (j : Int)] w fun e w' => e = .returned (.int .u32 ((2 ^ j : Nat) : Int)) ∧ w' = w := by
  have hp := Lib.hid (pow_word hj)
  have h1 : (j : Int) < 32 := by omega
  have h2 : 0 ≤ (j : Int) := by omega
  go_enter Tryd.func94, Tryd.ntmps94
  go_wp2
  go_ret
  exact ⟨congrArg (fun x => Ending.returned (.int .u32 x)) hp.out, rfl⟩
theorem mask_8 (x : Int) (h0 : 0 ≤ x) (h1 : x < 4294967296) : bits .and .u32 x 255 = x % 256 :=
  bits_mask .u32 32 (by decide) (fun n a c => by rw [IntKind.wrap_u32]; simp only [Int.reducePow] at c; omega) 8 (by decide) x h0 (by simp only [Int.reducePow]; omega)
theorem pop8_rk : ∀ n : Fin 256, Lib.pop8 (n.val : Int) = (rkN n.val 8 : Int) := by decide +kernel
theorem pop8_at (n : Nat) (h : n < 256) : Lib.pop8 (n : Int) = (rkN n 8 : Int) := pop8_rk ⟨n, h⟩
set_option maxHeartbeats 1000000 in
theorem sp_ones (x : Nat) (hx : x < 4294967296) (w : World) : Calls Tryd.prog 122 #[.int .u32 (x : Int)] w fun e w' => e = .returned (.int .i64 (rkN x 32 : Nat)) ∧ ∃ n, w' = w.drewN n := by
  have h1 : 0 ≤ (x : Int) := by omega
  have h2 : (x : Int) < 4294967296 := by omega
  have h3 : 0 ≤ (x : Int) / 16777216 := by omega
  have h4 : (x : Int) / 16777216 ≤ 255 := by omega
  have h5 : 0 ≤ (x : Int) / 65536 := by omega
  have h6 : 0 ≤ (x : Int) / 256 := by omega
  have hv : Hid ((Lib.pop8 ((x : Int) / 16777216) + Lib.pop8 ((x : Int) / 65536 % 256) + Lib.pop8 ((x : Int) / 256 % 256) + Lib.pop8 ((x : Int) % 256)) % 256 = ((rkN x 32 : Nat) : Int)) := by
    show _ = _
    have q1 : Lib.pop8 ((x : Int) / 16777216) = ((rkN (x / 16777216) 8 : Nat) : Int) := pop8_at (x / 16777216) (by omega)
    have q2 : Lib.pop8 ((x : Int) / 65536 % 256) = ((rkN (x / 65536 % 256) 8 : Nat) : Int) := pop8_at (x / 65536 % 256) (by omega)
    have q3 : Lib.pop8 ((x : Int) / 256 % 256) = ((rkN (x / 256 % 256) 8 : Nat) : Int) := pop8_at (x / 256 % 256) (by omega)
    have q4 : Lib.pop8 ((x : Int) % 256) = ((rkN (x % 256) 8 : Nat) : Int) := pop8_at (x % 256) (by omega)
    have g1 := rk_le (x / 16777216) 8
    have g2 := rk_le (x / 65536 % 256) 8
    have g3 := rk_le (x / 256 % 256) 8
    have g4 := rk_le (x % 256) 8
    rw [q1, q2, q3, q4, rk_bytes]
    omega
  have m1 := mask_8 ((x : Int) / 65536) (by omega) (by omega)
  have m2 := mask_8 ((x : Int) / 256) (by omega) (by omega)
  have m3 := mask_8 (x : Int) (by omega) (by omega)
  go_enter Tryd.func122, Tryd.ntmps122
  go_upto_region 1 with fail
  generalize hT : (ByteArray.mk (List.toArray _) : ByteArray) = t
  obtain rfl : Lib.pop8tab = t := by rw [← hT]; decide +kernel
  clear hT
  go_quiet (fail)
  go_wp2
  go_ret
  exact ⟨congrArg (fun v => Ending.returned (.int .i64 v)) hv.out, nq, rfl⟩
set_option maxHeartbeats 1000000 in
theorem sp_count (x : Nat) (hx : x < 4294967296) (w : World) : Calls Tryd.prog 107 #[.int .u32 (x : Int)] w fun e w' => e = .returned (.int .i64 (rkN x 32 : Nat)) ∧ ∃ n, w' = w.drewN n := by
  go_enter Tryd.func107, Tryd.ntmps107
  go_wp2_with (go_at_call 122; refine (sp_ones x hx _).mono ?_; rintro e w1 ⟨rfl, n, rfl⟩)
  go_ret
  exact ⟨rfl, n, rfl⟩
/-- The library's table of the lowest bits lies where the program's text lays it. -/
def Tab6 (w : World) : Prop := ∀ j, j < 32 → w.cell? ⟨1, j, none⟩ = some (.int .u8 (Lib.deBruijn32tab.getD j 0 : Nat))
theorem Tab6.below {w w' : World} (h : Tab6 w) (hb : Below w.heap.size w w') : Tab6 w' := fun j hj => (hb.cell (p := ⟨1, j, none⟩) (World.block_lt_of_cell? w _ (h j hj))).trans (h j hj)
theorem sp_key (x a : Nat) (hx : x < 4294967296) (hx0 : x ≠ 0) (hlow : x &&& (4294967296 - x) = a) :
    bits BinOp.and IntKind.u32 (x : Int) (-(x : Int) % 4294967296) * 125613361 % 4294967296 / 134217728 = ((a * 125613361 % 4294967296 / 134217728 : Nat) : Int) := by
  have e1 : -(x : Int) % 4294967296 = ((4294967296 - x : Nat) : Int) := by omega
  rw [e1, and_32 x _ hx, hlow]
  omega
set_option maxHeartbeats 1000000 in
theorem sp_zeros_core (x k idx : Nat) (w : World) (hx0 : ((x : Int) == 0) = false)
    (key : bits BinOp.and IntKind.u32 (x : Int) (-(x : Int) % 4294967296) * 125613361 % 4294967296 / 134217728 = (idx : Int))
    (hi : idx < 32) (hk : k < 32) (hcell : w.cell? ⟨1, idx, none⟩ = some (.int .u8 k)) :
    Calls Tryd.prog 111 #[.int .u32 x] w fun e w' => e = .returned (.int .i64 k) ∧ w' = w := by
  go_enter Tryd.func111, Tryd.ntmps111
  go_wp2_with (simp only [key])
  go_ret
  exact ⟨rfl, rfl⟩
theorem sp_zeros (x : Nat) (hx : x < 4294967296) (hx0 : x ≠ 0) (w : World) (hT : Tab6 w) :
    Calls Tryd.prog 111 #[.int .u32 x] w fun e w' => e = .returned (.int .i64 (Lib.ctz 32 x : Nat)) ∧ w' = w := by
  obtain ⟨hlow, hk⟩ := Lib.lowest_bit 32 x hx0 hx
  obtain ⟨hi, htab⟩ := Lib.deBruijn32_at _ hk
  have hcell := hT _ hi
  rw [htab] at hcell
  exact sp_zeros_core x _ _ w (by simp; omega) (sp_key x _ hx hx0 hlow) hi hk hcell
end Go.Proofs.YtnnlfgfgfegjkaaDoor

/- Package hamt: what it leans on of Go's library (slices.Grow, slices.Concat at pointers to keys); copy into the middle of a block; package sparse's joined at places. (the first part written by tools/gen09/lib9.py) -/
namespace Go.Proofs.YtnnlfgfgfegjkaaDoor
open Go.RowKit
set_option maxRecDepth 1000000
set_option linter.unusedSimpArgs false

/-- An append whose run is known. -/
theorem wpList_append_known {P : Program} {ops : Array Oper} {rest : List Oper} {o : Oper} {a : Act} {Q : Exit → Act → World → Prop} {w w' : World} (hgd : o.guard = none) (p x : Operand) (t t' : TypeId)
    (ho : o.op = .call { callee := .builtin .append, args := #[p, x], argTypes := #[t, t'] }) {vp vx v' : Value} (hp : a.eval p = vp) (hx : a.eval x = vx)
    (hr : ∀ ty, (Builtin.append_ #[t, t'] ty #[vp, vx]).run P w = .ok v' w') (h : wpList P ops Q rest (a.put o.dst v') w') : wpList P ops Q (o :: rest) a w := by
  refine wpList_plain hgd fun K hK => ?_
  unfold Oper.wp execOp
  simp only [ho, resolve, invoke, builtin, Sem.run_bind, Sem.run_pure, Result.andThen_ok, List.map_toArray, List.map_cons, List.map_nil, hp, hx, hr]
  exact hK _ _ h
theorem eptr_info : (Tryd.prog.info? 106).map (fun i => (i.zero, i.size, i.bytes)) = some (some (.pointer none), 1, 8) := by kernel_rfl
theorem eptr_size : (Tryd.prog.info? 106).map (·.size) = some 1 := by kernel_rfl
theorem pl_info : (Tryd.prog.info? 117).map (fun i => (i.zero, i.size, i.bytes)) = some (some (.agg #[.pointer none, .pointer none]), 2, 16) := by kernel_rfl
theorem pl_size : (Tryd.prog.info? 117).map (·.size) = some 2 := by kernel_rfl
theorem nd_size : (Tryd.prog.info? 34).map (·.size) = some 3 := by kernel_rfl
theorem row_size : (Tryd.prog.info? 31).map (·.size) = some 2 := by kernel_rfl
theorem en_size : (Tryd.prog.info? 110).map (·.size) = some 3 := by kernel_rfl
theorem map_size : (Tryd.prog.info? 36).map (·.size) = some 6 := by kernel_rfl
theorem below_of_grown {B : Nat} {w w' : World} {row : Option Nat} (hg : w.grownBy w' row) (hB : B ≤ w.heap.size) (hr : ∀ k, row = some k → B ≤ k) : Below B w w' := (Below.refl B w).grown hg hB (fun k e => hr k e)
set_option maxHeartbeats 1000000 in
theorem gr_ep (n : Nat) (hn : n ≤ 200000) (w : World) : Calls Tryd.prog 99 #[.slice none 0 0, .int .i64 (n : Int)] w fun e w' => ∃ v, e = .returned v ∧ w'.ownsRow w.heap.size 106 1 v 0 [] ∧ Below w.heap.size w w' := by
  by_cases h0 : n = 0
  · subst h0
    go_enter Tryd.func99, Tryd.ntmps99
    go_wp2
    go_ret
    exact ⟨_, rfl, World.ownsRow_nil _ _ _ _, Below.refl _ _⟩
  · obtain ⟨i, hi, hz, h1, h2⟩ := info_parts eptr_info
    have hrun : ∀ ty, (Builtin.append_ #[32, 3] ty #[.slice none 0 0, .int .i64 (n : Int)]).run Tryd.prog w = .ok (.slice (some ⟨w.heap.size, 0, none⟩) n (grownCap w n 0 106)) (w.drew.alloc (.cells (Builtin.zeroCells (.pointer none : Value).cells n ++ Builtin.zeroCells (.pointer none : Value).cells (grownCap w n 0 106 - n)) 106)) := fun ty => by
      have h := Lib.run_append_grow_zeros (P := Tryd.prog) w 32 3 ty 106 i (.pointer none) .i64 .i64 Tryd.underlying32 Tryd.underlying3 hi hz none 0 0 [] (run_firstCells_none w.drew i.size 0 0 0) n (by omega) (by omega) (by omega) (by omega) (by rw [h2]; omega)
        (by rw [Nat.zero_add, h2]; exact growslice_fits (by omega) (by omega))
      simpa using h
    have hG1 := grownCap_ge w n 0 106
    have hG2 := grownCap_le_maxLen w n 0 106 (by unfold maxLen; omega)
    obtain ⟨G, hG⟩ : ∃ G, G = grownCap w n 0 106 := ⟨_, rfl⟩
    rw [← hG] at hrun hG1 hG2
    have hG3 : (G : Int) ≤ 9223372036854775807 := by unfold maxLen at hG2; omega
    have hn3 : (n : Int) ≤ 200000 := by omega
    have hn0 : (0 : Int) < n := by omega
    have HRUN := Lib.hid hrun
    have HG1 := Lib.hid hG1
    have HG2 := Lib.hid hG2
    have HN := Lib.hid hn
    clear hrun hG1 hG2 h0 hG hn
    go_enter Tryd.func99, Tryd.ntmps99
    go_wp2_with (refine wpList_append_known rfl _ _ _ _ rfl rfl rfl HRUN.out ?_)
    go_ret
    refine ⟨_, rfl, World.ownsRow_made w.drew _ G (Nat.le_refl _) HG2.out ?_, Below.more (drawn_below w) _⟩
    have := HG1.out
    rw [Array.size_append, size_zeroCells, size_zeroCells]
    show n * 1 + (G - n) * 1 = G * 1
    omega
set_option maxHeartbeats 4000000 in
theorem cc_ep {α : Type} {enc : α → List Value} (hone : ∀ x, ∀ u ∈ enc x, u.oneCell' = true) (w : World) {S : Nat → Prop} (B : Nat) (ls : List (Value × List α))
    (hcells : ∀ k (hk : k < ls.length), w.cell? ⟨B, k, none⟩ = some ls[k].1) (hcut : ∀ p ∈ ls, CutAt S w 1 p.1 (en enc p.2) p.2.length) (hN : (catE ls ls.length).length ≤ 100000) (hl : ls.length ≤ 1000) :
    Calls Tryd.prog 83 #[.slice (some ⟨B, 0, none⟩) ls.length ls.length] w fun e w' => ∃ v, e = .returned v ∧ w'.ownsRow w.heap.size 106 1 v (catE ls ls.length).length (en enc (catE ls ls.length)) ∧ Below w.heap.size w w' := by
  obtain ⟨i, hi, hz, h1, h2⟩ := info_parts eptr_info
  have HS := Lib.hid hcut
  have HC := Lib.hid hcells
  have HN := Lib.hid hN
  have HI := Lib.hid (And.intro hi (And.intro hz (And.intro h1 h2)))
  clear hcut hcells hi hz h1 h2 hN
  go_enter Tryd.func83, Tryd.ntmps83
  go_wp2_with fail
  go_loopw [3, 11] (fun n i wr => ∃ k : Nat, k ≤ ls.length ∧ i = .int .i64 k ∧ n = .int .i64 ((catE ls k).length : Nat) ∧ w = wr) (fun _ i _ => ls.length - (intOf i).toNat)
  case atStart => exact ⟨0, Nat.zero_le _, rfl, rfl, rfl⟩
  case round =>
    obtain ⟨k, hk, rfl, rfl, rfl⟩ := hrel
    by_cases hlt : k < ls.length
    · have hc := HC.out k hlt
      obtain ⟨a, cap, ha, _⟩ := HS.out _ (List.getElem_mem hlt)
      have hle := catE_le (ls := ls) (k + 1) hlt (Nat.le_refl _)
      have hle' : ((catE ls (k + 1)).length : Int) ≤ 100000 := by have := HN.out; omega
      have hs := catE_succ hlt
      have hsl : ((catE ls (k + 1)).length : Int) = (catE ls k).length + ls[k].2.length := by rw [hs, List.length_append]; omega
      rw [hsl] at hle'
      have HSL := Lib.hid hsl
      rw [ha] at hc
      have hp0 : ¬ (((catE ls k).length : Int) + (ls[k].2.length : Int) < 0) := by omega
      clear hs hsl hle
      go_wp2_with fail
      go_roundw
      case rel => exact ⟨k + 1, by omega, by simp, by rw [HSL.out], trivial⟩
      case measure => simp [intOf]; omega
    · obtain rfl : k = ls.length := by omega
      obtain ⟨N, hN⟩ : ∃ N, N = (catE ls ls.length).length := ⟨_, rfl⟩
      have HGR := Lib.hid (gr_ep N (by have := HN.out; omega) w)
      have HNN := Lib.hid hN
      rw [← hN]
      clear hN
      go_wp2_with (go_at_call 99; refine HGR.out.mono ?_; rintro e w1 ⟨v1, rfl, ho1, hb1⟩; have HO1 := Lib.hid ho1; have HB1 := Lib.hid hb1; clear ho1 hb1)
      go_loopw [6, 27] (fun nv i wr => ∃ k : Nat, k ≤ ls.length ∧ i = .int .i64 k ∧ Hid (wr.ownsRow w.heap.size 106 1 nv (catE ls k).length (en enc (catE ls k))) ∧ Hid (Below w.heap.size w wr)) (fun _ i _ => ls.length - (intOf i).toNat)
      case atStart => exact ⟨0, Nat.zero_le _, rfl, HO1, HB1⟩
      case round =>
        clear HO1 HB1
        obtain ⟨k, hk, rfl, HO, HB⟩ := hrel
        by_cases hlt : k < ls.length
        · have hc := (HB.out.cell (p := ⟨B, k, none⟩) (World.block_lt_of_cell? _ _ (HC.out k hlt))).trans (HC.out k hlt)
          have HCUT := Lib.hid ((HS.out _ (List.getElem_mem hlt)).later HB.out)
          have hle := catE_le (ls := ls) (k + 1) hlt (Nat.le_refl _)
          have HS2 := Lib.hid (catE_succ hlt)
          have HLE : Hid ((catE ls k).length + ls[k].2.length ≤ 100000) := by show _ ≤ _; rw [HS2.out, List.length_append] at hle; have := HN.out; omega
          clear hle
          go_wp2_with (refine wpList_append_cut rfl _ _ 32 rfl w.heap.size 106 i (.pointer none) 8 Tryd.underlying32 HI.out.1 HI.out.2.1 HI.out.2.2.1 HI.out.2.2.2 rfl (by decide) rfl HO.out rfl HCUT.out (en_one hone _) (by have := HLE.out; unfold maxLen; omega) (by have := HLE.out; omega) HB.out.size ?_; intro v2 w2 ho2 hg2; have HO2 := Lib.hid ho2; have HB2 := Lib.hid (HB.out.trans (below_of_grown hg2 HB.out.size (ownsRow_low HO.out))); clear ho2 hg2)
          go_roundw
          case rel => exact ⟨k + 1, by omega, by simp, by rw [HS2.out, List.length_append, en_app]; exact HO2, HB2⟩
          case measure => simp [intOf]; omega
        · obtain rfl : k = ls.length := by omega
          go_wp2_with fail
          go_ret
          exact ⟨_, rfl, by rw [HNN.out]; exact HO.out, HB.out⟩

/-- A pointer to a block, or nil. -/
def pv : Option Nat → Value
  | none => .pointer none
  | some b => .pointer (some ⟨b, 0, none⟩)
theorem pv_one (p : Option Nat) : (pv p).oneCell' = true := by cases p <;> rfl
/-- What a place has: a key's block, or a node's. -/
abbrev Pl := Option Nat × Option Nat
def plc (p : Pl) : Array Value := #[pv p.1, pv p.2]
def enPl (p : Pl) : List Value := [pv p.1, pv p.2]
theorem enPl_len (p : Pl) : (enPl p).length = 2 := rfl
theorem plc_size (p : Pl) : (plc p).size = 2 := rfl
theorem plc_list (p : Pl) : (plc p).toList = enPl p := rfl
theorem enPl_one (p : Pl) : ∀ u ∈ enPl p, u.oneCell' = true := by
  intro u hu
  simp only [enPl, List.mem_cons, List.not_mem_nil, or_false] at hu
  rcases hu with rfl | rfl
  · exact pv_one _
  · exact pv_one _
theorem plc_one (p : Pl) : (plc p).all (·.oneCell') = true := by
  rw [Array.all_eq_true_iff_forall_mem]
  intro u hu
  exact enPl_one p u (by rw [← plc_list]; simpa using hu)
/-- The cells of pointers to keys. -/
def enE (b : Nat) : List Value := [pv (some b)]
theorem enE_len (b : Nat) : (enE b).length = 1 := rfl
theorem enE_one (b : Nat) : ∀ u ∈ enE b, u.oneCell' = true := by
  intro u hu
  simp only [enE, List.mem_cons, List.not_mem_nil, or_false] at hu
  subst hu
  rfl

section
variable {P : Program}
/-- 'copy(dst[k:], src)', where the room for it is known. -/
theorem wpList_copy_o {w : World} {ops : Array Oper} {rest : List Oper} {o : Oper} {a : Act} {Q : Exit → Act → World → Prop} (hgd : o.guard = none) (d x : Operand) (dT sT : TypeId)
    (ho : o.op = .call { callee := .builtin .copy, args := #[d, x], argTypes := #[dT, sT] }) (elem : TypeId) (hu : P.underlying dT = some (.slice elem)) (s : Nat) (hsz : (P.info? elem).map (·.size) = some s)
    (g q dLen dCap : Nat) (hd : a.eval d = .slice (some ⟨g, q, none⟩) dLen dCap) (v : Value) (hv : a.eval x = v) {S : Nat → Prop} (cs : List Value) (n : Nat) (hF : CutAt S w s v cs n) (hle : n ≤ dLen)
    (T : TypeId) (cur : Array Value) (hg : w.heap[g]? = some (.cells cur T (0, 0))) (hfit : q + n * s ≤ cur.size) (h1 : ∀ u ∈ cs, u.oneCell' = true)
    (h : ∀ w', w'.heap[g]? = some (.cells (cur.toList.take q ++ cs ++ cur.toList.drop (q + cs.length)).toArray T (0, 0)) → Only g w w' → wpList P ops Q rest (a.put o.dst (goInt n)) w') : wpList P ops Q (o :: rest) a w := by
  refine wpList_plain hgd fun K hK => ?_
  have hlen := hF.len
  obtain ⟨ap, cap, rfl, h2, h3, h4⟩ := hF
  rcases h4 with ⟨rfl, rfl⟩ | ⟨g', q', rfl, _, _, hc⟩
  · obtain rfl : n = 0 := by omega
    obtain rfl : cs = [] := List.eq_nil_of_length_eq_zero (by simpa using h3)
    have hrun := run_copy_s0 (P := P) w dT sT o.type elem (some ⟨g, q, none⟩) none dLen dCap s 0 hu hsz
    unfold Oper.wp
    simp [execOp, ho, resolve, invoke, builtin, hd, hv, hrun, Result.andThen]
    exact hK _ _ (h w (by simpa using hg) (Only.refl _ _))
  · have hl := run_loadCells_list (P := P) w ⟨g', q', none⟩ cs (fun j u hu => by rw [add_at]; exact hc j u hu)
    have hst := run_storeCells_at P g q T cs 0 cur w hg (by simp; omega) h1
    have hmin : Nat.min n dLen = n := Nat.min_eq_left hle
    have hrun : (Builtin.copy_ #[dT, sT] o.type #[.slice (some ⟨g, q, none⟩) dLen dCap, .slice (some ⟨g', q', none⟩) n cap]).run P w =
        .ok (goInt n) (w.setRow g (cur.toList.take q ++ cs ++ cur.toList.drop (q + cs.length)).toArray) := by
      cases hq : P.info? elem with
      | none => simp [hq] at hsz
      | some i =>
        have hi : i.size = s := by simpa [hq] using hsz
        rw [hlen] at hl
        simp only [Nat.add_zero] at hst
        simp [Builtin.copy_, run_underlying hu, Builtin.lenOf, Builtin.firstCells, sizeOf, typeInfo, hq, hi, hmin, hl, hst]
    unfold Oper.wp
    simp [execOp, ho, resolve, invoke, builtin, hd, hv, hrun, Result.andThen]
    refine hK _ _ (h _ ?_ ?_)
    · simpa using setRow_heap w g _ (cur.toList.take q ++ cs ++ cur.toList.drop (q + cs.length)).toArray _ _ hg
    · simpa using only_setRow w g (cur.toList.take q ++ cs ++ cur.toList.drop (q + cs.length)).toArray
end

/-- The list being filled. -/
def midE {α : Type} (enc : α → List Value) (z : List Value) (xs : List α) (n : Nat) : List Value := en enc xs ++ (List.replicate (n - xs.length) z).flatten
theorem flat_rep (z : List Value) (n : Nat) : (List.replicate n z).flatten.length = n * z.length := by simp
theorem midE_len {α : Type} {enc : α → List Value} {z : List Value} {xs : List α} {n s : Nat} (henc : ∀ x, (enc x).length = s) (hz : z.length = s) (h : xs.length ≤ n) : (midE enc z xs n).length = n * s := by
  unfold midE
  rw [List.length_append, en_len henc, flat_rep, hz, ← Nat.add_mul]
  congr 1
  omega
theorem midE_add {α : Type} {enc : α → List Value} {z : List Value} {xs ys : List α} {n s : Nat} (henc : ∀ x, (enc x).length = s) (hz : z.length = s) (h : xs.length + ys.length ≤ n) :
    (midE enc z xs n).take (xs.length * s) ++ en enc ys ++ (midE enc z xs n).drop (xs.length * s + (en enc ys).length) = midE enc z (xs ++ ys) n := by
  have hl : (en enc xs).length = xs.length * s := en_len henc xs
  unfold midE
  rw [List.take_append_of_le_length (by omega), List.take_of_length_le (by omega), List.drop_append, List.drop_of_length_le (by omega), List.nil_append, hl, en_len henc, Nat.add_sub_cancel_left, en_app, List.append_assoc, List.append_assoc]
  congr 2
  rw [List.length_append]
  rw [show n - xs.length = ys.length + (n - (xs.length + ys.length)) by omega, ← List.replicate_append_replicate, List.flatten_append, List.drop_append, List.drop_of_length_le (by rw [flat_rep, hz]; exact Nat.le_refl _), List.nil_append, flat_rep, hz, Nat.sub_self, List.drop_zero]
theorem made_pl (n : Nat) : (madeCells #[.pointer none, .pointer none] (n * 2)).toList = midE enPl [.pointer none, .pointer none] [] n := by
  apply List.ext_getElem?
  intro j
  unfold midE
  rw [show en enPl [] = [] from rfl, List.nil_append, Array.getElem?_toList, List.length_nil, Nat.sub_zero]
  by_cases hj : j < n * 2
  · rw [made_at _ _ _ hj, show (List.replicate n [(.pointer none : Value), .pointer none]).flatten = List.replicate (n * 2) (.pointer none) from by
      clear hj
      induction n with
      | zero => rfl
      | succ n ih =>
        rw [List.replicate_succ, List.flatten_cons, ih, Nat.add_mul, Nat.one_mul, Nat.add_comm (n * 2) 2, ← List.replicate_append_replicate]
        rfl]
    rw [List.getElem?_replicate, if_pos hj]
    rcases Nat.mod_two_eq_zero_or_one j with h | h
    · simp [h]
    · simp [h]
  · rw [Array.getElem?_eq_none (by rw [size_madeCells]; omega), List.getElem?_eq_none (by rw [flat_rep]; simp; omega)]
theorem pl_elem (w : World) : (sizeOf (Tryd.prog.elem 29)).run Tryd.prog w = .ok 2 w := by
  have e : Tryd.prog.elem 29 = 117 := by kernel_rfl
  rw [e]
  obtain ⟨i, hi, _, h1, _⟩ := info_parts pl_info
  simp [sizeOf, typeInfo, hi, h1]
theorem pl_under : Tryd.prog.underlying 29 = some (.slice (Tryd.prog.elem 29)) := by kernel_rfl
/-- 'all[k:]' of a list of places at a block's head. -/
theorem pl_from (g k N : Nat) (hk : k ≤ N) : ∃ q, q ≤ k * 2 ∧ (k < N → q = k * 2) ∧ ∀ w, (Instr.slice 29 (.slice (some ⟨g, 0, none⟩) N N) (some (.int .i64 (k : Int))) none none).run Tryd.prog w = .ok (.slice (some ⟨g, q, none⟩) (N - k) (N - k)) w := by
  refine ⟨if N = k then 0 else k * 2, by split <;> omega, fun h => if_neg (by omega), fun w => ?_⟩
  rw [run_slice_l w _ (some ⟨g, 0, none⟩) N N pl_under _ _ (by omega) (by omega), pl_elem]
  simp only [Result.andThen_ok, Int.toNat_natCast]
  by_cases h : N = k
  · simp [h, sliced]
  · simp [h, sliced, add_at]
set_option maxHeartbeats 4000000 in
theorem pl_joined (w : World) {S : Nat → Prop} (B : Nat) (ls : List (Value × List Pl)) (hcells : ∀ k (hk : k < ls.length), w.cell? ⟨B, k, none⟩ = some ls[k].1) (hcut : ∀ p ∈ ls, CutAt S w 2 p.1 (en enPl p.2) p.2.length)
    (hn : (catE ls ls.length).length ≤ 4096) (hl : ls.length ≤ 100) :
    Calls Tryd.prog 100 #[.slice (some ⟨B, 0, none⟩) ls.length ls.length] w fun e w' => ∃ a n c, e = .returned (.slice a n c) ∧ HeadAt (fun g => w.heap.size ≤ g) w' 117 2 (.slice a n c) (en enPl (catE ls ls.length)) (catE ls ls.length).length ∧ Below w.heap.size w w' := by
  obtain ⟨i, hi, hz, h1, h2⟩ := info_parts pl_info
  have HS := Lib.hid hcut
  have HC := Lib.hid hcells
  clear hcut hcells
  go_enter Tryd.func100, Tryd.ntmps100
  go_wp2_with fail
  go_loopw [3, 12] (fun n i wr => ∃ k : Nat, k ≤ ls.length ∧ i = .int .i64 k ∧ n = .int .i64 ((catE ls k).length : Nat) ∧ w = wr) (fun _ i _ => ls.length - (intOf i).toNat)
  case atStart => exact ⟨0, Nat.zero_le _, rfl, rfl, rfl⟩
  case round =>
    obtain ⟨k, hk, rfl, rfl, rfl⟩ := hrel
    by_cases hlt : k < ls.length
    · have hc := HC.out k hlt
      obtain ⟨a, cap, ha, _⟩ := HS.out _ (List.getElem_mem hlt)
      have hle := catE_le (ls := ls) (k + 1) hlt (Nat.le_refl _)
      have hle' : ((catE ls (k + 1)).length : Int) ≤ 4096 := by omega
      have hs := catE_succ hlt
      have hsl : ((catE ls (k + 1)).length : Int) = (catE ls k).length + ls[k].2.length := by rw [hs, List.length_append]; omega
      rw [hsl] at hle'
      have HSL := Lib.hid hsl
      rw [ha] at hc
      clear hs hsl hle
      go_wp2_with fail
      go_roundw
      case rel => exact ⟨k + 1, by omega, by simp, by rw [HSL.out], trivial⟩
      case measure => simp [intOf]; omega
    · obtain rfl : k = ls.length := by omega
      by_cases h0 : (catE ls ls.length).length = 0
      · have h0' : ((catE ls ls.length).length : Int) = 0 := by omega
        go_wp2_with fail
        go_ret
        exact ⟨_, _, _, rfl, by rw [List.eq_nil_of_length_eq_zero h0]; exact ⟨rfl, .inl ⟨rfl, rfl⟩⟩, Below.refl _ _⟩
      · have h0' : (((catE ls ls.length).length : Int) == 0) = false := beq_eq_false_iff_ne.2 (by omega)
        obtain ⟨N, hN⟩ : ∃ N, N = (catE ls ls.length).length := ⟨_, rfl⟩
        have HN := Lib.hid hN
        have HM := Lib.hid hn
        have HP := Lib.hid h0
        rw [← hN] at h0'
        rw [← hN]
        have hN4 : (N : Int) ≤ 4096 := by omega
        clear hN hn h0
        go_wp2_with (refine wpList_make_s _ rfl _ _ 29 rfl 117 i (.agg #[.pointer none, .pointer none]) 2 Tryd.underlying29 hi hz h1 .i64 .i64 N rfl rfl (by rw [h2]; have := HM.out; have := HN.out; omega) (by have := HM.out; have := HN.out; omega) ?_)
        go_loopw [7, 27] (fun at_ i v => ∃ k : Nat, k ≤ ls.length ∧ i = .int .i64 k ∧ at_ = .int .i64 ((catE ls k).length : Nat) ∧ Hid (v.heap[w.heap.size]? = some (.cells (midE enPl [.pointer none, .pointer none] (catE ls k) N).toArray 117 (0, 0))) ∧ Below w.heap.size w v) (fun _ i _ => ls.length - (intOf i).toNat)
        case atStart =>
          refine ⟨0, Nat.zero_le _, rfl, rfl, ?_, Below.newly' _ _⟩
          show _ = _
          have e : (midE enPl [.pointer none, .pointer none] (catE ls 0) N).toArray = madeCells #[.pointer none, .pointer none] (N * 2) := by
            rw [show catE ls 0 = [] from by simp [catE], ← made_pl]
          rw [e]
          exact heap_alloc_last _ _
        case round =>
          obtain ⟨k, hk, rfl, rfl, hg, hb⟩ := hrel
          have HB := Lib.hid hb
          clear hb
          by_cases hlt : k < ls.length
          · have hc := (HB.out.cell (p := ⟨B, k, none⟩) (World.block_lt_of_cell? _ _ (HC.out k hlt))).trans (HC.out k hlt)
            have HCUT := Lib.hid ((HS.out _ (List.getElem_mem hlt)).later HB.out)
            obtain ⟨a, cap, ha, _⟩ := HCUT.out.shape
            have hle := catE_le (ls := ls) (k + 1) hlt (Nat.le_refl _)
            rw [← HN.out] at hle
            have hs := catE_succ hlt
            have hsl : (catE ls (k + 1)).length = (catE ls k).length + ls[k].2.length := by rw [hs, List.length_append]
            rw [hsl] at hle
            have HSL := Lib.hid hsl
            have HLE := Lib.hid hle
            have HCS := Lib.hid hs
            have hle' : ((catE ls k).length : Int) + ls[k].2.length ≤ N := by omega
            rw [ha] at hc HCUT
            clear hs hsl hle ha
            obtain ⟨q, hq1, hq2, hrun⟩ := pl_from w.heap.size (catE ls k).length N (by omega)
            have HQ1 := Lib.hid hq1
            have HQ2 := Lib.hid hq2
            have HMID := Lib.hid (midE_len (z := [.pointer none, .pointer none]) (xs := catE ls k) (n := N) enPl_len rfl (by omega))
            clear hq1 hq2
            go_wp2_with (refine wpList_copy_o rfl _ _ 29 29 rfl 117 Tryd.underlying29 2 pl_size w.heap.size q (N - (catE ls k).length) (N - (catE ls k).length) rfl _ rfl (en enPl ls[k].2) ls[k].2.length HCUT.out (by have := HLE.out; omega) 117 _ hg.out (by have := HLE.out; have := HQ1.out; have := HMID.out; simp; omega) (en_one enPl_one _) ?_; intro w2 h2 k2; have HG2 := Lib.hid h2; have HK2 := Lib.hid k2; clear h2 k2)
            go_roundw
            case rel =>
              refine ⟨k + 1, by omega, by simp, by rw [HSL.out]; simp, ?_, HB.out.trans (HK2.out.below (Nat.le_refl _))⟩
              show _ = _
              rw [HG2.out, HCS.out, ← midE_add (s := 2) enPl_len rfl HLE.out]
              simp only [List.toList_toArray]
              by_cases hkn : (catE ls k).length < N
              · rw [HQ2.out hkn]
              · have hz : ls[k].2 = [] := List.eq_nil_of_length_eq_zero (by have := HLE.out; omega)
                rw [hz, show en enPl [] = [] from rfl]
                simp
            case measure => simp [intOf]; omega
          · obtain rfl : k = ls.length := by omega
            go_wp2_with fail
            go_ret
            have hN := HN.out
            have hm : midE enPl [.pointer none, .pointer none] (catE ls ls.length) N = en enPl (catE ls ls.length) := by unfold midE; rw [← hN, Nat.sub_self]; simp
            refine ⟨_, _, _, rfl, ⟨en_len enPl_len _, .inr ⟨by have := HP.out; omega, w.heap.size, N, _, (0, 0), by rw [← hN], by omega, Nat.le_refl _, hg.out, fun j u hu => ?_⟩⟩, HB.out⟩
            rw [hm]
            simpa using hu
end Go.Proofs.YtnnlfgfgfegjkaaDoor

/- Package sparse at places: around, Len, Get. -/
namespace Go.Proofs.YtnnlfgfgfegjkaaDoor
open Go.RowKit
set_option maxRecDepth 1000000
set_option linter.unusedSimpArgs false

set_option maxHeartbeats 2000000 in
theorem pr_around (b : Nat) (hb : b < 4294967296) (v : Value) (j : Nat) (hj : j < 32) (w : World) :
    Calls Tryd.prog 95 #[.agg #[.int .u32 (b : Int), v], .int .i64 (j : Int)] w fun e w' => e = .returned (.tuple #[.int .i64 (rkN b j : Nat), .int .i64 (rkN b (j + 1) : Nat)]) ∧ Below w.heap.size w w' := by
  have hB := sp_bit_on j hj
  obtain ⟨p, hp⟩ : ∃ p, p = 2 ^ j := ⟨_, rfl⟩
  rw [← hp] at hB
  have hp1 : 0 < p := by rw [hp]; exact Nat.two_pow_pos j
  have hp2 : p < 4294967296 := by rw [hp]; exact Nat.pow_lt_pow_right (show 1 < 2 by decide) hj
  obtain ⟨m, hm⟩ : ∃ m, m = p - 1 := ⟨_, rfl⟩
  have e1 : (p : Int) - 1 = (m : Int) := by omega
  obtain ⟨q, hq⟩ : ∃ q, q = m ||| p := ⟨_, rfl⟩
  have hm32 : m < 2 ^ 32 := by
    show m < 4294967296
    omega
  have hp32 : p < 2 ^ 32 := hp2
  have e2 : bits .or .u32 (m : Int) (p : Int) = (q : Int) := by rw [hq]; exact (bits_nat .u32 32 (by decide) (fun n a c => by rw [IntKind.wrap_u32]; simp only [Int.reducePow] at c; omega) m p hm32 hp32).2
  obtain ⟨x1, hx1⟩ : ∃ x, x = b &&& m := ⟨_, rfl⟩
  obtain ⟨x2, hx2⟩ : ∃ x, x = b &&& q := ⟨_, rfl⟩
  have e3 : bits .and .u32 (b : Int) (m : Int) = (x1 : Int) := by rw [hx1]; exact and_32 b m hb
  have e4 : bits .and .u32 (b : Int) (q : Int) = (x2 : Int) := by rw [hx2]; exact and_32 b q hb
  have l1 : x1 < 4294967296 := by rw [hx1]; exact Nat.lt_of_le_of_lt Nat.and_le_left hb
  have l2 : x2 < 4294967296 := by rw [hx2]; exact Nat.lt_of_le_of_lt Nat.and_le_left hb
  have hq2 : q = 2 ^ (j + 1) - 1 := by
    have := Nat.two_pow_add_eq_or_of_lt (i := j) (b := m) (by omega) 1
    rw [Nat.mul_one, ← hp, Nat.or_comm, ← hq] at this
    rw [← this, Nat.pow_succ, ← hp]
    omega
  have r1 : rkN x1 32 = rkN b j := by rw [hx1, hm, hp]; exact rk_low b j (by omega)
  have r2 : rkN x2 32 = rkN b (j + 1) := by rw [hx2, hq2]; exact rk_low b (j + 1) (by omega)
  have c1 := sp_count x1 l1
  have c2 := sp_count x2 l2
  rw [r1] at c1
  rw [r2] at c2
  have C1 := Lib.hid c1
  have C2 := Lib.hid c2
  have HB := Lib.hid hB
  clear c1 c2 hB hq2 hp hm hq hx1 hx2 r1 r2 hm32 hp32
  go_enter Tryd.func95, Tryd.ntmps95
  go_upto_region 2 with (go_at_call 94; refine (HB.out _).mono ?_; rintro e w1 ⟨rfl, rfl⟩)
  go_quiet (first | (go_at_call 94; exact Calls.quiet_of_same (HB.out _)) | (go_at_call_of 107 (Value.int IntKind.u32 (x1 : Int)); exact Calls.quiet_of (C1.out _)) | (go_at_call_of 107 (Value.int IntKind.u32 (x2 : Int)); exact Calls.quiet_of (C2.out _)))
  go_wp2
  go_ret2
  exact ⟨rfl, Below.drewMany (Below.newly' _ _) _⟩

/-- These two cells are a row of places, whose list lies in a block of the kind S. -/
def AtR (S : Nat → Prop) (W : World) (R : Rg Pl) (c : Array Value) : Prop := ∃ v, c = #[.int .u32 (bitsG R 32 : Nat), v] ∧ HeadAt S W 117 2 v (en enPl (lisG R)) (cntG R 32)
theorem AtR.later {S : Nat → Prop} {W W' : World} {R : Rg Pl} {c : Array Value} (h : AtR S W R c) (hb : Below W.heap.size W W') : AtR S W' R c := by
  obtain ⟨v, h1, h2⟩ := h
  exact ⟨v, h1, h2.later hb⟩
theorem bits_noG : ∀ k, bitsG (noG : Rg Pl) k = 0
  | 0 => rfl
  | k + 1 => by unfold bitsG; rw [bits_noG k]; rfl
theorem cnt_noG : ∀ k, cntG (noG : Rg Pl) k = 0
  | 0 => rfl
  | k + 1 => by unfold cntG; rw [cnt_noG k]; rfl
theorem lis_noG : lisG (noG : Rg Pl) = [] := List.eq_nil_of_length_eq_zero (by rw [lisG_len, cnt_noG])
theorem AtR.zero (S : Nat → Prop) (W : World) : AtR S W noG #[.int .u32 0, .slice none 0 0] :=
  ⟨_, by rw [bits_noG]; rfl, by rw [lis_noG, cnt_noG]; exact ⟨rfl, .inl ⟨rfl, rfl⟩⟩⟩
theorem AtR.shape {S : Nat → Prop} {W : World} {R : Rg Pl} {c : Array Value} (h : AtR S W R c) : ∃ a n, c = #[.int .u32 (bitsG R 32 : Nat), .slice a (cntG R 32) n] := by
  obtain ⟨v, rfl, h2⟩ := h
  obtain ⟨a, n, rfl, _⟩ := h2.shape
  exact ⟨a, n, rfl⟩
theorem and_bit_onG (R : Rg Pl) {j : Nat} (hj : j < 32) (h : (R j).isSome = true) : bits .and .u32 (bitsG R 32 : Nat) ((2 ^ j : Nat) : Int) = ((2 ^ j : Nat) : Int) :=
  word_of .and _ _ _ (Nat.pow_lt_pow_right (show 1 < 2 by decide) hj) fun k hk => by
    simp only [BitVec.getLsbD_and, nat_bit hk, bits_testG, Nat.testBit_two_pow, hk, decide_true, Bool.true_and]
    by_cases e : j = k
    · subst e; simp [h]
    · simp [e]
theorem and_bit_offG (R : Rg Pl) {j : Nat} (h : (R j).isSome = false) : bits .and .u32 (bitsG R 32 : Nat) ((2 ^ j : Nat) : Int) = ((0 : Nat) : Int) :=
  word_of .and _ _ _ (by decide) fun k hk => by
    simp only [BitVec.getLsbD_and, nat_bit hk, bits_testG, Nat.testBit_two_pow, hk, decide_true, Bool.true_and]
    by_cases e : j = k
    · subst e; simp [h]
    · simp [e]
/-- One of a list of places is read. -/
theorem pl_range {S : Nat → Prop} {W : World} {v : Value} {xs : List Pl} {n : Nat} (h : HeadAt S W 117 2 v (en enPl xs) n) {j : Nat} {x : Pl} (hx : xs[j]? = some x) :
    ∃ g c, v = .slice (some ⟨g, 0, none⟩) n c ∧ n ≤ c ∧ S g ∧ g < W.heap.size ∧ j < n ∧ W.rangeAt g (j * 2) (enPl x) := by
  have hl := h.1
  rw [en_len enPl_len] at hl
  have hj := (List.getElem?_eq_some_iff.1 hx).1
  obtain ⟨g, c, cur, fr, h1, h2, h3, h4, h5⟩ := h.pos (by omega)
  refine ⟨g, c, h1, h2, h3, (Array.getElem?_eq_some_iff.1 h4).1, by omega, fun k u hu => ?_⟩
  have hk : k < 2 := (List.getElem?_eq_some_iff.1 hu).1
  exact cell_in h4 (h5 (j * 2 + k) u (by rw [en_at enPl_len xs j k x hx hk]; exact hu))
set_option maxHeartbeats 1000000 in
theorem pr_Len {S : Nat → Prop} (W : World) (R : Rg Pl) (c : Array Value) (h : AtR S W R c) : Calls Tryd.prog 106 #[.agg c] W fun e W' => e = .returned (.int .i64 (cntG R 32 : Nat)) ∧ Below W.heap.size W W' := by
  obtain ⟨a, n, rfl⟩ := h.shape
  clear h
  go_enter Tryd.func106, Tryd.ntmps106
  go_wp2_with fail
  go_ret
  exact ⟨rfl, Below.newly' _ _⟩
theorem two_newG {w w' : World} {p q : Array Value} {T U : TypeId} (e : (w.alloc (.cells p T)).alloc (.cells q U) = w') : Below w.heap.size w w' ∧ w'.heap[w.heap.size]? = some (.cells p T (0, 0)) ∧ w'.heap[w.heap.size + 1]? = some (.cells q U (0, 0)) ∧ w'.heap.size = w.heap.size + 2 := by
  subst e
  refine ⟨Below.more (Below.newly' _ _) _, ((Below.newly' _ _).block _ (by simp)).trans (heap_alloc_last _ _), ?_, by simp⟩
  have h := heap_alloc_last (w.alloc (.cells p T)) (.cells q U)
  simpa using h
set_option maxHeartbeats 2000000 in
theorem pr_Get {S : Nat → Prop} (W : World) (R : Rg Pl) (c : Array Value) (j : Nat) (hj : j < 32) (h : AtR S W R c) : Calls Tryd.prog 79 #[.agg c, .int .i64 (j : Int)] W fun e W' => e = .returned (.tuple #[.agg (plc ((R j).getD (none, none))), .bool (R j).isSome]) ∧ Below W.heap.size W W' := by
  have HB := Lib.hid (sp_bit_on j hj)
  obtain ⟨v, rfl, h2⟩ := h
  obtain ⟨p, hp⟩ : ∃ p, p = 2 ^ j := ⟨_, rfl⟩
  obtain ⟨w1, hw1⟩ : ∃ w1, (W.alloc (.cells #[.int .u32 (bitsG R 32 : Nat), v] 31)).alloc (.cells #[.pointer none, .pointer none] 117) = w1 := ⟨_, rfl⟩
  obtain ⟨hb1, hx1, hy1, hs1⟩ := two_newG hw1
  have ca0 : w1.cell? ⟨W.heap.size, 0, none⟩ = some (.int .u32 (bitsG R 32 : Nat)) := cell_in hx1 rfl
  have HX1 := Lib.hid hx1
  have HY1 := Lib.hid hy1
  have HB1 := Lib.hid hb1
  have HS1 := Lib.hid hs1
  have hu := Tryd.underlying31
  cases hr : R j with
  | none =>
    have hz := and_bit_offG R (j := j) (by rw [hr]; rfl)
    rw [← hp] at HB hz
    obtain ⟨a, n, rfl, _⟩ := h2.shape
    clear h2 hp hx1 hy1 hb1 hs1
    go_enter Tryd.func79, Tryd.ntmps79
    go_upto_region 1 with fail
    clear hw1
    go_quiet (first | (go_at_call 94; exact Calls.quiet_of_same (HB.out _)))
    obtain ⟨w2, hw2⟩ : ∃ w2, w2 = w1.drewN nq := ⟨_, rfl⟩
    have HX2 : Hid (w2.heap[W.heap.size + 1]? = some (.cells #[.pointer none, .pointer none] 117 (0, 0))) := by show _ = _; rw [hw2]; exact HY1.out
    have HB2 : Hid (Below W.heap.size W w2) := by show Below _ _ _; rw [hw2]; exact Below.drewMany HB1.out _
    have HS2 : Hid (w2.heap.size = W.heap.size + 2) := by show _ = _; rw [hw2]; exact HS1.out
    rw [← hw2]
    clear hw2
    go_wp2_with (first
      | (refine ld_if (by rfl) 117 _ rfl w2.heap.size rfl 117 _ _ _ (heap_alloc_last w2 _) Tryd.underlying117 rfl pl_size ?_)
      | (refine st_agg rfl 117 _ _ rfl (W.heap.size + 1) #[.pointer none, .pointer none] rfl rfl 117 #[.pointer none, .pointer none] (((Below.newly' w2 _).block _ (by have := HS2.out; omega)).trans HX2.out) pl_size rfl (plc_one (none, none)) ?_; intro w3 h3 k3))
    exact bodyPost_ret (results_cell_row1 rfl _ _ (W.heap.size + 1) 117 _ (0, 0) _ rfl h3 Tryd.underlying117 rfl pl_size) rfl ⟨rfl, (HB2.out.trans ((Below.newly' w2 _).mono HB2.out.size)).trans (k3.below (by omega))⟩
  | some x =>
    have hz := and_bit_onG R hj (by rw [hr]; rfl)
    rw [← hp] at HB hz
    have hpn : ((p : Int) == 0) = false := beq_eq_false_iff_ne.2 (by have : 0 < p := by rw [hp]; exact Nat.two_pow_pos j
                                                                     omega)
    have HA := Lib.hid (fun w => pr_around (bitsG R 32) (lt_32G R) v j hj w)
    rw [rk_cntG R j (by omega), rk_cntG R (j + 1) (by omega)] at HA
    obtain ⟨g, cp, rfl, hcp, hS, hg, hlt, hrg⟩ := pl_range h2 (lis_atG R hj hr)
    have HRG := Lib.hid hrg
    have HG := Lib.hid hg
    have hlt' : ((cntG R j : Nat) : Int) < (cntG R 32 : Nat) := by omega
    have ca1 : w1.cell? ⟨W.heap.size, 1, none⟩ = some (.slice (some ⟨g, 0, none⟩) (cntG R 32) cp) := cell_in hx1 rfl
    clear h2 hp hx1 hy1 hb1 hs1 hrg hg hcp hS
    go_enter Tryd.func79, Tryd.ntmps79
    go_upto_region 1 with fail
    clear hw1
    go_quiet (first | (go_at_call 94; exact Calls.quiet_of_same (HB.out _)))
    obtain ⟨w2, hw2⟩ : ∃ w2, w2 = w1.drewN nq := ⟨_, rfl⟩
    have HX2 : Hid (w2.heap[W.heap.size]? = some (.cells #[.int .u32 (bitsG R 32 : Nat), .slice (some ⟨g, 0, none⟩) (cntG R 32) cp] 31 (0, 0))) := by show _ = _; rw [hw2]; exact HX1.out
    have HY2 : Hid (w2.heap[W.heap.size + 1]? = some (.cells #[.pointer none, .pointer none] 117 (0, 0))) := by show _ = _; rw [hw2]; exact HY1.out
    have HB2 : Hid (Below W.heap.size W w2) := by show Below _ _ _; rw [hw2]; exact Below.drewMany HB1.out _
    have HS2 : Hid (w2.heap.size = W.heap.size + 2) := by show _ = _; rw [hw2]; exact HS1.out
    rw [← hw2]
    clear hw2 ca0 ca1
    go_wp2_with (first
      | (refine ld_if (by rfl) 31 _ rfl W.heap.size rfl 31 _ _ _ HX2.out Tryd.underlying31 rfl row_size ?_)
      | (go_at_call 95; refine (HA.out _).mono ?_; rintro e w3 ⟨rfl, hb⟩; have hx3 := (hb.block _ (by have := HS2.out; omega)).trans HX2.out; have ca3 : w3.cell? ⟨W.heap.size, 1, none⟩ = some (.slice (some ⟨g, 0, none⟩) (cntG R 32) cp) := cell_in hx3 rfl; have HY3 := Lib.hid ((hb.block _ (by have := HS2.out; omega)).trans HY2.out); have HB3 := Lib.hid (HB2.out.trans (hb.mono HB2.out.size)); clear hb hx3)
      | (refine wpList_load_mid rfl 117 _ rfl g (cntG R j * 2) rfl (enPl x) _ (rangeAt_later HRG.out HB3.out) Tryd.underlying117 rfl pl_size ?_)
      | (refine st_agg rfl 117 _ _ rfl (W.heap.size + 1) (plc x) rfl rfl 117 _ HY3.out pl_size rfl (plc_one x) ?_; intro w4 h4 k4))
    exact bodyPost_ret (results_cell_row1 rfl _ _ (W.heap.size + 1) 117 _ (0, 0) _ rfl h4 Tryd.underlying117 rfl pl_size) rfl ⟨rfl, HB3.out.trans (k4.below (by omega))⟩
end Go.Proofs.YtnnlfgfgfegjkaaDoor

/- Package sparse at places: Set, Cut. (written by tools/gen09/row2.py) -/
namespace Go.Proofs.YtnnlfgfgfegjkaaDoor
open Go.RowKit
set_option maxRecDepth 1000000
set_option linter.unusedSimpArgs false

theorem HeadAt.all {S : Nat → Prop} {W : World} {T : TypeId} {s n : Nat} {v : Value} {cs : List Value} (h : HeadAt S W T s v cs n) : HeadAt (fun _ => True) W T s v cs n := h.weak fun _ _ => trivial
theorem three_newG {w w' : World} {p q r : Array Value} {T U V : TypeId} (e : ((w.alloc (.cells p T)).alloc (.cells q U)).alloc (.cells r V) = w') :
    Below w.heap.size w w' ∧ w'.heap[w.heap.size]? = some (.cells p T (0, 0)) ∧ w'.heap[w.heap.size + 1]? = some (.cells q U (0, 0)) ∧ w'.heap[w.heap.size + 2]? = some (.cells r V (0, 0)) ∧ w'.heap.size = w.heap.size + 3 := by
  obtain ⟨w1, hw1⟩ : ∃ w1, (w.alloc (.cells p T)).alloc (.cells q U) = w1 := ⟨_, rfl⟩
  obtain ⟨h1, h2, h3, h4⟩ := two_newG hw1
  rw [hw1] at e
  subst e
  have h := heap_alloc_last w1 (.cells r V)
  rw [h4] at h
  exact ⟨Below.more h1 _, ((Below.newly' _ _).block _ (by omega)).trans h2, ((Below.newly' _ _).block _ (by omega)).trans h3, h, by simp; omega⟩
/-- 'list[:lo]' and 'list[hi:]' of places. -/
theorem pl_cuts {S : Nat → Prop} {W : World} {v : Value} {xs : List Pl} {n : Nat} (h : HeadAt S W 117 2 v (en enPl xs) n) (lo hi : Nat) (hlo : lo ≤ n) (hhi : hi ≤ n) :
    ∃ a1 c1 a3 c3, CutAt S W 2 (.slice a1 lo c1) (en enPl (xs.take lo)) lo ∧ CutAt S W 2 (.slice a3 (n - hi) c3) (en enPl (xs.drop hi)) (n - hi) ∧
    (∀ w, (Instr.slice 29 v none (some (.int .i64 (lo : Int))) none).run Tryd.prog w = .ok (.slice a1 lo c1) w) ∧ (∀ w, (Instr.slice 29 v (some (.int .i64 (hi : Int))) none none).run Tryd.prog w = .ok (.slice a3 (n - hi) c3) w) := by
  obtain ⟨a1, c1, h1, h2⟩ := cut_h (P := Tryd.prog) 29 pl_under pl_elem h.cut hlo
  obtain ⟨a3, c3, h3, h4⟩ := cut_l (P := Tryd.prog) 29 pl_under pl_elem h.cut hhi
  rw [en_take enPl_len] at h1
  rw [en_drop enPl_len] at h3
  exact ⟨a1, c1, a3, c3, h1, h3, h2, h4⟩
theorem pl_lit {W : World} {g : Nat} {x : Pl} (h : W.heap[g]? = some (.cells (plc x) 117 (0, 0))) : CutAt (fun _ => True) W 2 (.slice (some ⟨g, 0, none⟩) 1 1) (en enPl [x]) 1 :=
  ⟨_, 1, rfl, Nat.le_refl _, rfl, .inr ⟨g, 0, rfl, trivial, (Array.getElem?_eq_some_iff.1 h).1, fun j u hu => by
    rw [Nat.zero_add]
    refine cell_in h ?_
    simpa [en, enPl, plc] using hu⟩⟩
set_option maxHeartbeats 4000000 in
theorem pr_Set {S : Nat → Prop} (W : World) (R : Rg Pl) (c : Array Value) (j : Nat) (hj : j < 32) (x : Pl) (h : AtR S W R c) :
    Calls Tryd.prog 84 #[.agg c, .int .i64 (j : Int), .agg (plc x)] W fun e W' => ∃ c', e = .returned (.agg c') ∧ AtR (fun g => W.heap.size ≤ g) W' (setG R j x) c' ∧ Below W.heap.size W W' := by
  have HB := Lib.hid (sp_bit_on j hj)
  obtain ⟨v, rfl, h2⟩ := h
  have hz := set_bitsG R x j
  have hm := and_bit_onG R hj
  obtain ⟨b', hb'⟩ : ∃ b', b' = bitsG (setG R j x) 32 := ⟨_, rfl⟩
  rw [← hb'] at hz
  obtain ⟨p, hp⟩ : ∃ p, p = 2 ^ j := ⟨_, rfl⟩
  rw [← hp] at HB hz hm
  have hpn : ((p : Int) == 0) = false := beq_eq_false_iff_ne.2 (by have : 0 < p := by rw [hp]; exact Nat.two_pow_pos j
                                                                   omega)
  have HA := Lib.hid (fun w => pr_around (bitsG R 32) (lt_32G R) v j hj w)
  rw [rk_cntG R j (by omega), rk_cntG R (j + 1) (by omega)] at HA
  have HS := Lib.hid (lis_setG R x hj)
  have hc1 := cnt_monoG R (show j ≤ j + 1 by omega)
  have hc2 := cnt_monoG R (show j + 1 ≤ 32 by omega)
  have HC3 := Lib.hid (cnt_leG R 32)
  have HLL := Lib.hid (lisG_len R)
  obtain ⟨a1, c1, a3, c3, hs1, hs3, hr1, hr3⟩ := pl_cuts h2 (cntG R j) (cntG R (j + 1)) (by omega) hc2
  have HS1 := Lib.hid hs1
  have HS3 := Lib.hid hs3
  have HJ := Lib.hid (And.intro hc1 hc2)
  have HP := Lib.hid hp
  have HB' := Lib.hid hb'
  obtain ⟨w1, hw1⟩ : ∃ w1, ((W.alloc (.cells #[.int .u32 (bitsG R 32 : Nat), v] 31)).alloc (.cells (plc x) 117)).alloc (.cells #[.int .u32 0, .slice none 0 0] 31) = w1 := ⟨_, rfl⟩
  obtain ⟨hb1, hx1, hy1, hz1', hs1'⟩ := three_newG hw1
  have HX1 := Lib.hid hx1
  have HZ1 := Lib.hid hz1'
  have HB1 := Lib.hid hb1
  have HSZ := Lib.hid hs1'
  have HY1 := Lib.hid hy1
  have ca0 : w1.cell? ⟨W.heap.size, 0, none⟩ = some (.int .u32 (bitsG R 32 : Nat)) := cell_in hx1 rfl
  clear h2 hs1 hs3 hc1 hc2 hp hb' hb1 hx1 hz1' hs1' hm hy1
  go_enter Tryd.func84, Tryd.ntmps84
  go_upto_region 1 with fail
  clear hw1
  obtain ⟨w2, hw2⟩ : ∃ w2, w2 = w1 := ⟨_, rfl⟩
  have HX2 : Hid (w2.heap[W.heap.size]? = some (.cells #[.int .u32 (bitsG R 32 : Nat), v] 31 (0, 0))) := by show _ = _; rw [hw2]; exact HX1.out
  have HY2 : Hid (w2.heap[W.heap.size + 1]? = some (.cells (plc x) 117 (0, 0))) := by show _ = _; rw [hw2]; exact HY1.out
  have HZ2 : Hid (w2.heap[W.heap.size + 2]? = some (.cells #[.int .u32 0, .slice none 0 0] 31 (0, 0))) := by show _ = _; rw [hw2]; exact HZ1.out
  have HB2 : Hid (Below W.heap.size W w2) := by show Below _ _ _; rw [hw2]; exact HB1.out
  have HS2 : Hid (W.heap.size + 3 ≤ w2.heap.size) := by show _ ≤ _; rw [hw2]; exact Nat.le_of_eq HSZ.out.symm
  rw [← hw2]
  clear hw2 ca0
  go_upto_region 4 with (first
    | (go_at_call 94; refine (HB.out _).mono ?_; rintro e w1' ⟨rfl, hw⟩; obtain rfl := hw.symm)
    | (refine ld_if (by rfl) 31 _ rfl W.heap.size rfl 31 _ _ _ HX2.out Tryd.underlying31 rfl row_size ?_)
    | (go_at_call 95; refine (HA.out _).mono ?_; rintro e w3 ⟨rfl, hb⟩; have HB3 := Lib.hid hb; clear hb))
  have HKS : Hid (∀ V, Below w2.heap.size w2 V → (V.cell? ⟨W.heap.size, 0, none⟩ = some (.int .u32 (bitsG R 32 : Nat)) ∧ V.cell? ⟨W.heap.size, 1, none⟩ = some v ∧ V.heap[W.heap.size + 1]? = some (.cells (plc x) 117 (0, 0)))) := fun V hV => by
    have hx := (hV.block _ (by have := HS2.out; omega)).trans HX2.out
    exact ⟨cell_in hx rfl, cell_in hx rfl, (hV.block _ (by have := HS2.out; omega)).trans HY2.out⟩
  have HW : Hid (Below w2.heap.size w2 w3.drew) := HB3.out.trans ((drawn_below w3).mono HB3.out.size)
  clear HB3
  refine wp_region_T (S := (fun V => V.cell? ⟨W.heap.size, 0, none⟩ = some (.int .u32 (bitsG R 32 : Nat)) ∧ V.cell? ⟨W.heap.size, 1, none⟩ = some v ∧ V.heap[W.heap.size + 1]? = some (.cells (plc x) 117 (0, 0)))) [18] (by kernel_rfl) (by exact HKS.out _ HW.out) (fun hHeld => ?_)
  refine wpAnyT_take (i := 0) (oi := ⟨some 19, _, _, _, _, _⟩) (v := ?vg1_0) rfl (by kernel_rfl) (by kernel_rfl) (by kernel_rfl) (by kernel_rfl) (fun _ _ _ h => h) (Or.inl ⟨by rfl, ?hg1_0⟩) (by assumption) ?rg1_0
  case hg1_0 => (intro w hSw; (try dsimp only at hSw); first | (go_simp; done) | (go_simp; with_reducible rfl))
  (try simp only [Act.put, List.setIfInBounds_toArray, List.set_cons_zero, List.set_cons_succ])
  refine wpAnyT_take (i := 1) (oi := ⟨some 20, _, _, _, _, _⟩) (v := ?vg1_1) rfl (by kernel_rfl) (by kernel_rfl) (by kernel_rfl) (by kernel_rfl) (fun _ _ _ h => h) (Or.inl ⟨by rfl, ?hg1_1⟩) (by assumption) ?rg1_1
  case hg1_1 => (intro w hSw; (try dsimp only at hSw); first | (go_simp; done) | (go_simp; with_reducible rfl))
  (try simp only [Act.put, List.setIfInBounds_toArray, List.set_cons_zero, List.set_cons_succ])
  refine wpAnyT_take (i := 2) (oi := ⟨some 21, _, _, _, _, _⟩) (v := ?vg1_2) rfl (by kernel_rfl) (by kernel_rfl) (by kernel_rfl) (by kernel_rfl) (fun _ _ _ h => h) (Or.inl ⟨by rfl, ?hg1_2⟩) (by assumption) ?rg1_2
  case hg1_2 => (intro w hSw; (try dsimp only at hSw); first | (go_simp; done) | (go_simp; with_reducible rfl))
  (try simp only [Act.put, List.setIfInBounds_toArray, List.set_cons_zero, List.set_cons_succ])
  refine wpAnyT_takeC (i := 3) (oi := ⟨some 22, _, _, _, _, _⟩) (v := .int .u32 (p : Int)) rfl (by kernel_rfl) (by kernel_rfl) (by kernel_rfl) (by kernel_rfl) (fun _ _ _ h => h) ⟨by rfl, fun w hSw => ⟨94, #[.int .i64 (j : Int)], ?hg1_3, HB.out w⟩⟩ (by assumption) ?rg1_3
  case hg1_3 => go_simp
  (try simp only [Act.put, List.setIfInBounds_toArray, List.set_cons_zero, List.set_cons_succ])
  refine wpAnyT_take (i := 4) (oi := ⟨some 23, _, _, _, _, _⟩) (v := ?vg1_4) rfl (by kernel_rfl) (by kernel_rfl) (by kernel_rfl) (by kernel_rfl) (fun _ _ _ h => h) (Or.inl ⟨by rfl, ?hg1_4⟩) (by assumption) ?rg1_4
  case hg1_4 => (intro w hSw; (try dsimp only at hSw); first | (go_simp; done) | (go_simp; with_reducible rfl))
  (try simp only [Act.put, List.setIfInBounds_toArray, List.set_cons_zero, List.set_cons_succ])
  refine wpAnyT_take (i := 5) (oi := ⟨some 24, _, _, _, _, _⟩) (v := ?vg1_5) rfl (by kernel_rfl) (by kernel_rfl) (by kernel_rfl) (by kernel_rfl) (fun _ _ _ h => h) (Or.inl ⟨by rfl, ?hg1_5⟩) (by assumption) ?rg1_5
  case hg1_5 => (intro w hSw; (try dsimp only at hSw); first | (go_simp; done) | (go_simp; with_reducible rfl))
  (try simp only [Act.put, List.setIfInBounds_toArray, List.set_cons_zero, List.set_cons_succ])
  refine wpAnyT_take (i := 6) (oi := ⟨some 25, _, _, _, _, _⟩) (v := ?vg1_6) rfl (by kernel_rfl) (by kernel_rfl) (by kernel_rfl) (by kernel_rfl) (fun _ _ _ h => h) (Or.inl ⟨by rfl, ?hg1_6⟩) (by assumption) ?rg1_6
  case hg1_6 => (intro w hSw; (try dsimp only at hSw); first | (go_simp; done) | (go_simp; with_reducible rfl))
  (try simp only [Act.put, List.setIfInBounds_toArray, List.set_cons_zero, List.set_cons_succ])
  refine wpAnyT_take (i := 7) (oi := ⟨some 26, _, _, _, _, _⟩) (v := ?vg1_7) rfl (by kernel_rfl) (by kernel_rfl) (by kernel_rfl) (by kernel_rfl) (fun _ _ _ h => h) (Or.inl ⟨by rfl, ?hg1_7⟩) (by assumption) ?rg1_7
  case hg1_7 => (intro w hSw; (try dsimp only at hSw); first | (go_simp; done) | (go_simp; with_reducible rfl))
  (try simp only [Act.put, List.setIfInBounds_toArray, List.set_cons_zero, List.set_cons_succ])
  refine wpAnyT_take (i := 8) (oi := ⟨some 27, _, _, _, _, _⟩) (v := ?vg1_8) rfl (by kernel_rfl) (by kernel_rfl) (by kernel_rfl) (by kernel_rfl) (fun _ _ _ h => h) (Or.inl ⟨by rfl, ?hg1_8⟩) (by assumption) ?rg1_8
  case hg1_8 => (intro w hSw; (try dsimp only at hSw); first | (go_simp; done) | (go_simp; with_reducible rfl))
  (try simp only [Act.put, List.setIfInBounds_toArray, List.set_cons_zero, List.set_cons_succ])
  refine wpAnyT_take (i := 9) (oi := ⟨some 28, _, _, _, _, _⟩) (v := _) rfl (by kernel_rfl) (by kernel_rfl) (by kernel_rfl) (by kernel_rfl) (fun _ _ _ h => h) (yieldsIf_load_row (by rfl) 117 _ rfl (W.heap.size + 1) rfl (plc x) 117 (0, 0) _ (fun w hw => hw.2.2) Tryd.underlying117 rfl (by exact pl_size)) (by assumption) ?_
  (try simp only [Act.put, List.setIfInBounds_toArray, List.set_cons_zero, List.set_cons_succ])
  refine wpAnyT_take (i := 11) (oi := ⟨some 30, _, _, _, _, _⟩) (v := ?vg1_11) rfl (by kernel_rfl) (by kernel_rfl) (by kernel_rfl) (by kernel_rfl) (fun _ _ _ h => h) (Or.inl ⟨by rfl, ?hg1_11⟩) (by assumption) ?rg1_11
  case hg1_11 => (intro w hSw; (try dsimp only at hSw); first | (go_simp; done) | (go_simp; with_reducible rfl))
  (try simp only [Act.put, List.setIfInBounds_toArray, List.set_cons_zero, List.set_cons_succ])
  refine wpAnyT_take (i := 12) (oi := ⟨some 31, _, _, _, _, _⟩) (v := ?vg1_12) rfl (by kernel_rfl) (by kernel_rfl) (by kernel_rfl) (by kernel_rfl) (fun _ _ _ h => h) (Or.inl ⟨by rfl, ?hg1_12⟩) (by assumption) ?rg1_12
  case hg1_12 => (intro w hSw; (try dsimp only at hSw); first | (go_simp; done) | (go_simp; with_reducible rfl))
  (try simp only [Act.put, List.setIfInBounds_toArray, List.set_cons_zero, List.set_cons_succ])
  refine wpAnyT_take (i := 13) (oi := ⟨some 32, _, _, _, _, _⟩) (v := ?vg1_13) rfl (by kernel_rfl) (by kernel_rfl) (by kernel_rfl) (by kernel_rfl) (fun _ _ _ h => h) (Or.inl ⟨by rfl, ?hg1_13⟩) (by assumption) ?rg1_13
  case hg1_13 => (intro w hSw; (try dsimp only at hSw); first | (go_simp; done) | (go_simp; with_reducible rfl))
  (try simp only [Act.put, List.setIfInBounds_toArray, List.set_cons_zero, List.set_cons_succ])
  refine wpAnyT_take (i := 14) (oi := ⟨some 33, _, _, _, _, _⟩) (v := ?vg1_14) rfl (by kernel_rfl) (by kernel_rfl) (by kernel_rfl) (by kernel_rfl) (fun _ _ _ h => h) (Or.inl ⟨by rfl, ?hg1_14⟩) (by assumption) ?rg1_14
  case hg1_14 => (intro w hSw; (try dsimp only at hSw); first | (go_simp; done) | (go_simp; with_reducible rfl))
  (try simp only [Act.put, List.setIfInBounds_toArray, List.set_cons_zero, List.set_cons_succ])
  refine wpAnyT_one (i := 10) (o := ⟨some 29, _, _, _, _, _⟩) (by kernel_rfl) rfl (fun K hK => ?_)
  rw [if_pos (by rfl)]
  refine bs_wp 29 117 _ rfl (plc x) 2 (.agg #[.pointer none, .pointer none]) rfl rfl (by decide) (by decide) Tryd.underlying29 (by kernel_rfl) ?_
  intro w4 h4 hb hs4
  have HG4 := Lib.hid h4
  have HS4 := Lib.hid hs4
  replace HW := Lib.hid (HW.out.trans (hb.mono HW.out.size))
  clear h4 hb hs4
  refine hK.out _ _ (by exact HKS.out _ HW.out) (fun hHeld => ?_)
  clear hK K
  (try simp only [Act.put, List.setIfInBounds_toArray, List.set_cons_zero, List.set_cons_succ])
  refine wpAnyT_one (i := 15) (o := ⟨some 34, _, _, _, _, _⟩) (by kernel_rfl) rfl (fun K hK => ?_)
  go_simp
  have hb := Below.newly' w4 (.cells #[.slice a1 (cntG R j) c1, .slice (some ⟨w3.drew.heap.size, 0, none⟩) 1 1, .slice a3 (cntG R 32 - cntG R (j + 1)) c3] 29)
  have HQ := Lib.hid (heap_alloc_last w4 (.cells #[.slice a1 (cntG R j) c1, .slice (some ⟨w3.drew.heap.size, 0, none⟩) 1 1, .slice a3 (cntG R 32 - cntG R (j + 1)) c3] 29))
  replace HW := Lib.hid (HW.out.trans (hb.mono HW.out.size))
  clear hb
  refine hK.out _ _ (by exact HKS.out _ HW.out) (fun hHeld => ?_)
  clear hK K
  (try simp only [Act.put, List.setIfInBounds_toArray, List.set_cons_zero, List.set_cons_succ])
  refine wpAnyT_one (i := 16) (o := ⟨some 35, _, _, _, _, _⟩) (by kernel_rfl) rfl (fun K hK => ?_)
  go_simp
  go_at_call 100
  refine (pl_joined _ _ [(.slice a1 (cntG R j) c1, (lisG R).take (cntG R j)), (.slice (some ⟨w3.drew.heap.size, 0, none⟩) 1 1, [x]), (.slice a3 (cntG R 32 - cntG R (j + 1)) c3, (lisG R).drop (cntG R (j + 1)))] (fun k hk => by
    match k, hk with
    | 0, _ => exact cell_in HQ.out rfl
    | 1, _ => exact cell_in HQ.out rfl
    | 2, _ => exact cell_in HQ.out rfl) (fun q hq => by
    have hj1 := HJ.out
    have hll := HLL.out
    simp only [List.mem_cons, List.not_mem_nil, or_false] at hq
    rcases hq with rfl | rfl | rfl
    · simp only
      rw [List.length_take, Nat.min_eq_left (by omega)]
      exact (HS1.out.later (HB2.out.trans (HW.out.mono HB2.out.size))).weak fun _ _ => trivial
    · exact pl_lit (((Below.newly' _ _).block _ (Array.getElem?_eq_some_iff.1 HG4.out).1).trans HG4.out)
    · simp only
      rw [List.length_drop, hll]
      exact (HS3.out.later (HB2.out.trans (HW.out.mono HB2.out.size))).weak fun _ _ => trivial) (by
    have hj1 := HJ.out
    have hll := HLL.out
    have h32 := HC3.out
    simp [catE]
    omega) (by simp)).mono ?_
  rintro e w5 ⟨a5, n5, c5, rfl, hl5, hb⟩
  have HL5 := Lib.hid hl5
  have HB5 := Lib.hid hb
  have HWS := Lib.hid HW.out.size
  have HZ5 := Lib.hid ((hb.block _ (Nat.lt_of_lt_of_le (by have := HS2.out; omega) HWS.out)).trans ((HW.out.block _ (by have := HS2.out; omega)).trans HZ2.out))
  replace HW := Lib.hid (HW.out.trans (hb.mono HW.out.size))
  clear hl5 hb
  dsimp only
  refine hK.out _ _ (by exact HKS.out _ HW.out) (fun hHeld => ?_)
  clear hK K
  (try simp only [Act.put, List.setIfInBounds_toArray, List.set_cons_zero, List.set_cons_succ])
  refine wpAnyT_take (i := 17) (oi := ⟨some 36, _, _, _, _, _⟩) (v := ?vg1_17) rfl (by kernel_rfl) (by kernel_rfl) (by kernel_rfl) (by kernel_rfl) (fun _ _ _ h => h) (Or.inl ⟨by rfl, ?hg1_17⟩) (by assumption) ?rg1_17
  case hg1_17 => (intro w hSw; (try dsimp only at hSw); first | (go_simp; done) | (go_simp; with_reducible rfl))
  (try simp only [Act.put, List.setIfInBounds_toArray, List.set_cons_zero, List.set_cons_succ])
  refine wpAnyT_last (i := 18) (o := ⟨none, _, _, _, _, _⟩) (by kernel_rfl) (by decide) rfl (fun K hK => ?_)
  refine st_agg_wp 31 _ _ rfl (W.heap.size + 2) #[.int .u32 (b' : Int), .slice a5 n5 c5] rfl rfl 31 #[.int .u32 0, .slice none 0 0] HZ5.out row_size rfl (by simp [Value.oneCell']) ?_
  intro w6 h6 k6
  refine hK.out _ _ ?_
  clear hK K
  (try simp only [Act.put, List.setIfInBounds_toArray, List.set_cons_zero, List.set_cons_succ])
  refine wpAnyT_done (by kernel_rfl) ?_ _
  go_wp2_with fail
  refine bodyPost_ret (results_cell_row rfl _ _ (W.heap.size + 2) 31 _ (0, 0) _ rfl h6 Tryd.underlying31 rfl row_size) rfl ⟨_, rfl, ⟨_, by rw [HB'.out], ?_⟩, (HB2.out.trans (HW.out.mono HB2.out.size)).trans (k6.below (by omega))⟩
  have hl := HL5.out
  simp only [catE, List.length_cons, List.length_nil, List.take_succ_cons, List.take_zero, List.flatMap_cons, List.flatMap_nil, List.append_nil] at hl
  rw [← HS.out, lisG_len] at hl
  refine HeadAt.weak (HeadAt.kept hl k6.by_ (fun X e h => ?_)) (fun g hg => ?_)
  · cases e
    exact absurd h (Nat.not_le.2 (Nat.lt_of_lt_of_le (by have := HS2.out; omega) HWS.out))
  · exact Nat.le_trans (Nat.le_trans HB2.out.size HWS.out) hg
set_option maxHeartbeats 4000000 in
theorem pr_Cut {S : Nat → Prop} (W : World) (R : Rg Pl) (c : Array Value) (j : Nat) (hj : j < 32) (hs : (R j).isSome = true) (h : AtR S W R c) :
    Calls Tryd.prog 90 #[.agg c, .int .i64 (j : Int)] W fun e W' => ∃ c', e = .returned (.agg c') ∧ AtR (fun g => W.heap.size ≤ g) W' (cutG R j) c' ∧ Below W.heap.size W W' := by
  have HB := Lib.hid (sp_bit_on j hj)
  obtain ⟨v, rfl, h2⟩ := h
  have hz := cut_bitsG R j
  have hm := and_bit_onG R hj
  obtain ⟨b', hb'⟩ : ∃ b', b' = bitsG (cutG R j) 32 := ⟨_, rfl⟩
  rw [← hb'] at hz
  obtain ⟨p, hp⟩ : ∃ p, p = 2 ^ j := ⟨_, rfl⟩
  rw [← hp] at HB hz hm
  have hpn : ((p : Int) == 0) = false := beq_eq_false_iff_ne.2 (by have : 0 < p := by rw [hp]; exact Nat.two_pow_pos j
                                                                   omega)
  have HA := Lib.hid (fun w => pr_around (bitsG R 32) (lt_32G R) v j hj w)
  rw [rk_cntG R j (by omega), rk_cntG R (j + 1) (by omega)] at HA
  have HS := Lib.hid (lis_cutG R hj)
  have hc1 := cnt_monoG R (show j ≤ j + 1 by omega)
  have hc2 := cnt_monoG R (show j + 1 ≤ 32 by omega)
  have HC3 := Lib.hid (cnt_leG R 32)
  have HLL := Lib.hid (lisG_len R)
  obtain ⟨a1, c1, a3, c3, hs1, hs3, hr1, hr3⟩ := pl_cuts h2 (cntG R j) (cntG R (j + 1)) (by omega) hc2
  have HS1 := Lib.hid hs1
  have HS3 := Lib.hid hs3
  have HJ := Lib.hid (And.intro hc1 hc2)
  have HP := Lib.hid hp
  have HB' := Lib.hid hb'
  have hz1 := hm hs
  obtain ⟨w1, hw1⟩ : ∃ w1, (W.alloc (.cells #[.int .u32 (bitsG R 32 : Nat), v] 31)).alloc (.cells #[.int .u32 0, .slice none 0 0] 31) = w1 := ⟨_, rfl⟩
  obtain ⟨hb1, hx1, hz1', hs1'⟩ := two_newG hw1
  have HX1 := Lib.hid hx1
  have HZ1 := Lib.hid hz1'
  have HB1 := Lib.hid hb1
  have HSZ := Lib.hid hs1'

  have ca0 : w1.cell? ⟨W.heap.size, 0, none⟩ = some (.int .u32 (bitsG R 32 : Nat)) := cell_in hx1 rfl
  clear h2 hs1 hs3 hc1 hc2 hp hb' hb1 hx1 hz1' hs1' hm hs
  go_enter Tryd.func90, Tryd.ntmps90
  go_upto_region 1 with fail
  clear hw1
  go_quiet (first | (go_at_call 94; exact Calls.quiet_of_same (HB.out _)))
  obtain ⟨w2, hw2⟩ : ∃ w2, w2 = w1.drewN nq := ⟨_, rfl⟩
  have HX2 : Hid (w2.heap[W.heap.size]? = some (.cells #[.int .u32 (bitsG R 32 : Nat), v] 31 (0, 0))) := by show _ = _; rw [hw2]; exact HX1.out
  have HZ2 : Hid (w2.heap[W.heap.size + 1]? = some (.cells #[.int .u32 0, .slice none 0 0] 31 (0, 0))) := by show _ = _; rw [hw2]; exact HZ1.out
  have HB2 : Hid (Below W.heap.size W w2) := by show Below _ _ _; rw [hw2]; exact Below.drewMany HB1.out _
  have HS2 : Hid (W.heap.size + 2 ≤ w2.heap.size) := by show _ ≤ _; rw [hw2]; exact Nat.le_of_eq HSZ.out.symm
  rw [← hw2]
  clear hw2 ca0
  go_upto_region 4 with (first
    | (go_at_call 94; refine (HB.out _).mono ?_; rintro e w1' ⟨rfl, hw⟩; obtain rfl := hw.symm)
    | (refine ld_if (by rfl) 31 _ rfl W.heap.size rfl 31 _ _ _ HX2.out Tryd.underlying31 rfl row_size ?_)
    | (go_at_call 95; refine (HA.out _).mono ?_; rintro e w3 ⟨rfl, hb⟩; have HB3 := Lib.hid hb; clear hb))
  have HKS : Hid (∀ V, Below w2.heap.size w2 V → (V.cell? ⟨W.heap.size, 0, none⟩ = some (.int .u32 (bitsG R 32 : Nat)) ∧ V.cell? ⟨W.heap.size, 1, none⟩ = some v)) := fun V hV => by
    have hx := (hV.block _ (by have := HS2.out; omega)).trans HX2.out
    exact ⟨cell_in hx rfl, cell_in hx rfl⟩
  have HW : Hid (Below w2.heap.size w2 w3.drew) := HB3.out.trans ((drawn_below w3).mono HB3.out.size)
  clear HB3
  refine wp_region_T (S := (fun V => V.cell? ⟨W.heap.size, 0, none⟩ = some (.int .u32 (bitsG R 32 : Nat)) ∧ V.cell? ⟨W.heap.size, 1, none⟩ = some v)) [16] (by kernel_rfl) (by exact HKS.out _ HW.out) (fun hHeld => ?_)
  refine wpAnyT_take (i := 0) (oi := ⟨some 20, _, _, _, _, _⟩) (v := ?vg2_0) rfl (by kernel_rfl) (by kernel_rfl) (by kernel_rfl) (by kernel_rfl) (fun _ _ _ h => h) (Or.inl ⟨by rfl, ?hg2_0⟩) (by assumption) ?rg2_0
  case hg2_0 => (intro w hSw; (try dsimp only at hSw); first | (go_simp; done) | (go_simp; with_reducible rfl))
  (try simp only [Act.put, List.setIfInBounds_toArray, List.set_cons_zero, List.set_cons_succ])
  refine wpAnyT_take (i := 1) (oi := ⟨some 21, _, _, _, _, _⟩) (v := ?vg2_1) rfl (by kernel_rfl) (by kernel_rfl) (by kernel_rfl) (by kernel_rfl) (fun _ _ _ h => h) (Or.inl ⟨by rfl, ?hg2_1⟩) (by assumption) ?rg2_1
  case hg2_1 => (intro w hSw; (try dsimp only at hSw); first | (go_simp; done) | (go_simp; with_reducible rfl))
  (try simp only [Act.put, List.setIfInBounds_toArray, List.set_cons_zero, List.set_cons_succ])
  refine wpAnyT_take (i := 2) (oi := ⟨some 22, _, _, _, _, _⟩) (v := ?vg2_2) rfl (by kernel_rfl) (by kernel_rfl) (by kernel_rfl) (by kernel_rfl) (fun _ _ _ h => h) (Or.inl ⟨by rfl, ?hg2_2⟩) (by assumption) ?rg2_2
  case hg2_2 => (intro w hSw; (try dsimp only at hSw); first | (go_simp; done) | (go_simp; with_reducible rfl))
  (try simp only [Act.put, List.setIfInBounds_toArray, List.set_cons_zero, List.set_cons_succ])
  refine wpAnyT_takeC (i := 3) (oi := ⟨some 23, _, _, _, _, _⟩) (v := .int .u32 (p : Int)) rfl (by kernel_rfl) (by kernel_rfl) (by kernel_rfl) (by kernel_rfl) (fun _ _ _ h => h) ⟨by rfl, fun w hSw => ⟨94, #[.int .i64 (j : Int)], ?hg2_3, HB.out w⟩⟩ (by assumption) ?rg2_3
  case hg2_3 => go_simp
  (try simp only [Act.put, List.setIfInBounds_toArray, List.set_cons_zero, List.set_cons_succ])
  refine wpAnyT_take (i := 4) (oi := ⟨some 24, _, _, _, _, _⟩) (v := ?vg2_4) rfl (by kernel_rfl) (by kernel_rfl) (by kernel_rfl) (by kernel_rfl) (fun _ _ _ h => h) (Or.inl ⟨by rfl, ?hg2_4⟩) (by assumption) ?rg2_4
  case hg2_4 => (intro w hSw; (try dsimp only at hSw); first | (go_simp; done) | (go_simp; with_reducible rfl))
  (try simp only [Act.put, List.setIfInBounds_toArray, List.set_cons_zero, List.set_cons_succ])
  refine wpAnyT_take (i := 5) (oi := ⟨some 25, _, _, _, _, _⟩) (v := ?vg2_5) rfl (by kernel_rfl) (by kernel_rfl) (by kernel_rfl) (by kernel_rfl) (fun _ _ _ h => h) (Or.inl ⟨by rfl, ?hg2_5⟩) (by assumption) ?rg2_5
  case hg2_5 => (intro w hSw; (try dsimp only at hSw); first | (go_simp; done) | (go_simp; with_reducible rfl))
  (try simp only [Act.put, List.setIfInBounds_toArray, List.set_cons_zero, List.set_cons_succ])
  refine wpAnyT_take (i := 6) (oi := ⟨some 26, _, _, _, _, _⟩) (v := ?vg2_6) rfl (by kernel_rfl) (by kernel_rfl) (by kernel_rfl) (by kernel_rfl) (fun _ _ _ h => h) (Or.inl ⟨by rfl, ?hg2_6⟩) (by assumption) ?rg2_6
  case hg2_6 => (intro w hSw; (try dsimp only at hSw); first | (go_simp; done) | (go_simp; with_reducible rfl))
  (try simp only [Act.put, List.setIfInBounds_toArray, List.set_cons_zero, List.set_cons_succ])
  refine wpAnyT_take (i := 7) (oi := ⟨some 27, _, _, _, _, _⟩) (v := ?vg2_7) rfl (by kernel_rfl) (by kernel_rfl) (by kernel_rfl) (by kernel_rfl) (fun _ _ _ h => h) (Or.inl ⟨by rfl, ?hg2_7⟩) (by assumption) ?rg2_7
  case hg2_7 => (intro w hSw; (try dsimp only at hSw); first | (go_simp; done) | (go_simp; with_reducible rfl))
  (try simp only [Act.put, List.setIfInBounds_toArray, List.set_cons_zero, List.set_cons_succ])
  refine wpAnyT_take (i := 8) (oi := ⟨some 28, _, _, _, _, _⟩) (v := ?vg2_8) rfl (by kernel_rfl) (by kernel_rfl) (by kernel_rfl) (by kernel_rfl) (fun _ _ _ h => h) (Or.inl ⟨by rfl, ?hg2_8⟩) (by assumption) ?rg2_8
  case hg2_8 => (intro w hSw; (try dsimp only at hSw); first | (go_simp; done) | (go_simp; with_reducible rfl))
  (try simp only [Act.put, List.setIfInBounds_toArray, List.set_cons_zero, List.set_cons_succ])
  refine wpAnyT_take (i := 9) (oi := ⟨some 29, _, _, _, _, _⟩) (v := ?vg2_9) rfl (by kernel_rfl) (by kernel_rfl) (by kernel_rfl) (by kernel_rfl) (fun _ _ _ h => h) (Or.inl ⟨by rfl, ?hg2_9⟩) (by assumption) ?rg2_9
  case hg2_9 => (intro w hSw; (try dsimp only at hSw); first | (go_simp; done) | (go_simp; with_reducible rfl))
  (try simp only [Act.put, List.setIfInBounds_toArray, List.set_cons_zero, List.set_cons_succ])
  refine wpAnyT_take (i := 10) (oi := ⟨some 30, _, _, _, _, _⟩) (v := ?vg2_10) rfl (by kernel_rfl) (by kernel_rfl) (by kernel_rfl) (by kernel_rfl) (fun _ _ _ h => h) (Or.inl ⟨by rfl, ?hg2_10⟩) (by assumption) ?rg2_10
  case hg2_10 => (intro w hSw; (try dsimp only at hSw); first | (go_simp; done) | (go_simp; with_reducible rfl))
  (try simp only [Act.put, List.setIfInBounds_toArray, List.set_cons_zero, List.set_cons_succ])
  refine wpAnyT_take (i := 11) (oi := ⟨some 31, _, _, _, _, _⟩) (v := ?vg2_11) rfl (by kernel_rfl) (by kernel_rfl) (by kernel_rfl) (by kernel_rfl) (fun _ _ _ h => h) (Or.inl ⟨by rfl, ?hg2_11⟩) (by assumption) ?rg2_11
  case hg2_11 => (intro w hSw; (try dsimp only at hSw); first | (go_simp; done) | (go_simp; with_reducible rfl))
  (try simp only [Act.put, List.setIfInBounds_toArray, List.set_cons_zero, List.set_cons_succ])
  refine wpAnyT_take (i := 12) (oi := ⟨some 32, _, _, _, _, _⟩) (v := ?vg2_12) rfl (by kernel_rfl) (by kernel_rfl) (by kernel_rfl) (by kernel_rfl) (fun _ _ _ h => h) (Or.inl ⟨by rfl, ?hg2_12⟩) (by assumption) ?rg2_12
  case hg2_12 => (intro w hSw; (try dsimp only at hSw); first | (go_simp; done) | (go_simp; with_reducible rfl))
  (try simp only [Act.put, List.setIfInBounds_toArray, List.set_cons_zero, List.set_cons_succ])
  refine wpAnyT_one (i := 13) (o := ⟨some 33, _, _, _, _, _⟩) (by kernel_rfl) rfl (fun K hK => ?_)
  go_simp
  have hb := Below.newly' w3.drew (.cells #[.slice a1 (cntG R j) c1, .slice a3 (cntG R 32 - cntG R (j + 1)) c3] 29)
  have HQ := Lib.hid (heap_alloc_last w3.drew (.cells #[.slice a1 (cntG R j) c1, .slice a3 (cntG R 32 - cntG R (j + 1)) c3] 29))
  replace HW := Lib.hid (HW.out.trans (hb.mono HW.out.size))
  clear hb
  refine hK.out _ _ (by exact HKS.out _ HW.out) (fun hHeld => ?_)
  clear hK K
  (try simp only [Act.put, List.setIfInBounds_toArray, List.set_cons_zero, List.set_cons_succ])
  refine wpAnyT_one (i := 14) (o := ⟨some 34, _, _, _, _, _⟩) (by kernel_rfl) rfl (fun K hK => ?_)
  go_simp
  go_at_call 100
  refine (pl_joined _ _ [(.slice a1 (cntG R j) c1, (lisG R).take (cntG R j)), (.slice a3 (cntG R 32 - cntG R (j + 1)) c3, (lisG R).drop (cntG R (j + 1)))] (fun k hk => by
    match k, hk with
    | 0, _ => exact cell_in HQ.out rfl
    | 1, _ => exact cell_in HQ.out rfl) (fun q hq => by
    have hj1 := HJ.out
    have hll := HLL.out
    simp only [List.mem_cons, List.not_mem_nil, or_false] at hq
    rcases hq with rfl | rfl
    · simp only
      rw [List.length_take, Nat.min_eq_left (by omega)]
      exact HS1.out.later (HB2.out.trans (HW.out.mono HB2.out.size))
    · simp only
      rw [List.length_drop, hll]
      exact HS3.out.later (HB2.out.trans (HW.out.mono HB2.out.size))) (by
    have hj1 := HJ.out
    have hll := HLL.out
    have h32 := HC3.out
    simp [catE]
    omega) (by simp)).mono ?_
  rintro e w5 ⟨a5, n5, c5, rfl, hl5, hb⟩
  have HL5 := Lib.hid hl5
  have HB5 := Lib.hid hb
  have HWS := Lib.hid HW.out.size
  have HZ5 := Lib.hid ((hb.block _ (Nat.lt_of_lt_of_le (by have := HS2.out; omega) HWS.out)).trans ((HW.out.block _ (by have := HS2.out; omega)).trans HZ2.out))
  replace HW := Lib.hid (HW.out.trans (hb.mono HW.out.size))
  clear hl5 hb
  dsimp only
  refine hK.out _ _ (by exact HKS.out _ HW.out) (fun hHeld => ?_)
  clear hK K
  (try simp only [Act.put, List.setIfInBounds_toArray, List.set_cons_zero, List.set_cons_succ])
  refine wpAnyT_take (i := 15) (oi := ⟨some 35, _, _, _, _, _⟩) (v := ?vg2_15) rfl (by kernel_rfl) (by kernel_rfl) (by kernel_rfl) (by kernel_rfl) (fun _ _ _ h => h) (Or.inl ⟨by rfl, ?hg2_15⟩) (by assumption) ?rg2_15
  case hg2_15 => (intro w hSw; (try dsimp only at hSw); first | (go_simp; done) | (go_simp; with_reducible rfl))
  (try simp only [Act.put, List.setIfInBounds_toArray, List.set_cons_zero, List.set_cons_succ])
  refine wpAnyT_last (i := 16) (o := ⟨none, _, _, _, _, _⟩) (by kernel_rfl) (by decide) rfl (fun K hK => ?_)
  refine st_agg_wp 31 _ _ rfl (W.heap.size + 1) #[.int .u32 (b' : Int), .slice a5 n5 c5] rfl rfl 31 #[.int .u32 0, .slice none 0 0] HZ5.out row_size rfl (by simp [Value.oneCell']) ?_
  intro w6 h6 k6
  refine hK.out _ _ ?_
  clear hK K
  (try simp only [Act.put, List.setIfInBounds_toArray, List.set_cons_zero, List.set_cons_succ])
  refine wpAnyT_done (by kernel_rfl) ?_ _
  go_wp2_with fail
  refine bodyPost_ret (results_cell_row rfl _ _ (W.heap.size + 1) 31 _ (0, 0) _ rfl h6 Tryd.underlying31 rfl row_size) rfl ⟨_, rfl, ⟨_, by rw [HB'.out], ?_⟩, (HB2.out.trans (HW.out.mono HB2.out.size)).trans (k6.below (by omega))⟩
  have hl := HL5.out
  simp only [catE, List.length_cons, List.length_nil, List.take_succ_cons, List.take_zero, List.flatMap_cons, List.flatMap_nil, List.append_nil] at hl
  rw [← HS.out, lisG_len] at hl
  refine HeadAt.weak (HeadAt.kept hl k6.by_ (fun X e h => ?_)) (fun g hg => ?_)
  · cases e
    exact absurd h (Nat.not_le.2 (Nat.lt_of_lt_of_le (by have := HS2.out; omega) HWS.out))
  · exact Nat.le_trans (Nat.le_trans HB2.out.size HWS.out) hg
end Go.Proofs.YtnnlfgfgfegjkaaDoor

/- Package sparse at places: All: the iterator's contract. -/
namespace Go.Proofs.YtnnlfgfgfegjkaaDoor
open Go.RowKit Go.Shelf
set_option maxRecDepth 1000000
set_option linter.unusedSimpArgs false
attribute [local go_sem] Oper.semAt_some

abbrev encG (x : Nat × Pl) : Array Value := #[Value.int .i64 (x.1 : Int), Value.agg (plc x.2)]
theorem mid_wide {ops : Array Oper} {rest : List Oper} {o : Oper} {a : Act} {w : World} {Q : Exit → Act → World → Prop} {n : Nat} (hgd : o.guard = none) (ty : TypeId) (x : Operand) (ho : o.op = .load ty x)
    (b k : Nat) (hx : a.eval x = .pointer (some ⟨b, k, none⟩)) (cs : List Value) (d : TypeDesc) (hc : w.rangeAt b k cs)
    (hu : Tryd.prog.underlying ty = some d) (hd : d.isRow = true) (hi : (Tryd.prog.info? ty).map (·.size) = some cs.length)
    (h : wpListIn Fence.wide n Tryd.prog ops Q rest (a.put o.dst (.agg cs.toArray)) w) : wpListIn Fence.wide n Tryd.prog ops Q (o :: rest) a w :=
  wpListIn_plain hgd fun _ hK => wp_in_wide (fun c' hc => by rw [ho] at hc; cases hc) (wp_load_mid ty x ho b k hx cs d hc hu hd hi (hK _ _ h))
theorem st_wide {ops : Array Oper} {rest : List Oper} {o : Oper} {a : Act} {w : World} {Q : Exit → Act → World → Prop} {n : Nat} (hgd : o.guard = none) (ty : TypeId) (x y : Operand) (ho : o.op = .store ty x y)
    (X : Nat) (c' : Array Value) (hx : a.eval x = .pointer (some ⟨X, 0, none⟩)) (hy : a.eval y = .agg c') (T : TypeId) (c : Array Value) (hB : w.heap[X]? = some (.cells c T (0, 0)))
    (hi : (Tryd.prog.info? ty).map (·.size) = some c'.size) (hs : c.size = c'.size) (h1 : c'.all (·.oneCell') = true)
    (h : ∀ w', w'.heap[X]? = some (.cells c' T (0, 0)) → Only X w w' → wpListIn Fence.wide n Tryd.prog ops Q rest (a.put o.dst undef) w') : wpListIn Fence.wide n Tryd.prog ops Q (o :: rest) a w :=
  wpListIn_plain hgd fun _ hK => wp_in_wide (fun c' hc => by rw [ho] at hc; cases hc) (st_agg_wp ty x y ho X c' hx hy T c hB hi hs h1 fun w' h1 h2 => hK _ _ (h w' h1 h2))
/-- What lies below n₀ of a list of places. -/
def PlsIn (n₀ : Nat) (W : World) (v : Value) (xs : List Pl) : Prop :=
  (xs = [] ∧ v = .slice none 0 0) ∨ (0 < xs.length ∧ ∃ (g c : Nat), v = .slice (some ⟨g, 0, none⟩) xs.length c ∧ g < n₀ ∧ ∀ k (hk : k < xs.length), W.rangeAt g (k * 2) (enPl xs[k]))
theorem pls_in {S : Nat → Prop} {n₀ : Nat} {W : World} {v : Value} {xs : List Pl} {n : Nat} (h : HeadAt S W 117 2 v (en enPl xs) n) (hS : ∀ g, S g → g < n₀) : PlsIn n₀ W v xs := by
  have hl := h.1
  rw [en_len enPl_len] at hl
  rcases Nat.eq_zero_or_pos n with h0 | h0
  · obtain ⟨_, ⟨_, rfl⟩ | ⟨h1, _⟩⟩ := h
    · exact .inl ⟨List.eq_nil_of_length_eq_zero (by omega), rfl⟩
    · omega
  · have hn : n = xs.length := by omega
    subst hn
    obtain ⟨g, c, _, _, h1, _, h2, _⟩ := h.pos h0
    refine .inr ⟨h0, g, c, h1, hS g h2, fun k hk => ?_⟩
    obtain ⟨g', c', e, _, _, _, _, hr⟩ := pl_range h (List.getElem?_eq_getElem hk)
    rw [h1] at e
    simp only [Value.slice.injEq, Option.some.injEq, Addr.mk.injEq, true_and, and_true] at e
    rw [e.1]
    exact hr
theorem PlsIn.below {n₀ : Nat} {A B : World} {v : Value} {xs : List Pl} (h : Below n₀ A B) : PlsIn n₀ A v xs → PlsIn n₀ B v xs
  | .inl e => .inl e
  | .inr ⟨h0, g, c, e, hg, hc⟩ => .inr ⟨h0, g, c, e, hg, fun k hk j u hu => (h.cell (p := ⟨g, k * 2 + j, none⟩) hg).trans (hc k hk j u hu)⟩
set_option maxHeartbeats 4000000 in
theorem pr_all1_in (n : Nat) (hn : 1 ≤ n) (l Bs n₀ : Nat) (R : Rg Pl) (g cp : Nat) (hgn : g < n₀) (htn : 1 < n₀) (J Jx : List (Nat × Pl) → World → Prop)
    (hJ : ∀ s A B, J s A → Below A.heap.size A B → J s B)
    (hY : ∀ pre x W, J pre W → pre.length < (allG R).length → x ∈ allG R → YieldAt Fence.wide (n - 1) Tryd.prog l (encG x) W fun e W' =>
      (e = .returned (.bool true) ∧ J (pre ++ [x]) W' ∧ Below n₀ W W') ∨ (e = .returned (.bool false) ∧ Jx (pre ++ [x]) W'))
    (W : World) (hnW : n₀ ≤ W.heap.size) (hB0 : W.cell? ⟨Bs, 0, none⟩ = some (.int .u32 (bitsG R 32 : Nat))) (hB1 : W.cell? ⟨Bs, 1, none⟩ = some (.slice (some ⟨g, 0, none⟩) (lisG R).length cp))
    (hL : ∀ k (hk : k < (lisG R).length), W.rangeAt g (k * 2) (enPl (lisG R)[k])) (hT : Tab6 W) (h0 : J [] W) :
    CallsIn Fence.wide n Tryd.prog 110 #[.func (.yield l) #[] #[], .pointer (some ⟨Bs, 0, none⟩)] W fun e W' => (∃ v, e = .returned v) ∧
      ((∃ ys, ys = allG R ∧ J ys W') ∨ (∃ pre, (∃ k, k ≤ (allG R).length ∧ pre = (allG R).take k) ∧ Jx pre W')) := by
  have HJA := Lib.hid hJ
  clear hJ
  refine callsIn_of_wp Tryd.func110 rfl trivial ?_ rfl
  simp only [Tryd.ntmps110, List.size_toArray, List.length_cons, List.length_nil, Nat.reduceAdd, Nat.reduceSub, Array.replicate_succ, Array.replicate_zero, List.push_toArray, List.append_toArray, List.nil_append, List.cons_append]
  gi_wp2
  have HLEN := Lib.hid (show (lisG R).length = (allG R).length by rw [lisG_len, all_lenG])
  have hl32 : ((lisG R).length : Int) ≤ 32 := by have := cnt_leG R 32; rw [← lisG_len] at this; omega
  have HNW := Lib.hid hnW
  clear hnW
  gi_loopw [3, 11] (fun left i wr => ∃ k p : Nat, k ≤ (lisG R).length ∧ cntG R p = k ∧ i = .int .i64 k ∧ left = .int .u32 (leftN (bitsG R 32) p : Nat) ∧ J ((allG R).take k) wr ∧ Below n₀ W wr) (fun _ i _ => (lisG R).length - (intOf i).toNat)
  case atStart => exact ⟨0, 0, Nat.zero_le _, rfl, rfl, by rw [left_zero], h0, Below.refl _ _⟩
  case round =>
    obtain ⟨k, p, hk, hp, rfl, rfl, hJs, hnx⟩ := hrel
    by_cases hlt : k < (lisG R).length
    · obtain ⟨q, x, hz0, hctz, hpq, hq, hx, hcq, hcq1, hleft⟩ := left_lowG R (p := p) (by rw [hp, ← lisG_len]; exact hlt)
      have HRG : Hid (wr.rangeAt g (k * 2) (enPl (lisG R)[k])) := fun j u hu => (hnx.cell (p := ⟨g, k * 2 + j, none⟩) hgn).trans (hL k hlt j u hu)
      have hal := all_atG R hq hx
      rw [hcq, hp] at hal
      have hli := lis_atG R hq hx
      rw [hcq, hp, List.getElem?_eq_getElem hlt] at hli
      obtain hli := Option.some.inj hli
      rw [hli] at HRG
      have htk : (allG R).take k ++ [(q, x)] = (allG R).take (k + 1) := by
        obtain ⟨h1, h2⟩ := List.getElem?_eq_some_iff.1 hal
        rw [List.take_succ_eq_append_getElem h1, h2]
      have HY : Hid (∀ V, J ((allG R).take k) V → YieldAt Fence.wide (n - 1) Tryd.prog l (encG (q, x)) V fun e W' =>
          (e = .returned (.bool true) ∧ J ((allG R).take k ++ [(q, x)]) W' ∧ Below n₀ V W') ∨ (e = .returned (.bool false) ∧ Jx ((allG R).take k ++ [(q, x)]) W')) := fun V hV => hY _ (q, x) V hV (by rw [List.length_take, ← HLEN.out]; omega) (List.mem_of_getElem? hal)
      have hLlt : leftN (bitsG R 32) p < 4294967296 := left_lt p (bits_ltG R 32)
      have HT3 : Hid (∀ V, Below n₀ W V → Tab6 V) := fun V hV j hj => (hV.cell (p := ⟨1, j, none⟩) htn).trans (hT j hj)
      have HZ : Hid (∀ V, Tab6 V → Calls Tryd.prog 111 #[.int .u32 (leftN (bitsG R 32) p : Nat)] V fun e w' => e = .returned (.int .i64 (q : Nat)) ∧ w' = V) := fun V hV => by
        have h := sp_zeros (leftN (bitsG R 32) p) hLlt hz0 V hV
        rw [hctz] at h
        exact h
      obtain ⟨L, hLe⟩ : ∃ L, L = leftN (bitsG R 32) p := ⟨_, rfl⟩
      obtain ⟨L', hLe'⟩ : ∃ L', L' = leftN (bitsG R 32) (q + 1) := ⟨_, rfl⟩
      rw [← hLe, ← hLe'] at hleft
      rw [← hLe] at hz0 hLlt HZ ⊢
      obtain ⟨M, hM⟩ : ∃ M, M = L - 1 := ⟨_, rfl⟩
      rw [← hM] at hleft
      have e1 : (L : Int) - 1 = (M : Int) := by omega
      have e2 : bits .and .u32 (L : Int) (M : Int) = (L' : Int) := by rw [← hleft]; exact and_32 L M hLlt
      have hL1 : 1 ≤ (L : Int) := by omega
      have HLE' := Lib.hid hLe'
      have HTK := Lib.hid htk
      have HCQ := Lib.hid (hcq1.trans (by rw [hp]))
      have HJS := Lib.hid hJs
      have HNX := Lib.hid hnx
      have HLT := Lib.hid hlt
      clear hal hli htk hleft hM hctz hLe hLe' hcq hcq1 hJs hnx hL hY hT h0
      gi_wp2_with (first
        | (refine mid_wide rfl 117 _ rfl g (k * 2) rfl (enPl x) _ HRG.out Tryd.underlying117 rfl pl_size ?_)
        | (refine st_wide rfl 117 _ _ rfl wr.heap.size (plc x) rfl rfl 117 (plc (none, none)) (heap_alloc_last _ _) pl_size rfl (plc_one x) ?_; intro w5 h5 k5; have HB5 : Hid (Below wr.heap.size wr w5) := (Below.newly' _ _).trans (k5.below (Nat.le_refl _)); have HX5 := Lib.hid h5; clear h5 k5))
      (try simp only [Act.put, List.setIfInBounds_toArray, List.set_cons_zero, List.set_cons_succ])
      have HB6 : Hid (Below wr.heap.size wr w5.drew) := Below.drewMany HB5.out 1
      refine wpIn_region_W (S := fun V => V.heap[wr.heap.size]? = some (.cells (plc x) 117 (0, 0)) ∧ Tab6 V) [4, 5] (by kernel_rfl) ⟨HX5.out, HT3.out _ (HNX.out.trans (HB6.out.mono (Nat.le_trans HNW.out HNX.out.size)))⟩ (fun hHeld => ?_)
      refine wpAnyW_take (i := 0) (oi := ⟨some 15, _, _, _, _, _⟩) (v := ?v0) rfl (by kernel_rfl) (by kernel_rfl) (by kernel_rfl) (by kernel_rfl) (fun _ _ _ h => h) (Or.inl ⟨by rfl, ?h0⟩) (by assumption) ?r0
      case h0 => (intro w hSw; (try dsimp only at hSw); first | (go_simp; done) | (go_simp; with_reducible rfl))
      (try simp only [Act.put, List.setIfInBounds_toArray, List.set_cons_zero, List.set_cons_succ])
      refine wpAnyW_take (i := 1) (oi := ⟨some 16, _, _, _, _, _⟩) (v := ?v1) rfl (by kernel_rfl) (by kernel_rfl) (by kernel_rfl) (by kernel_rfl) (fun _ _ _ h => h) (Or.inl ⟨by rfl, ?h1⟩) (by assumption) ?r1
      case h1 => (intro w hSw; (try dsimp only at hSw); first | (go_simp; done) | (go_simp; with_reducible rfl))
      (try simp only [Act.put, List.setIfInBounds_toArray, List.set_cons_zero, List.set_cons_succ])
      refine wpAnyW_takeC (i := 2) (oi := ⟨some 17, _, _, _, _, _⟩) (v := .int .i64 (q : Int)) rfl (by kernel_rfl) (by kernel_rfl) (by kernel_rfl) (by kernel_rfl) (fun _ _ _ h => h) ⟨by rfl, fun w hSw => ⟨111, #[.int .u32 (L : Int)], ?h2, HZ.out w hSw.2⟩⟩ (by assumption) ?r2
      case h2 => go_simp
      (try simp only [Act.put, List.setIfInBounds_toArray, List.set_cons_zero, List.set_cons_succ])
      refine wpAnyW_take (i := 3) (oi := ⟨some 18, _, _, _, _, _⟩) (v := _) rfl (by kernel_rfl) (by kernel_rfl) (by kernel_rfl) (by kernel_rfl) (fun _ _ _ h => h) (yieldsIf_load_row (by rfl) 117 _ rfl wr.heap.size rfl (plc x) 117 (0, 0) _ (fun w hw => hw.1) Tryd.underlying117 rfl pl_size) (by assumption) ?_
      (try simp only [Act.put, List.setIfInBounds_toArray, List.set_cons_zero, List.set_cons_succ])
      obtain ⟨fn, tmps, assign, body, hy, hR⟩ := HY.out w5.drew (HJA.out _ _ _ HJS.out HB6.out)
      unfold encG at hy
      (try dsimp only at hy)
      refine wpAnyW_last (i := 4) (o := ⟨some 19, _, _, _, _, _⟩) (by kernel_rfl) (by decide) rfl (fun K hK => ?_)
      rw [if_pos (by rfl)]
      go_simp
      refine hR.mono ?_
      rintro e W3 (⟨rfl, hJ3, hk3⟩ | ⟨rfl, hJx3⟩)
      · refine hK.out _ _ ?_
        clear hK K hR hy
        (try simp only [Act.put, List.setIfInBounds_toArray, List.set_cons_zero, List.set_cons_succ])
        refine wpAnyW_last (i := 5) (o := ⟨some 20, _, _, _, _, _⟩) (by kernel_rfl) (by decide) rfl (fun K hK => ?_)
        rw [if_pos (by rfl)]
        go_simp
        refine hK.out _ _ ?_
        clear hK K
        (try simp only [Act.put, List.setIfInBounds_toArray, List.set_cons_zero, List.set_cons_succ])
        refine wpAnyW_done (by kernel_rfl) ?_ _
        gi_wp2
        go_roundw
        case rel => exact ⟨k + 1, q + 1, by have := HLT.out; omega, HCQ.out, by simp, by rw [HLE'.out], by rw [← HTK.out]; exact hJ3, (HNX.out.trans (HB6.out.mono (Nat.le_trans HNW.out HNX.out.size))).trans hk3⟩
        case measure => have := HLT.out; simp [intOf]; omega
      · refine hK.out _ _ ?_
        clear hK K hR hy
        (try simp only [Act.put, List.setIfInBounds_toArray, List.set_cons_zero, List.set_cons_succ])
        refine wpAnyW_last (i := 5) (o := ⟨some 20, _, _, _, _, _⟩) (by kernel_rfl) (by decide) rfl (fun K hK => ?_)
        rw [if_pos (by rfl)]
        go_simp
        refine hK.out _ _ ?_
        clear hK K
        (try simp only [Act.put, List.setIfInBounds_toArray, List.set_cons_zero, List.set_cons_succ])
        refine wpAnyW_done (by kernel_rfl) ?_ _
        gi_wp2
        refine bodyPost_ret (results_none rfl _ _ _) rfl ?_
        exact ⟨⟨_, rfl⟩, .inr ⟨_, ⟨k + 1, by have := HLT.out; rw [← HLEN.out]; omega, HTK.out⟩, hJx3⟩⟩
    · obtain rfl : k = (lisG R).length := by omega
      gi_wp2
      go_end0
      exact ⟨⟨_, rfl⟩, .inl ⟨_, rfl, by rwa [HLEN.out, List.take_length] at hJs⟩⟩
set_option maxHeartbeats 1000000 in
/-- .. of a row of nothing: no round. -/
theorem pr_all1_nil_in (n : Nat) (l Bs : Nat) (J : List (Nat × Pl) → World → Prop) (b : Nat) (W : World) (hB0 : W.cell? ⟨Bs, 0, none⟩ = some (.int .u32 (b : Nat))) (hB1 : W.cell? ⟨Bs, 1, none⟩ = some (.slice none 0 0)) (h0 : J [] W) :
    CallsIn Fence.wide n Tryd.prog 110 #[.func (.yield l) #[] #[], .pointer (some ⟨Bs, 0, none⟩)] W fun e W' => (∃ v, e = .returned v) ∧ J [] W' := by
  refine callsIn_of_wp Tryd.func110 rfl trivial ?_ rfl
  simp only [Tryd.ntmps110, List.size_toArray, List.length_cons, List.length_nil, Nat.reduceAdd, Nat.reduceSub, Array.replicate_succ, Array.replicate_zero, List.push_toArray, List.append_toArray, List.nil_append, List.cons_append]
  gi_wp2
  gi_loopw [11] (fun i wr => i = .int .i64 0 ∧ J [] wr) (fun _ _ => 0)
  case atStart => exact ⟨rfl, h0⟩
  case round =>
    obtain ⟨rfl, hJs⟩ := hrel
    gi_wp2
    go_end0
    exact ⟨⟨_, rfl⟩, hJs⟩
set_option maxHeartbeats 1000000 in
/-- All: the row is boxed; the function value has the box. -/
theorem pr_All_in (n : Nat) (b : Int) (v : Value) (w : World) :
    CallsIn Fence.wide n Tryd.prog 101 #[.agg #[.int .u32 b, v]] w fun e w' => e = .returned (.func (.func 110) #[] #[.pointer (some ⟨w.heap.size, 0, none⟩)]) ∧ w' = w.alloc (.cells #[.int .u32 b, v] 31) := by
  refine callsIn_of_wp Tryd.func101 rfl trivial ?_ rfl
  simp only [Tryd.ntmps101, List.size_toArray, List.length_cons, List.length_nil, Nat.reduceAdd, Nat.reduceSub, Array.replicate_succ, Array.replicate_zero, List.push_toArray, List.append_toArray, List.nil_append, List.cons_append]
  gi_wp2
  go_ret
  exact ⟨rfl, rfl⟩
/-- .. which goes through the row's places, all, or as far as one goes, whatever a round does that keeps what lay below n₀. -/
theorem pr_all_stops (n : Nat) (hn : 1 ≤ n) (Bs n₀ : Nat) (R : Rg Pl) (v : Value) (w : World) (hBs : Bs < w.heap.size) (hn₀ : n₀ ≤ w.heap.size) (htn : 1 < n₀) (hB0 : w.cell? ⟨Bs, 0, none⟩ = some (.int .u32 (bitsG R 32 : Nat)))
    (hB1 : w.cell? ⟨Bs, 1, none⟩ = some v) (hL : PlsIn n₀ w v (lisG R)) (hT : Tab6 w) :
    SeqStopsK Fence.wide n Tryd.prog 110 #[.pointer (some ⟨Bs, 0, none⟩)] encG (Below n₀) (fun ys => ys = allG R) (fun pre => ∃ k, k ≤ (allG R).length ∧ pre = (allG R).take k) (allG R).length w := fun l J Jx W hW hJ _ hY h0 => by
  have h0' := (hW.cell (p := ⟨Bs, 0, none⟩) hBs).trans hB0
  have h1' := (hW.cell (p := ⟨Bs, 1, none⟩) hBs).trans hB1
  rcases hL.below (hW.mono hn₀) with ⟨he, rfl⟩ | ⟨_, g, c, rfl, hg, hc⟩
  · have ha : allG R = [] := List.eq_nil_of_length_eq_zero (by rw [all_lenG, ← lisG_len, he]; rfl)
    exact (pr_all1_nil_in n l Bs J _ W h0' h1' h0).mono fun e W' ⟨hr, hj⟩ => ⟨hr, .inl ⟨_, ha.symm, hj⟩⟩
  · exact pr_all1_in n hn l Bs n₀ R g c hg htn J Jx (fun s A B h hb => hJ s A B none h ⟨hb.os, hb.tape, hb.output, hb.size, fun k hk _ => hb.block k hk⟩ (fun r e => by cases e)) (fun pre x W hj hl _ => hY pre x W hj hl) W (Nat.le_trans hn₀ hW.size) h0' h1' hc (hT.below hW) h0
/-- .. where a round need be right for the row's places only. -/
theorem pr_all_stopsS (n : Nat) (hn : 1 ≤ n) (Bs n₀ : Nat) (R : Rg Pl) (v : Value) (w : World) (hBs : Bs < w.heap.size) (hn₀ : n₀ ≤ w.heap.size) (htn : 1 < n₀) (hB0 : w.cell? ⟨Bs, 0, none⟩ = some (.int .u32 (bitsG R 32 : Nat)))
    (hB1 : w.cell? ⟨Bs, 1, none⟩ = some v) (hL : PlsIn n₀ w v (lisG R)) (hT : Tab6 w) :
    SeqStopsK (α := {x : Nat × Pl // x ∈ allG R}) Fence.wide n Tryd.prog 110 #[.pointer (some ⟨Bs, 0, none⟩)] (fun x => encG x.1) (Below n₀) (fun ys => ys.map (·.1) = allG R) (fun pre => ∃ k, k ≤ (allG R).length ∧ pre.map (·.1) = (allG R).take k) (allG R).length w := fun l J Jx W hW hJ _ hY h0 => by
  have h0' := (hW.cell (p := ⟨Bs, 0, none⟩) hBs).trans hB0
  have h1' := (hW.cell (p := ⟨Bs, 1, none⟩) hBs).trans hB1
  rcases hL.below (hW.mono hn₀) with ⟨he, rfl⟩ | ⟨_, g, c, rfl, hg, hc⟩
  · have ha : allG R = [] := List.eq_nil_of_length_eq_zero (by rw [all_lenG, ← lisG_len, he]; rfl)
    exact (pr_all1_nil_in n l Bs (fun (pre : List (Nat × Pl)) W => ∃ p' : List {x : Nat × Pl // x ∈ allG R}, p'.map (·.1) = pre ∧ J p' W) _ W h0' h1' ⟨[], rfl, h0⟩).mono fun e W' ⟨hr, p', e1, hj⟩ => ⟨hr, .inl ⟨p', e1.trans ha.symm, hj⟩⟩
  · refine (pr_all1_in n hn l Bs n₀ R g c hg htn (fun pre W => ∃ p' : List {x : Nat × Pl // x ∈ allG R}, p'.map (·.1) = pre ∧ J p' W) (fun pre W => ∃ p' : List {x : Nat × Pl // x ∈ allG R}, p'.map (·.1) = pre ∧ Jx p' W)
      (fun s A B ⟨p', e, h⟩ hb => ⟨p', e, hJ p' A B none h ⟨hb.os, hb.tape, hb.output, hb.size, fun k hk _ => hb.block k hk⟩ (fun r e => by cases e)⟩) ?_ W (Nat.le_trans hn₀ hW.size) h0' h1' hc (hT.below hW) ⟨[], rfl, h0⟩).mono ?_
    · rintro pre x V ⟨p', e, hj⟩ hl hx
      refine (hY p' ⟨x, hx⟩ V hj (by rw [← e, List.length_map] at hl; exact hl)).mono ?_
      rintro r V' (⟨h1, h2, h3⟩ | ⟨h1, h2⟩)
      · exact .inl ⟨h1, ⟨_, by rw [List.map_append, e]; rfl, h2⟩, h3⟩
      · exact .inr ⟨h1, _, by rw [List.map_append, e]; rfl, h2⟩
    · rintro e W' ⟨hr, ⟨ys, e1, p', e2, hj⟩ | ⟨pre, hp, p', e2, hj⟩⟩
      · exact ⟨hr, .inl ⟨p', e2.trans e1, hj⟩⟩
      · obtain ⟨k, hk, e3⟩ := hp
        exact ⟨hr, .inr ⟨p', ⟨k, hk, e2.trans e3⟩, hj⟩⟩
end Go.Proofs.YtnnlfgfgfegjkaaDoor

/- Package sparse at places: First. -/
namespace Go.Proofs.YtnnlfgfgfegjkaaDoor
open Go.RowKit Go.Shelf
set_option maxRecDepth 1000000
set_option linter.unusedSimpArgs false
attribute [local go_sem] Oper.semAt_some

/-- A variable of a place. -/
abbrev PBox (V : World) (X : Nat) (p : Pl) : Prop := V.heap[X]? = some (.cells (plc p) 117 (0, 0))
theorem row_own {β : Type} (X : Nat) (T : TypeId) (f : β → Array Value) : Own (fun s V => V.heap[X]? = some (.cells (f s) T (0, 0))) := fun _ _ _ _ hs hg hr => row_kept hs hg hr
theorem row_only {V V' : World} {X Y : Nat} {cs : Array Value} {T : TypeId} {fr : Nat × Nat} (h : V.heap[Y]? = some (.cells cs T fr)) (k : Only X V V') (hne : Y ≠ X) : V'.heap[Y]? = some (.cells cs T fr) := k.other h hne
theorem only_keeps {X : Nat} {A B : World} {cs : Array Value} {T : TypeId} {fr : Nat × Nat} (h : Only X A B) (hX : A.heap[X]? = some (.cells cs T fr)) : KeepsOthers A B :=
  ⟨Nat.le_of_eq h.size.symm, fun k o hk ho => h.other hk (fun e => by subst e; rw [hX] at hk; cases hk; cases ho)⟩
/-- What is first of a row. -/
def firstG (R : Rg Pl) : Int × Pl × Bool := match allG R with
  | [] => (0, (none, none), false)
  | p :: _ => ((p.1 : Int), p.2, true)
set_option maxHeartbeats 1000000 in
theorem first_results (tmps : Array Value) (w : World) (X1 X2 X3 : Nat) (i : Int) (p : Pl) (b : Bool) (h1 : tmps.getD 2 undef = .pointer (some ⟨X1, 0, none⟩)) (h2 : tmps.getD 3 undef = .pointer (some ⟨X2, 0, none⟩)) (h3 : tmps.getD 4 undef = .pointer (some ⟨X3, 0, none⟩))
    (c1 : Boxed w X1 3 (.int .i64 i)) (c2 : PBox w X2 p) (c3 : Boxed w X3 4 (.bool b)) :
    (results Tryd.f105 tmps).run Tryd.prog w = .ok (.tuple #[.int .i64 i, .agg (plc p), .bool b]) w := by
  have l1 := c1.cell
  have l3 := c3.cell
  have l2 : w.cell? ⟨X2, 0, none⟩ = some (pv p.1) := cell_in c2 rfl
  have l4 : w.cell? ⟨X2, 1, none⟩ = some (pv p.2) := cell_in c2 rfl
  simp at h1 h2 h3
  simp [results, Tryd.f105, go_sem, h1, h2, h3, l1, l2, l3, l4, plc]
/-- A value of one cell goes into a variable of one cell. -/
theorem st_box_wp {o : Oper} {a : Act} {w : World} {K : Act → World → Prop} {Q : Exit → Act → World → Prop} (ty : TypeId) (x y : Operand) (ho : o.op = .store ty x y)
    (X : Nat) (v : Value) (hx : a.eval x = .pointer (some ⟨X, 0, none⟩)) (hy : a.eval y = v) (h1 : v.oneCell' = true) (T : TypeId) (u : Value) (hB : Boxed w X T u)
    (hi : (Tryd.prog.info? ty).map (·.size) = some 1)
    (h : ∀ w', Boxed w' X T v → Only X w w' → K (a.put o.dst undef) w') : o.wp Tryd.prog a w K Q := by
  unfold Oper.wp execOp
  simp only [ho, hx, hy, Instr.storeAt, Instr.sureAddr, Sem.run_bind, Sem.run_pure, Result.andThen_ok, run_storeVar_cell w X 0 T ty #[u] v hB (by simp) hi h1]
  exact h _ (setRow_heap w X _ _ _ _ hB) (only_setRow _ _ _)
theorem st_in {ops : Array Oper} {rest : List Oper} {o : Oper} {a : Act} {w : World} {Q : Exit → Act → World → Prop} {n l : Nat} (hgd : o.guard = none) (ty : TypeId) (x y : Operand) (ho : o.op = .store ty x y)
    (X : Nat) (c' : Array Value) (hx : a.eval x = .pointer (some ⟨X, 0, none⟩)) (hy : a.eval y = .agg c') (T : TypeId) (c : Array Value) (hB : w.heap[X]? = some (.cells c T (0, 0)))
    (hi : (Tryd.prog.info? ty).map (·.size) = some c'.size) (hs : c.size = c'.size) (h1 : c'.all (·.oneCell') = true)
    (h : ∀ w', w'.heap[X]? = some (.cells c' T (0, 0)) → Only X w w' → wpListIn (Fence.wide.inRound l) n Tryd.prog ops Q rest (a.put o.dst undef) w') : wpListIn (Fence.wide.inRound l) n Tryd.prog ops Q (o :: rest) a w :=
  list_in hgd (fun c' hc => by rw [ho] at hc; cases hc) fun _ hK => st_agg_wp ty x y ho X c' hx hy T c hB hi hs h1 fun w' h1 h2 => hK _ _ (h w' h1 h2)
theorem int_sz : (Tryd.prog.info? 3).map (·.size) = some 1 := by kernel_rfl
theorem bool_sz : (Tryd.prog.info? 4).map (·.size) = some 1 := by kernel_rfl
set_option maxHeartbeats 4000000 in
theorem pr_First {S : Nat → Prop} (w : World) (R : Rg Pl) (c : Array Value) (h : AtR S w R c) (hT : Tab6 w) : Calls Tryd.prog 105 #[.agg c] w fun e W' => e = .returned (.tuple #[.int .i64 (firstG R).1, .agg (plc (firstG R).2.1), .bool (firstG R).2.2]) ∧ Below w.heap.size w W' := by
  obtain ⟨v, rfl, h2⟩ := h
  have HPL := Lib.hid (pls_in h2.old (n₀ := w.heap.size) (fun g hg => hg.2))
  obtain ⟨a, n, rfl, _⟩ := h2.shape
  have HTT := Lib.hid hT
  refine (callsIn_wide (n := 5)).1 ?_
  refine callsIn_of_wp_marks Tryd.func105 rfl trivial ?_ rfl
  simp only [Tryd.ntmps105, List.size_toArray, List.length_cons, List.length_nil, Nat.reduceAdd, Nat.reduceSub, Array.replicate_succ, Array.replicate_zero, List.push_toArray, List.append_toArray, List.nil_append, List.cons_append]
  have htl : 1 < w.heap.size := World.block_lt_of_cell? w _ (hT 0 (by decide))
  clear h2 hT
  gi_wp2_with (refine ⟨trivial, ?_⟩; gi_at_call 101; refine (pr_All_in _ _ _ _).mono ?_; rintro e w' ⟨rfl, rfl⟩)
  obtain ⟨W1, hW1⟩ : ∃ W1, w.alloc (.cells #[.int .u32 (bitsG R 32 : Nat), .slice a (cntG R 32) n] 31) = W1 := ⟨_, rfl⟩
  have hs1 : W1.heap.size = w.heap.size + 1 := by rw [← hW1]; simp
  have hb1 : Below w.heap.size w W1 := by rw [← hW1]; exact Below.newly' _ _
  rw [hW1]
  obtain ⟨W2, hW2⟩ : ∃ W2, W1.alloc (.cells #[.int .i64 0] 3) = W2 := ⟨_, rfl⟩
  have hs2 : W2.heap.size = w.heap.size + 2 := by rw [← hW2]; simp; omega
  have hx2 : Boxed W2 (w.heap.size + 1) 3 (.int .i64 0) := by rw [← hs1, ← hW2]; exact Boxed.new _ _ _
  have hb2 : Below w.heap.size w W2 := by rw [← hW2]; exact hb1.alloc (by omega) _
  rw [hW2]
  obtain ⟨W3, hW3⟩ : ∃ W3, W2.alloc (.cells #[.pointer none, .pointer none] 117) = W3 := ⟨_, rfl⟩
  have hs3 : W3.heap.size = w.heap.size + 3 := by rw [← hW3]; simp; omega
  have hp3 : PBox W3 (w.heap.size + 1 + 1) (none, none) := by
    have h := heap_alloc_last W2 (.cells #[.pointer none, .pointer none] 117)
    rw [hW3, hs2] at h
    exact h
  have hx3 : Boxed W3 (w.heap.size + 1) 3 (.int .i64 0) := by rw [← hW3]; exact hx2.alloc _
  have hb3 : Below w.heap.size w W3 := by rw [← hW3]; exact hb2.alloc (by omega) _
  rw [hW3]
  obtain ⟨W4, hW4⟩ : ∃ W4, W3.alloc (.cells #[.bool false] 4) = W4 := ⟨_, rfl⟩
  have hs4 : W4.heap.size = w.heap.size + 4 := by rw [← hW4]; simp; omega
  have hp4 : PBox W4 (w.heap.size + 1 + 1) (none, none) := by rw [← hW4]; exact ((Below.newly' _ _).block _ (by omega)).trans hp3
  have hx4 : Boxed W4 (w.heap.size + 1) 3 (.int .i64 0) := by rw [← hW4]; exact hx3.alloc _
  have hy4 : Boxed W4 (w.heap.size + 1 + 1 + 1) 4 (.bool false) := by rw [show w.heap.size + 1 + 1 + 1 = W3.heap.size by omega, ← hW4]; exact Boxed.new _ _ _
  have hb4 : Below w.heap.size w W4 := by rw [← hW4]; exact hb3.alloc (by omega) _
  rw [hW4]
  obtain ⟨W0, hW0⟩ : ∃ W0, W4.alloc (.cells #[.int .u32 (bitsG R 32 : Nat), .slice a (cntG R 32) n] 31) = W0 := ⟨_, rfl⟩
  have hs0 : W0.heap.size = w.heap.size + 5 := by rw [← hW0]; simp; omega
  have hp0 : PBox W0 (w.heap.size + 1 + 1) (none, none) := by rw [← hW0]; exact ((Below.newly' _ _).block _ (by omega)).trans hp4
  have hx0 : Boxed W0 (w.heap.size + 1) 3 (.int .i64 0) := by rw [← hW0]; exact hx4.alloc _
  have hy0 : Boxed W0 (w.heap.size + 1 + 1 + 1) 4 (.bool false) := by rw [← hW0]; exact hy4.alloc _
  have hb0 : Below w.heap.size w W0 := by rw [← hW0]; exact hb4.alloc (by omega) _
  have hr0 : W0.heap[w.heap.size + 1 + 1 + 1 + 1]? = some (.cells #[.int .u32 (bitsG R 32 : Nat), .slice a (cntG R 32) n] 31 (0, 0)) := by
    rw [show w.heap.size + 1 + 1 + 1 + 1 = W4.heap.size by omega, ← hW0]; exact heap_alloc_last _ _
  rw [hW0]
  clear hW0 hW1 hW2 hW3 hW4 hs1 hs2 hs3 hs4 hb1 hb2 hb3 hb4 hx2 hx3 hx4 hp3 hp4 hy4
  refine wpIn_rangeFunc_ownH (F := Fence.wide) rfl (by omega) (gf := 110) (lb := #[.pointer (some ⟨w.heap.size + 1 + 1 + 1 + 1, 0, none⟩)]) rfl trivial (enters_of Tryd.func110 (by kernel_rfl) rfl)
    (pr_all_stops 4 (by omega) (w.heap.size + 1 + 1 + 1 + 1) w.heap.size R _ W0 (by omega) (by omega) htl (cell_in hr0 rfl) (cell_in hr0 rfl) (HPL.out.below hb0) (HTT.out.below hb0)) belowK_t (belowK_b (by omega)) (Below.refl _ _) (fun _ => rfl)
    (fun pre V => (pre = [] ∧ Boxed V (w.heap.size + 1) 3 (.int .i64 0) ∧ PBox V (w.heap.size + 1 + 1) (none, none) ∧ Boxed V (w.heap.size + 1 + 1 + 1) 4 (.bool false)) ∧ Below w.heap.size w V)
    (fun k pre V => (k = .ret ∧ ∃ x : Nat × Pl, pre = [x] ∧ Boxed V (w.heap.size + 1) 3 (.int .i64 (x.1 : Int)) ∧ PBox V (w.heap.size + 1 + 1) x.2 ∧ Boxed V (w.heap.size + 1 + 1 + 1) 4 (.bool true)) ∧ Below w.heap.size w V)
    (OwnFrom.and (Own.from (fun s A B row hs hg hr => ⟨hs.1, bx_kept hs.2.1 hg hr, row_kept hs.2.2.1 hg hr, bx_kept hs.2.2.2 hg hr⟩) _) (ownFrom_below (Nat.le_refl _) (by omega)))
    (fun k => OwnFrom.and (Own.from (fun s A B row hs hg hr => by obtain ⟨hc, x, e1, e2, e3, e4⟩ := hs; exact ⟨hc, x, e1, bx_kept e2 hg hr, row_kept e3 hg hr, bx_kept e4 hg hr⟩) _) (ownFrom_below (Nat.le_refl _) (by omega)))
    ⟨⟨rfl, hx0, hp0, hy0⟩, hb0⟩
    (fun x a' V => ∃ Bx, w.heap.size + 4 ≤ Bx ∧ PBox V Bx x.2 ∧ a' = { tmps := #[.agg #[.int .u32 (bitsG R 32 : Nat), .slice a (cntG R 32) n], .pointer (some ⟨w.heap.size, 0, none⟩), .pointer (some ⟨w.heap.size + 1, 0, none⟩), .pointer (some ⟨w.heap.size + 1 + 1, 0, none⟩), .pointer (some ⟨w.heap.size + 1 + 1 + 1, 0, none⟩), .int .i64 (x.1 : Int), .pointer (some ⟨Bx, 0, none⟩), undef, .agg #[.int .u32 (bitsG R 32 : Nat), .slice a (cntG R 32) n], .func (.func 110) #[] #[.pointer (some ⟨w.heap.size + 1 + 1 + 1 + 1, 0, none⟩)], .int .i64 (x.1 : Int), .agg (plc x.2), undef, undef, undef], defers := [] })
    (fun x a' => Own.from (fun s A B row hs hg hr => by obtain ⟨Bx, h1, h2, h3⟩ := hs; exact ⟨Bx, h1, row_kept h2 hg hr, h3⟩) _)
    ?assign ?body ?done ?stop
  case assign =>
    rintro l pre x V K ⟨⟨rfl, h2, h3, h4⟩, hB⟩ hK
    have hVs := hb0.size
    gi_wp2_with (refine st_in rfl 117 _ _ rfl V.heap.size (plc x.2) rfl rfl 117 (plc (none, none)) (heap_alloc_last _ _) pl_size rfl (plc_one x.2) ?_; intro w5 h5 k5; have hb5 : Below V.heap.size V w5 := (Below.newly' _ _).trans (k5.below (Nat.le_refl _)))
    exact hK _ _ (((KeepsOthers.alloc V _).trans (only_keeps k5 (heap_alloc_last _ _))).from _) (hb5.mono hB.size) ⟨⟨by trivial, (hb5.block _ h2.lt).trans h2, (hb5.block _ (Array.getElem?_eq_some_iff.1 h3).1).trans h3, (hb5.block _ h4.lt).trans h4⟩, hB.trans (hb5.mono hB.size)⟩ ⟨V.heap.size, by have := h4.lt; omega, h5, rfl⟩
  case body =>
    rintro l pre x a' V hl ⟨r, hr⟩ ⟨⟨rfl, h2, h3, h4⟩, hB⟩ ⟨Bx, hBx, bX, rfl⟩ hlt
    have H2 := Lib.hid h2
    have H3 := Lib.hid h3
    have H4 := Lib.hid h4
    have HX := Lib.hid bX
    have HBV := Lib.hid hB
    clear h2 h3 h4 bX hB hx0 hp0 hy0 hr0 hb0 hr
    gi_wp2
    refine region_T_in (S := (fun V => PBox V Bx x.2)) [3, 4] (by kernel_rfl) (by kernel_rfl) (fun ⟨_, _, h⟩ => h) (by first | exact HX.out | exact HX6.out) (fun hHeld => ?_)
    refine wpAnyT_take (i := 0) (oi := ⟨some 12, _, _, _, _, _⟩) (v := ?vg2_0) rfl (by kernel_rfl) (by kernel_rfl) (by kernel_rfl) (by kernel_rfl) (fun _ _ _ h => h) (Or.inl ⟨by rfl, ?hg2_0⟩) (by assumption) ?rg2_0
    case hg2_0 => (intro w hSw; (try dsimp only at hSw); first | (go_simp; done) | (go_simp; with_reducible rfl))
    (try simp only [Act.put, List.setIfInBounds_toArray, List.set_cons_zero, List.set_cons_succ])
    refine wpAnyT_take (i := 1) (oi := ⟨some 13, _, _, _, _, _⟩) (v := _) rfl (by kernel_rfl) (by kernel_rfl) (by kernel_rfl) (by kernel_rfl) (fun _ _ _ h => h) (yieldsIf_load_row (by rfl) 117 _ rfl Bx rfl (plc x.2) 117 (0, 0) _ (fun w hw => hw) Tryd.underlying117 rfl (by exact pl_size)) (by assumption) ?_
    (try simp only [Act.put, List.setIfInBounds_toArray, List.set_cons_zero, List.set_cons_succ])
    refine wpAnyT_one (i := 2) (o := ⟨none, _, _, _, _, _⟩) (by kernel_rfl) rfl (fun K hK => ?_)
    rw [if_pos (by rfl)]
    refine st_box_wp 3 _ _ rfl (w.heap.size + 1) (.int .i64 (x.1 : Int)) rfl rfl rfl 3 _ H2.out int_sz ?_
    intro w6 h6 k6
    have G1 := Lib.hid h6
    have G2 := Lib.hid (row_only (V := V.drew) H3.out k6 (by omega))
    have G3 : Hid (Boxed w6 (w.heap.size + 1 + 1 + 1) 4 (.bool false)) := row_only (V := V.drew) H4.out k6 (by omega)
    have HX6 := Lib.hid (row_only (V := V.drew) HX.out k6 (by omega))
    have HB6 := Lib.hid ((Below.drewMany HBV.out 1).trans (k6.below (B := w.heap.size) (by omega)))
    have HK6 := Lib.hid ((keeps_below (drawn_below V)).trans (only_keeps (A := V.drew) k6 H2.out))
    clear h6 k6
    refine hK.out _ _ (by first | exact HX.out | exact HX6.out) (fun hHeld => ?_)
    clear hK K
    (try simp only [Act.put, List.setIfInBounds_toArray, List.set_cons_zero, List.set_cons_succ])
    refine wpAnyT_last (i := 3) (o := ⟨none, _, _, _, _, _⟩) (by kernel_rfl) (by decide) rfl (fun K hK => ?_)
    rw [if_pos (by rfl)]
    refine st_agg_wp 117 _ _ rfl (w.heap.size + 1 + 1) (plc x.2) rfl rfl 117 _ G2.out pl_size rfl (plc_one x.2) ?_
    intro w7 h7 k7
    have G4 := Lib.hid h7
    have G5 : Hid (Boxed w7 (w.heap.size + 1) 3 (.int .i64 (x.1 : Int))) := row_only G1.out k7 (by omega)
    have G6 : Hid (Boxed w7 (w.heap.size + 1 + 1 + 1) 4 (.bool false)) := row_only G3.out k7 (by omega)
    have HB7 := Lib.hid (HB6.out.trans (k7.below (B := w.heap.size) (by omega)))
    have HK7 := Lib.hid (HK6.out.trans (only_keeps k7 G2.out))
    clear h7 k7
    refine hK.out _ _ ?_
    clear hK K
    (try simp only [Act.put, List.setIfInBounds_toArray, List.set_cons_zero, List.set_cons_succ])
    refine wpAnyT_last (i := 4) (o := ⟨none, _, _, _, _, _⟩) (by kernel_rfl) (by decide) rfl (fun K hK => ?_)
    rw [if_pos (by rfl)]
    refine st_box_wp 4 _ _ rfl (w.heap.size + 1 + 1 + 1) (.bool true) rfl rfl rfl 4 _ G6.out bool_sz ?_
    intro w8 h8 k8
    refine hK.out _ _ ?_
    clear hK K
    (try simp only [Act.put, List.setIfInBounds_toArray, List.set_cons_zero, List.set_cons_succ])
    refine wpAnyT_done (by kernel_rfl) ?_ _
    gi_wp2
    exact ⟨(HK7.out.trans (only_keeps k8 G6.out)).from _, ⟨rfl, x, rfl, row_only G5.out k8 (by omega), row_only G4.out k8 (by omega), h8⟩, HB7.out.trans (k8.below (B := w.heap.size) (by omega))⟩
  case done =>
    rintro D ys V hD rfl ⟨⟨hne, h2, h3, h4⟩, hB⟩ hK
    have H2 := Lib.hid h2
    have H3 := Lib.hid h3
    have H4 := Lib.hid h4
    have HBV := Lib.hid hB
    have HKD := Lib.hid hK
    have HDD := Lib.hid hD
    clear h2 h3 h4 hB hK hx0 hp0 hy0 hr0 hb0 hD
    gi_wp2
    refine wpIn_wide.2 ?_
    refine wp_region_noPanic ?_
    have HVL : Hid (w.heap.size + 1 + 1 + 1 < V.heap.size) := H4.out.lt
    obtain ⟨Vd, hVd⟩ : ∃ Vd, (V.alloc (.cells #[.pointer none, .pointer none] 117)).drew = Vd := ⟨_, rfl⟩
    have hbd : Below V.heap.size V Vd := by rw [← hVd]; exact Below.drewMany (Below.newly' V _) 1
    have HXv : Hid (PBox Vd V.heap.size (none, none)) := by show _ = _; rw [← hVd]; exact heap_alloc_last V _
    have H2v : Hid (Boxed Vd (w.heap.size + 1) 3 (.int .i64 0)) := (hbd.block _ H2.out.lt).trans H2.out
    have H3v : Hid (PBox Vd (w.heap.size + 1 + 1) (none, none)) := (hbd.block _ (Array.getElem?_eq_some_iff.1 H3.out).1).trans H3.out
    have H4v : Hid (Boxed Vd (w.heap.size + 1 + 1 + 1) 4 (.bool false)) := (hbd.block _ H4.out.lt).trans H4.out
    have HBd := Lib.hid (HBV.out.trans (hbd.mono HBV.out.size))
    have HKd := Lib.hid (keeps_below hbd)
    clear hbd
    refine wp_region_T (S := (fun V' => PBox V' V.heap.size (none, none))) [2, 3] (by kernel_rfl) (by first | exact (hVd ▸ HXv.out) | exact HX6.out) (fun hHeld => ?_)
    rw [hVd]
    refine wpAnyT_take (i := 0) (oi := ⟨some 14, _, _, _, _, _⟩) (v := _) rfl (by kernel_rfl) (by kernel_rfl) (by kernel_rfl) (by kernel_rfl) (fun _ _ _ h => h) (yieldsIf_load_row (by rfl) 117 _ rfl V.heap.size rfl (plc (none, none)) 117 (0, 0) _ (fun w hw => hw) Tryd.underlying117 rfl (by exact pl_size)) (by assumption) ?_
    (try simp only [Act.put, List.setIfInBounds_toArray, List.set_cons_zero, List.set_cons_succ])
    refine wpAnyT_one (i := 1) (o := ⟨none, _, _, _, _, _⟩) (by kernel_rfl) rfl (fun K hK => ?_)
    rw [if_pos (by rfl)]
    refine st_box_wp 3 _ _ rfl (w.heap.size + 1) (.int .i64 0) rfl rfl rfl 3 _ H2v.out int_sz ?_
    intro w6 h6 k6
    have G1 := Lib.hid h6
    have G2 := Lib.hid (row_only (V := Vd) H3v.out k6 (by omega))
    have G3 : Hid (Boxed w6 (w.heap.size + 1 + 1 + 1) 4 (.bool false)) := row_only (V := Vd) H4v.out k6 (by omega)
    have HX6 := Lib.hid (row_only (V := Vd) HXv.out k6 (by have := HVL.out; omega))
    have HB6 := Lib.hid (HBd.out.trans (k6.below (B := w.heap.size) (by omega)))
    have HK6 := Lib.hid (HKd.out.trans (only_keeps (A := Vd) k6 H2v.out))
    clear h6 k6
    refine hK.out _ _ (by first | exact (hVd ▸ HXv.out) | exact HX6.out) (fun hHeld => ?_)
    clear hK K
    (try simp only [Act.put, List.setIfInBounds_toArray, List.set_cons_zero, List.set_cons_succ])
    refine wpAnyT_last (i := 2) (o := ⟨none, _, _, _, _, _⟩) (by kernel_rfl) (by decide) rfl (fun K hK => ?_)
    rw [if_pos (by rfl)]
    refine st_agg_wp 117 _ _ rfl (w.heap.size + 1 + 1) (plc (none, none)) rfl rfl 117 _ G2.out pl_size rfl (plc_one (none, none)) ?_
    intro w7 h7 k7
    have G4 := Lib.hid h7
    have G5 : Hid (Boxed w7 (w.heap.size + 1) 3 (.int .i64 0)) := row_only G1.out k7 (by omega)
    have G6 : Hid (Boxed w7 (w.heap.size + 1 + 1 + 1) 4 (.bool false)) := row_only G3.out k7 (by omega)
    have HB7 := Lib.hid (HB6.out.trans (k7.below (B := w.heap.size) (by omega)))
    have HK7 := Lib.hid (HK6.out.trans (only_keeps k7 G2.out))
    clear h7 k7
    refine hK.out _ _ ?_
    clear hK K
    (try simp only [Act.put, List.setIfInBounds_toArray, List.set_cons_zero, List.set_cons_succ])
    refine wpAnyT_last (i := 3) (o := ⟨none, _, _, _, _, _⟩) (by kernel_rfl) (by decide) rfl (fun K hK => ?_)
    rw [if_pos (by rfl)]
    refine st_box_wp 4 _ _ rfl (w.heap.size + 1 + 1 + 1) (.bool false) rfl rfl rfl 4 _ G6.out bool_sz ?_
    intro w8 h8 k8
    refine hK.out _ _ ?_
    clear hK K
    (try simp only [Act.put, List.setIfInBounds_toArray, List.set_cons_zero, List.set_cons_succ])
    refine wpAnyT_done (by kernel_rfl) ?_ _
    refine NoPanic.normal ?_
    gi_wp2
    have hK' := (HK7.out.trans (only_keeps k8 G6.out)).same D _ HKD.out rfl
    have q2 := bx_kept (row_only G5.out k8 (by omega)) (grownBy_putObj' _ D (.deferred none)) (fun r e => by cases e; exact ⟨_, hK', rfl⟩)
    have q3 := row_kept (row_only G4.out k8 (by omega)) (grownBy_putObj' _ D (.deferred none)) (fun r e => by cases e; exact ⟨_, hK', rfl⟩)
    have q4 := bx_kept h8 (grownBy_putObj' _ D (.deferred none)) (fun r e => by cases e; exact ⟨_, hK', rfl⟩)
    have hf : firstG R = (0, (none, none), false) := by unfold firstG; rw [hne]
    refine ⟨by simp, .inl ⟨_, _, rfl, run_takeDeferred hK', ?_⟩⟩
    refine ⟨.tuple #[.int .i64 0, .agg (plc (none, none)), .bool false], first_results _ _ _ _ _ _ _ _ rfl rfl rfl q2 q3 q4, by rw [hf], (HB7.out.trans (k8.below (B := w.heap.size) (by omega))).trans (belowK_b (w := w) (Nat.le_refl _) _ D _ _ (by have := HDD.out; omega) hK' rfl rfl)⟩
  case stop =>
    rintro D k pre V hD ⟨m, hm, rfl⟩ ⟨⟨rfl, x, e1, e2, e3, e4⟩, hB⟩ hK
    gi_wp2
    have q2 := bx_kept e2 (grownBy_putObj' _ D (.deferred none)) (fun r e => by cases e; exact ⟨_, hK, rfl⟩)
    have q3 := row_kept e3 (grownBy_putObj' _ D (.deferred none)) (fun r e => by cases e; exact ⟨_, hK, rfl⟩)
    have q4 := bx_kept e4 (grownBy_putObj' _ D (.deferred none)) (fun r e => by cases e; exact ⟨_, hK, rfl⟩)
    have hf : firstG R = ((x.1 : Int), x.2, true) := by
      unfold firstG
      cases hr : allG R with
      | nil => rw [hr] at e1; simp at e1
      | cons p t =>
        rw [hr] at e1
        cases m with
        | zero => simp at e1
        | succ m =>
          rw [List.take_succ_cons] at e1
          obtain rfl : p = x := (List.cons.inj e1).1
          rfl
    refine ⟨by simp, .inl ⟨_, _, rfl, run_takeDeferred hK, ?_⟩⟩
    refine ⟨.tuple #[.int .i64 (x.1 : Int), .agg (plc x.2), .bool true], first_results _ _ _ _ _ _ _ _ rfl rfl rfl q2 q3 q4, by rw [hf], hB.trans (belowK_b (w := w) (Nat.le_refl _) _ D _ _ (by omega) hK rfl rfl)⟩
end Go.Proofs.YtnnlfgfgfegjkaaDoor
