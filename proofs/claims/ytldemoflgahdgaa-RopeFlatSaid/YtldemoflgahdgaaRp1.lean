/- Package rope: what it leans on of Go's library (slices.Grow, slices.Concat, slices.Clone); with. (written by tools/gen08/lib8.py) -/
import Derived.Test.YtldemoflgahdgaaEls
import Derived.Test.YtldemoflgahdgaaSlNil
import Derived.Lib.AppendZerosOnto
import Derived.Handy
import Derived.Deep.QuietTactic
import Derived.BigQuiet
import Derived.Deep.Cut
import Derived.Lib.MinMax
namespace Go.Proofs.Ytldemoflgahdgaa
open Go.RowKit
set_option maxRecDepth 1000000
set_option linter.unusedSimpArgs false

/-- An append whose run is known. -/
theorem wpList_append_known {P : Program} {ops : Array Oper} {rest : List Oper} {o : Oper} {a : Act} {Q : Exit → Act → World → Prop} {w w' : World} (hgd : o.guard = none) (p x : Operand) (t t' : TypeId)
    (ho : o.op = .call { callee := .builtin .append, args := #[p, x], argTypes := #[t, t'] }) {vp vx v' : Value} (hp : a.eval p = vp) (hx : a.eval x = vx)
    (hr : ∀ ty, (Builtin.append_ #[t, t'] ty #[vp, vx]).run P w = .ok v' w') (h : wpList P ops Q rest (a.put o.dst v') w') : wpList P ops Q (o :: rest) a w := by
  refine wpList_plain hgd fun K hK => ?_
  unfold Oper.wp execOp
  simp only [ho, resolve, invoke, builtin, Sem.run_bind, Sem.run_pure, Result.andThen_ok, List.map_toArray, List.map_cons, List.map_nil, hp, hx, hr]
  exact hK _ _ h
theorem rnode_info : (Try.prog.info? 33).map (fun i => (i.zero, i.size, i.bytes)) = some (some (.agg #[.int .i64 0, .int .i64 0, .slice none 0 0, .slice none 0 0]), 4, 64) := by kernel_rfl
theorem rnode_size : (Try.prog.info? 33).map (·.size) = some 4 := by kernel_rfl
theorem below_of_grown {B : Nat} {w w' : World} {row : Option Nat} (hg : w.grownBy w' row) (hB : B ≤ w.heap.size) (hr : ∀ k, row = some k → B ≤ k) : Below B w w' := (Below.refl B w).grown hg hB (fun k e => hr k e)

set_option maxHeartbeats 1000000 in
theorem gr_int (n : Nat) (hn : n ≤ 200000) (w : World) : Calls Try.prog 57 #[.slice none 0 0, .int .i64 (n : Int)] w fun e w' => ∃ v, e = .returned v ∧ w'.ownsRow w.heap.size 3 1 v 0 [] ∧ Below w.heap.size w w' := by
  by_cases h0 : n = 0
  · subst h0
    go_enter Try.func57, Try.ntmps57
    go_wp2
    go_ret
    exact ⟨_, rfl, World.ownsRow_nil _ _ _ _, Below.refl _ _⟩
  · obtain ⟨i, hi, hz, h1, h2⟩ := info_parts int_info
    have hrun : ∀ ty, (Builtin.append_ #[31, 3] ty #[.slice none 0 0, .int .i64 (n : Int)]).run Try.prog w = .ok (.slice (some ⟨w.heap.size, 0, none⟩) n (grownCap w n 0 3)) (w.drew.alloc (.cells (Builtin.zeroCells (.int .i64 0 : Value).cells n ++ Builtin.zeroCells (.int .i64 0 : Value).cells (grownCap w n 0 3 - n)) 3)) := fun ty => by
      have h := Lib.run_append_grow_zeros (P := Try.prog) w 31 3 ty 3 i (.int .i64 0) .i64 .i64 Try.underlying31 Try.underlying3 hi hz none 0 0 [] (run_firstCells_none w.drew i.size 0 0 0) n (by omega) (by omega) (by omega) (by omega) (by rw [h2]; omega)
        (by rw [Nat.zero_add, h2]; exact growslice_fits (by omega) (by omega))
      simpa using h
    have hG1 := grownCap_ge w n 0 3
    have hG2 := grownCap_le_maxLen w n 0 3 (by unfold maxLen; omega)
    obtain ⟨G, hG⟩ : ∃ G, G = grownCap w n 0 3 := ⟨_, rfl⟩
    rw [← hG] at hrun hG1 hG2
    have hG3 : (G : Int) ≤ 9223372036854775807 := by unfold maxLen at hG2; omega
    have hn3 : (n : Int) ≤ 200000 := by omega
    have hn0 : (0 : Int) < n := by omega
    have HRUN := Lib.hid hrun
    have HG1 := Lib.hid hG1
    have HG2 := Lib.hid hG2
    have HN := Lib.hid hn
    clear hrun hG1 hG2 h0 hG hn
    go_enter Try.func57, Try.ntmps57
    go_wp2_with (refine wpList_append_known rfl _ _ _ _ rfl rfl rfl HRUN.out ?_)
    go_ret
    refine ⟨_, rfl, World.ownsRow_made w.drew _ G (Nat.le_refl _) HG2.out ?_, Below.more (drawn_below w) _⟩
    have := HG1.out
    rw [Array.size_append, size_zeroCells, size_zeroCells]
    show n * 1 + (G - n) * 1 = G * 1
    omega
set_option maxHeartbeats 4000000 in
theorem cc_int {α : Type} {enc : α → List Value} (hone : ∀ x, ∀ u ∈ enc x, u.oneCell' = true) (w : World) {S : Nat → Prop} (B : Nat) (ls : List (Value × List α))
    (hcells : ∀ k (hk : k < ls.length), w.cell? ⟨B, k, none⟩ = some ls[k].1) (hcut : ∀ p ∈ ls, CutAt S w 1 p.1 (en enc p.2) p.2.length) (hN : (catE ls ls.length).length ≤ 100000) (hl : ls.length ≤ 1000) :
    Calls Try.prog 52 #[.slice (some ⟨B, 0, none⟩) ls.length ls.length] w fun e w' => ∃ v, e = .returned v ∧ CutAt (fun g => w.heap.size ≤ g) w' 1 v (en enc (catE ls ls.length)) (catE ls ls.length).length ∧ Below w.heap.size w w' := by
  obtain ⟨i, hi, hz, h1, h2⟩ := info_parts int_info
  have HS := Lib.hid hcut
  have HC := Lib.hid hcells
  have HN := Lib.hid hN
  have HI := Lib.hid (And.intro hi (And.intro hz (And.intro h1 h2)))
  clear hcut hcells hi hz h1 h2 hN
  go_enter Try.func52, Try.ntmps52
  go_wp2_with fail
  go_loopw [3, 11] (fun n i wr => ∃ k : Nat, k ≤ ls.length ∧ i = .int .i64 k ∧ n = .int .i64 ((catE ls k).length : Nat) ∧ w = wr) (fun _ i _ => ls.length - (intOf i).toNat)
  case atStart => exact ⟨0, Nat.zero_le _, rfl, rfl, rfl⟩
  case round =>
    obtain ⟨k, hk, rfl, rfl, rfl⟩ := hrel
    by_cases hlt : k < ls.length
    · have hc := HC.out k hlt
      obtain ⟨a, cap, ha, _⟩ := HS.out _ (List.getElem_mem hlt)
      have hle := catE_le (ls := ls) (k + 1) hlt (Nat.le_refl _)
      have hle' : ((catE ls (k + 1)).length : Int) ≤ 100000 := by have := HN.out; omega
      have hs := catE_succ hlt
      have hsl : ((catE ls (k + 1)).length : Int) = (catE ls k).length + ls[k].2.length := by rw [hs, List.length_append]; omega
      rw [hsl] at hle'
      have HSL := Lib.hid hsl
      rw [ha] at hc
      have hp0 : ¬ (((catE ls k).length : Int) + (ls[k].2.length : Int) < 0) := by omega
      clear hs hsl hle
      go_wp2_with fail
      go_roundw
      case rel => exact ⟨k + 1, by omega, by simp, by rw [HSL.out], trivial⟩
      case measure => simp [intOf]; omega
    · obtain rfl : k = ls.length := by omega
      obtain ⟨N, hN⟩ : ∃ N, N = (catE ls ls.length).length := ⟨_, rfl⟩
      have HGR := Lib.hid (gr_int N (by have := HN.out; omega) w)
      have HNN := Lib.hid hN
      rw [← hN]
      clear hN
      go_wp2_with (go_at_call 57; refine HGR.out.mono ?_; rintro e w1 ⟨v1, rfl, ho1, hb1⟩; have HO1 := Lib.hid ho1; have HB1 := Lib.hid hb1; clear ho1 hb1)
      go_loopw [6, 27] (fun nv i wr => ∃ k : Nat, k ≤ ls.length ∧ i = .int .i64 k ∧ Hid (wr.ownsRow w.heap.size 3 1 nv (catE ls k).length (en enc (catE ls k))) ∧ Hid (Below w.heap.size w wr)) (fun _ i _ => ls.length - (intOf i).toNat)
      case atStart => exact ⟨0, Nat.zero_le _, rfl, HO1, HB1⟩
      case round =>
        clear HO1 HB1
        obtain ⟨k, hk, rfl, HO, HB⟩ := hrel
        by_cases hlt : k < ls.length
        · have hc := (HB.out.cell (p := ⟨B, k, none⟩) (World.block_lt_of_cell? _ _ (HC.out k hlt))).trans (HC.out k hlt)
          have HCUT := Lib.hid ((HS.out _ (List.getElem_mem hlt)).later HB.out)
          have hle := catE_le (ls := ls) (k + 1) hlt (Nat.le_refl _)
          have HS2 := Lib.hid (catE_succ hlt)
          have HLE : Hid ((catE ls k).length + ls[k].2.length ≤ 100000) := by show _ ≤ _; rw [HS2.out, List.length_append] at hle; have := HN.out; omega
          clear hle
          go_wp2_with (refine wpList_append_cut rfl _ _ 31 rfl w.heap.size 3 i (.int .i64 0) 8 Try.underlying31 HI.out.1 HI.out.2.1 HI.out.2.2.1 HI.out.2.2.2 rfl (by decide) rfl HO.out rfl HCUT.out (en_one hone _) (by have := HLE.out; unfold maxLen; omega) (by have := HLE.out; omega) HB.out.size ?_; intro v2 w2 ho2 hg2; have HO2 := Lib.hid ho2; have HB2 := Lib.hid (HB.out.trans (below_of_grown hg2 HB.out.size (ownsRow_low HO.out))); clear ho2 hg2)
          go_roundw
          case rel => exact ⟨k + 1, by omega, by simp, by rw [HS2.out, List.length_append, en_app]; exact HO2, HB2⟩
          case measure => simp [intOf]; omega
        · obtain rfl : k = ls.length := by omega
          go_wp2_with fail
          go_ret
          exact ⟨_, rfl, by rw [HNN.out]; exact ownsRow_cut HO.out, HB.out⟩
set_option maxHeartbeats 1000000 in
theorem cl_int (w : World) {S : Nat → Prop} {v : Value} {cs : List Value} {n : Nat} (hv : HeadAt S w 3 1 v cs n) (h0 : 0 < n) (hone : ∀ u ∈ cs, u.oneCell' = true) (hn : n ≤ 4096) :
    Calls Try.prog 58 #[v] w fun e w' => ∃ g c, e = .returned (.slice (some ⟨g, 0, none⟩) n c) ∧ n ≤ c ∧ w.heap.size ≤ g ∧ ∃ cur, w'.heap[g]? = some (.cells cur 3 (0, 0)) ∧ c * 1 = cur.size ∧ (∀ (j : Nat) (u : Value), cs[j]? = some u → cur[j]? = some u) ∧ Below w.heap.size w w' := by
  obtain ⟨i, hi, hz, h1, h2⟩ := info_parts int_info
  have HV := Lib.hid hv
  have HL := Lib.hid hv.1
  have HI := Lib.hid (And.intro hi (And.intro hz (And.intro h1 h2)))
  obtain ⟨g, c, cur, fr, rfl, hc, hS, hg, hcs⟩ := hv.pos h0
  have HN := Lib.hid hn
  have H0 := Lib.hid h0
  have HONE := Lib.hid hone
  clear hv hi hz h1 h2 hc hS hg hcs hn h0 hone
  have hnil := fun w => ints_some ⟨g, 0, none⟩ n c w
  go_enter Try.func58, Try.ntmps58
  go_wp2_with (refine wpList_append_cut rfl _ _ 31 rfl w.heap.size 3 i (.int .i64 0) 8 Try.underlying31 HI.out.1 HI.out.2.1 HI.out.2.2.1 HI.out.2.2.2 rfl (by decide) rfl (World.ownsRow_lit (base := w.heap.size) (e := 3) (size := 1) w #[] 0 (Nat.le_refl _) (by unfold maxLen; omega) rfl) rfl (HV.out.cut.later (Below.newly' _ _)) HONE.out (by have := HN.out; unfold maxLen; omega) (by have := HN.out; omega) (by simp) ?_; intro v2 w2 ho2 hg2; have HO2 := Lib.hid ho2; have HG2 := Lib.hid hg2; clear ho2 hg2)
  go_ret
  obtain ⟨hl, ⟨e, h3⟩ | ⟨g2, c2, cur2, e, hb, hg, hc, h3, h4, h5⟩⟩ := HO2.out
  · have := H0.out; omega
  · rw [Nat.zero_add] at e hc h5
    refine ⟨g2, c2, by rw [← e]; rfl, hc, hb, cur2, hg, by omega, fun j u hu => ?_, (Below.newly' w _).trans (below_of_grown HG2.out (by simp) (fun k e => by have e' : some w.heap.size = some k := e; have := Option.some.inj e'; omega))⟩
    rw [List.nil_append] at h5
    have hj := (List.getElem?_eq_some_iff.1 hu).1
    rw [HL.out] at hj
    rw [← h5, List.getElem?_take_of_lt hj, Array.getElem?_toList] at hu
    exact hu

set_option maxHeartbeats 1000000 in
theorem gr_node (n : Nat) (hn : n ≤ 200000) (w : World) : Calls Try.prog 60 #[.slice none 0 0, .int .i64 (n : Int)] w fun e w' => ∃ v, e = .returned v ∧ w'.ownsRow w.heap.size 33 4 v 0 [] ∧ Below w.heap.size w w' := by
  by_cases h0 : n = 0
  · subst h0
    go_enter Try.func60, Try.ntmps60
    go_wp2
    go_ret
    exact ⟨_, rfl, World.ownsRow_nil _ _ _ _, Below.refl _ _⟩
  · obtain ⟨i, hi, hz, h1, h2⟩ := info_parts rnode_info
    have hrun : ∀ ty, (Builtin.append_ #[30, 3] ty #[.slice none 0 0, .int .i64 (n : Int)]).run Try.prog w = .ok (.slice (some ⟨w.heap.size, 0, none⟩) n (grownCap w n 0 33)) (w.drew.alloc (.cells (Builtin.zeroCells (.agg #[.int .i64 0, .int .i64 0, .slice none 0 0, .slice none 0 0] : Value).cells n ++ Builtin.zeroCells (.agg #[.int .i64 0, .int .i64 0, .slice none 0 0, .slice none 0 0] : Value).cells (grownCap w n 0 33 - n)) 33)) := fun ty => by
      have h := Lib.run_append_grow_zeros (P := Try.prog) w 30 3 ty 33 i (.agg #[.int .i64 0, .int .i64 0, .slice none 0 0, .slice none 0 0]) .i64 .i64 Try.underlying30 Try.underlying3 hi hz none 0 0 [] (run_firstCells_none w.drew i.size 0 0 0) n (by omega) (by omega) (by omega) (by omega) (by rw [h2]; omega)
        (by rw [Nat.zero_add, h2]; exact growslice_fits (by omega) (by omega))
      simpa using h
    have hG1 := grownCap_ge w n 0 33
    have hG2 := grownCap_le_maxLen w n 0 33 (by unfold maxLen; omega)
    obtain ⟨G, hG⟩ : ∃ G, G = grownCap w n 0 33 := ⟨_, rfl⟩
    rw [← hG] at hrun hG1 hG2
    have hG3 : (G : Int) ≤ 9223372036854775807 := by unfold maxLen at hG2; omega
    have hn3 : (n : Int) ≤ 200000 := by omega
    have hn0 : (0 : Int) < n := by omega
    have HRUN := Lib.hid hrun
    have HG1 := Lib.hid hG1
    have HG2 := Lib.hid hG2
    have HN := Lib.hid hn
    clear hrun hG1 hG2 h0 hG hn
    go_enter Try.func60, Try.ntmps60
    go_wp2_with (refine wpList_append_known rfl _ _ _ _ rfl rfl rfl HRUN.out ?_)
    go_ret
    refine ⟨_, rfl, World.ownsRow_made w.drew _ G (Nat.le_refl _) HG2.out ?_, Below.more (drawn_below w) _⟩
    have := HG1.out
    rw [Array.size_append, size_zeroCells, size_zeroCells]
    show n * 4 + (G - n) * 4 = G * 4
    omega
set_option maxHeartbeats 4000000 in
theorem cc_node {α : Type} {enc : α → List Value} (hone : ∀ x, ∀ u ∈ enc x, u.oneCell' = true) (w : World) {S : Nat → Prop} (B : Nat) (ls : List (Value × List α))
    (hcells : ∀ k (hk : k < ls.length), w.cell? ⟨B, k, none⟩ = some ls[k].1) (hcut : ∀ p ∈ ls, CutAt S w 4 p.1 (en enc p.2) p.2.length) (hN : (catE ls ls.length).length ≤ 100000) (hl : ls.length ≤ 1000) :
    Calls Try.prog 56 #[.slice (some ⟨B, 0, none⟩) ls.length ls.length] w fun e w' => ∃ v, e = .returned v ∧ CutAt (fun g => w.heap.size ≤ g) w' 4 v (en enc (catE ls ls.length)) (catE ls ls.length).length ∧ Below w.heap.size w w' := by
  obtain ⟨i, hi, hz, h1, h2⟩ := info_parts rnode_info
  have HS := Lib.hid hcut
  have HC := Lib.hid hcells
  have HN := Lib.hid hN
  have HI := Lib.hid (And.intro hi (And.intro hz (And.intro h1 h2)))
  clear hcut hcells hi hz h1 h2 hN
  go_enter Try.func56, Try.ntmps56
  go_wp2_with fail
  go_loopw [3, 11] (fun n i wr => ∃ k : Nat, k ≤ ls.length ∧ i = .int .i64 k ∧ n = .int .i64 ((catE ls k).length : Nat) ∧ w = wr) (fun _ i _ => ls.length - (intOf i).toNat)
  case atStart => exact ⟨0, Nat.zero_le _, rfl, rfl, rfl⟩
  case round =>
    obtain ⟨k, hk, rfl, rfl, rfl⟩ := hrel
    by_cases hlt : k < ls.length
    · have hc := HC.out k hlt
      obtain ⟨a, cap, ha, _⟩ := HS.out _ (List.getElem_mem hlt)
      have hle := catE_le (ls := ls) (k + 1) hlt (Nat.le_refl _)
      have hle' : ((catE ls (k + 1)).length : Int) ≤ 100000 := by have := HN.out; omega
      have hs := catE_succ hlt
      have hsl : ((catE ls (k + 1)).length : Int) = (catE ls k).length + ls[k].2.length := by rw [hs, List.length_append]; omega
      rw [hsl] at hle'
      have HSL := Lib.hid hsl
      rw [ha] at hc
      have hp0 : ¬ (((catE ls k).length : Int) + (ls[k].2.length : Int) < 0) := by omega
      clear hs hsl hle
      go_wp2_with fail
      go_roundw
      case rel => exact ⟨k + 1, by omega, by simp, by rw [HSL.out], trivial⟩
      case measure => simp [intOf]; omega
    · obtain rfl : k = ls.length := by omega
      obtain ⟨N, hN⟩ : ∃ N, N = (catE ls ls.length).length := ⟨_, rfl⟩
      have HGR := Lib.hid (gr_node N (by have := HN.out; omega) w)
      have HNN := Lib.hid hN
      rw [← hN]
      clear hN
      go_wp2_with (go_at_call 60; refine HGR.out.mono ?_; rintro e w1 ⟨v1, rfl, ho1, hb1⟩; have HO1 := Lib.hid ho1; have HB1 := Lib.hid hb1; clear ho1 hb1)
      go_loopw [6, 27] (fun nv i wr => ∃ k : Nat, k ≤ ls.length ∧ i = .int .i64 k ∧ Hid (wr.ownsRow w.heap.size 33 4 nv (catE ls k).length (en enc (catE ls k))) ∧ Hid (Below w.heap.size w wr)) (fun _ i _ => ls.length - (intOf i).toNat)
      case atStart => exact ⟨0, Nat.zero_le _, rfl, HO1, HB1⟩
      case round =>
        clear HO1 HB1
        obtain ⟨k, hk, rfl, HO, HB⟩ := hrel
        by_cases hlt : k < ls.length
        · have hc := (HB.out.cell (p := ⟨B, k, none⟩) (World.block_lt_of_cell? _ _ (HC.out k hlt))).trans (HC.out k hlt)
          have HCUT := Lib.hid ((HS.out _ (List.getElem_mem hlt)).later HB.out)
          have hle := catE_le (ls := ls) (k + 1) hlt (Nat.le_refl _)
          have HS2 := Lib.hid (catE_succ hlt)
          have HLE : Hid ((catE ls k).length + ls[k].2.length ≤ 100000) := by show _ ≤ _; rw [HS2.out, List.length_append] at hle; have := HN.out; omega
          clear hle
          go_wp2_with (refine wpList_append_cut rfl _ _ 30 rfl w.heap.size 33 i (.agg #[.int .i64 0, .int .i64 0, .slice none 0 0, .slice none 0 0]) 64 Try.underlying30 HI.out.1 HI.out.2.1 HI.out.2.2.1 HI.out.2.2.2 rfl (by decide) rfl HO.out rfl HCUT.out (en_one hone _) (by have := HLE.out; unfold maxLen; omega) (by have := HLE.out; omega) HB.out.size ?_; intro v2 w2 ho2 hg2; have HO2 := Lib.hid ho2; have HB2 := Lib.hid (HB.out.trans (below_of_grown hg2 HB.out.size (ownsRow_low HO.out))); clear ho2 hg2)
          go_roundw
          case rel => exact ⟨k + 1, by omega, by simp, by rw [HS2.out, List.length_append, en_app]; exact HO2, HB2⟩
          case measure => simp [intOf]; omega
        · obtain rfl : k = ls.length := by omega
          go_wp2_with fail
          go_ret
          exact ⟨_, rfl, by rw [HNN.out]; exact ownsRow_cut HO.out, HB.out⟩
set_option maxHeartbeats 1000000 in
theorem cl_node (w : World) {S : Nat → Prop} {v : Value} {cs : List Value} {n : Nat} (hv : HeadAt S w 33 4 v cs n) (h0 : 0 < n) (hone : ∀ u ∈ cs, u.oneCell' = true) (hn : n ≤ 4096) :
    Calls Try.prog 59 #[v] w fun e w' => ∃ g c, e = .returned (.slice (some ⟨g, 0, none⟩) n c) ∧ n ≤ c ∧ w.heap.size ≤ g ∧ ∃ cur, w'.heap[g]? = some (.cells cur 33 (0, 0)) ∧ c * 4 = cur.size ∧ (∀ (j : Nat) (u : Value), cs[j]? = some u → cur[j]? = some u) ∧ Below w.heap.size w w' := by
  obtain ⟨i, hi, hz, h1, h2⟩ := info_parts rnode_info
  have HV := Lib.hid hv
  have HL := Lib.hid hv.1
  have HI := Lib.hid (And.intro hi (And.intro hz (And.intro h1 h2)))
  obtain ⟨g, c, cur, fr, rfl, hc, hS, hg, hcs⟩ := hv.pos h0
  have HN := Lib.hid hn
  have H0 := Lib.hid h0
  have HONE := Lib.hid hone
  clear hv hi hz h1 h2 hc hS hg hcs hn h0 hone
  have hnil := fun w => nodes_some ⟨g, 0, none⟩ n c w
  go_enter Try.func59, Try.ntmps59
  go_wp2_with (refine wpList_append_cut rfl _ _ 30 rfl w.heap.size 33 i (.agg #[.int .i64 0, .int .i64 0, .slice none 0 0, .slice none 0 0]) 64 Try.underlying30 HI.out.1 HI.out.2.1 HI.out.2.2.1 HI.out.2.2.2 rfl (by decide) rfl (World.ownsRow_lit (base := w.heap.size) (e := 33) (size := 4) w #[] 0 (Nat.le_refl _) (by unfold maxLen; omega) rfl) rfl (HV.out.cut.later (Below.newly' _ _)) HONE.out (by have := HN.out; unfold maxLen; omega) (by have := HN.out; omega) (by simp) ?_; intro v2 w2 ho2 hg2; have HO2 := Lib.hid ho2; have HG2 := Lib.hid hg2; clear ho2 hg2)
  go_ret
  obtain ⟨hl, ⟨e, h3⟩ | ⟨g2, c2, cur2, e, hb, hg, hc, h3, h4, h5⟩⟩ := HO2.out
  · have := H0.out; omega
  · rw [Nat.zero_add] at e hc h5
    refine ⟨g2, c2, by rw [← e]; rfl, hc, hb, cur2, hg, by omega, fun j u hu => ?_, (Below.newly' w _).trans (below_of_grown HG2.out (by simp) (fun k e => by have e' : some w.heap.size = some k := e; have := Option.some.inj e'; omega))⟩
    rw [List.nil_append] at h5
    have hj := (List.getElem?_eq_some_iff.1 hu).1
    rw [HL.out] at hj
    rw [← h5, List.getElem?_take_of_lt hj, Array.getElem?_toList] at hu
    exact hu

set_option maxHeartbeats 1000000 in
theorem wi_int (w : World) {S : Nat → Prop} {v : Value} {l : List Int} {n i : Nat} (x : Int) (hv : HeadAt S w 3 1 v (iv l) n) (hi : i < n) (hn : n ≤ 4096) :
    Calls Try.prog 53 #[v, .int .i64 (i : Int), .int .i64 x] w fun e w' => ∃ v', e = .returned v' ∧ HeadAt (fun g => w.heap.size ≤ g) w' 3 1 v' (iv (l.set i x)) n ∧ Below w.heap.size w w' := by
  have HCL := Lib.hid (cl_int w hv (by omega) iv_one hn)
  have HL : Hid (l.length = n) := (by show _ = _; have := hv.1; rw [iv_len] at this; omega)
  have HI := Lib.hid hi
  have hi' : (i : Int) < n := by omega
  have hn' : (n : Int) ≤ 4096 := by omega
  obtain ⟨a, c, rfl, _⟩ := hv.shape
  clear hv hi hn
  go_enter Try.func53, Try.ntmps53
  go_wp2_with (first
    | (go_at_call 58; refine HCL.out.mono ?_; rintro e w1 ⟨g1, c1, rfl, hc1, hB1, cur1, hg1, hs1, hcs1, hb1⟩; have HC1 := Lib.hid hc1; have HG1 := Lib.hid hg1; have HS1 := Lib.hid hs1; have HCS1 := Lib.hid hcs1; have HB1 := Lib.hid hb1; have HBG := Lib.hid hB1; clear hc1 hB1 hg1 hs1 hcs1 hb1)
    | (refine st_cell rfl 3 _ _ rfl g1 i (.int .i64 x) rfl rfl rfl 3 cur1 HG1.out int_size (by have := HS1.out; have := HC1.out; have := HI.out; omega) ?_; intro w3 h3 k3; have HG3 := Lib.hid h3; have HK3 := Lib.hid k3; clear h3 k3))
  go_ret
  have hi := HI.out
  have hL := HL.out
  refine ⟨_, rfl, ⟨by rw [iv_len, List.length_set]; omega, .inr ⟨by omega, g1, c1, _, (0, 0), rfl, HC1.out, HBG.out, HG3.out, fun j u hu => ?_⟩⟩, HB1.out.trans (HK3.out.below HBG.out)⟩
  have hj := (List.getElem?_eq_some_iff.1 hu).1
  rw [iv_len, List.length_set] at hj
  have hc := HCS1.out
  rw [iv, List.getElem?_map, List.getElem?_set] at hu
  rw [Array.getElem?_setIfInBounds]
  by_cases e : i = j
  · subst e
    rw [if_pos rfl, if_pos hj] at hu
    rw [if_pos rfl, if_pos (by have := HS1.out; have := HC1.out; omega)]
    exact hu
  · rw [if_neg e] at hu
    rw [if_neg e]
    exact hc j u (by rw [iv, List.getElem?_map]; exact hu)

set_option maxHeartbeats 1000000 in
theorem wi_node {α : Type} {enc : α → List Value} (henc : ∀ x, (enc x).length = 4) (hone : ∀ x, ∀ u ∈ enc x, u.oneCell' = true) (w : World) {S : Nat → Prop} {v : Value} {xs : List α} {n i : Nat} (x : α) (hv : HeadAt S w 33 4 v (en enc xs) n) (hi : i < n) (hn : n ≤ 4096) (cx : Array Value) (hcx : cx.toList = enc x) :
    Calls Try.prog 54 #[v, .int .i64 (i : Int), .agg cx] w fun e w' => ∃ v', e = .returned v' ∧ HeadAt (fun g => w.heap.size ≤ g) w' 33 4 v' (en enc (xs.set i x)) n ∧ Below w.heap.size w w' := by
  obtain ⟨w0, hw0⟩ : ∃ w0, w.alloc (.cells cx 33) = w0 := ⟨_, rfl⟩
  have hb0 : Below w.heap.size w w0 := by rw [← hw0]; exact Below.newly' _ _
  have hx0 : w0.heap[w.heap.size]? = some (.cells cx 33 (0, 0)) := by rw [← hw0]; exact heap_alloc_last _ _
  have hs0 : w0.heap.size = w.heap.size + 1 := by rw [← hw0]; simp
  have hsz : cx.size = 4 := by rw [← Array.length_toList, hcx, henc]
  have hall : cx.all (·.oneCell') = true := by
    rw [Array.all_eq_true_iff_forall_mem]
    intro u hu
    exact hone x u (by rw [← hcx]; simpa using hu)
  have HCL := Lib.hid (cl_node w0 (hv.later hb0) (by omega) (en_one hone xs) hn)
  have HL : Hid (xs.length = n) := (by show _ = _; have := hv.1; rw [en_len henc] at this; omega)
  have HI := Lib.hid hi
  have hi' : (i : Int) < n := by omega
  have hn' : (n : Int) ≤ 4096 := by omega
  have HX0 := Lib.hid hx0
  have HB0 := Lib.hid hb0
  have HS0 := Lib.hid hs0
  have HSZ := Lib.hid hsz
  have HALL := Lib.hid hall
  have HCX := Lib.hid hcx
  obtain ⟨a, c, rfl, _⟩ := hv.shape
  clear hv hi hn hb0 hx0 hs0 hsz hall hcx
  go_enter Try.func54, Try.ntmps54
  go_upto_region 1 with fail
  clear hw0
  go_wp2_with (first
    | (go_at_call 59; refine HCL.out.mono ?_; rintro e w1 ⟨g1, c1, rfl, hc1, hB1, cur1, hg1, hs1, hcs1, hb1⟩; have HC1 := Lib.hid hc1; have HG1 := Lib.hid hg1; have HS1 := Lib.hid hs1; have HCS1 := Lib.hid hcs1; have HX1 := Lib.hid ((hb1.block _ (by have := HS0.out; omega)).trans HX0.out); have HB1 := Lib.hid hb1; have HBG := Lib.hid hB1; clear hc1 hB1 hg1 hs1 hcs1 hb1)
    | (refine ld_if rfl 33 _ rfl w.heap.size rfl 33 _ _ _ HX1.out Try.underlying33 rfl (by rw [HSZ.out]; exact rnode_size) ?_)
    | (refine wpList_store_s rfl 33 _ _ rfl g1 (i * 4) rfl cx rfl 33 cur1 HG1.out (by rw [HSZ.out]; exact rnode_size) (by rw [HSZ.out]; have := HS1.out; have := HC1.out; have := HI.out; omega) HALL.out ?_; intro w3 c3 h3 hs3 hc3 k3; have HG3 := Lib.hid h3; have HC3 := Lib.hid hc3; have HK3 := Lib.hid k3; clear h3 hs3 hc3 k3))
  go_ret
  have hi := HI.out
  have hL := HL.out
  have hS0 := HS0.out
  refine ⟨_, rfl, ⟨by rw [en_len henc, List.length_set]; omega, .inr ⟨by omega, g1, c1, _, (0, 0), rfl, HC1.out, by have := HBG.out; omega, HG3.out, fun j u hu => ?_⟩⟩, (HB0.out.trans (HB1.out.mono HB0.out.size)).trans (HK3.out.below (by have := HBG.out; omega))⟩
  have hj := (List.getElem?_eq_some_iff.1 hu).1
  rw [en_len henc, List.length_set] at hj
  rw [HC3.out j, HSZ.out]
  have ej : j = j / 4 * 4 + j % 4 := by omega
  obtain ⟨y, hy⟩ : ∃ y, (xs.set i x)[j / 4]? = some y := ⟨_, List.getElem?_eq_getElem (by rw [List.length_set]; omega)⟩
  rw [ej, en_at henc _ _ _ y hy (by omega)] at hu
  rw [List.getElem?_set] at hy
  by_cases e : i = j / 4
  · rw [if_pos e, if_pos (by omega)] at hy
    obtain rfl := Option.some.inj hy
    rw [if_pos (by omega), show j - i * 4 = j % 4 by omega]
    rw [← HCX.out] at hu
    simpa using hu
  · rw [if_neg e] at hy
    rw [if_neg (by omega)]
    refine HCS1.out j u ?_
    rw [ej, en_at henc _ _ _ y hy (by omega)]
    exact hu
end Go.Proofs.Ytldemoflgahdgaa
