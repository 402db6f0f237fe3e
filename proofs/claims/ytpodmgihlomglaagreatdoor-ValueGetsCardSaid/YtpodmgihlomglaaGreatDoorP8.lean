import Derived.Test.YtpodmgihlomglaaGreatDoorP7
namespace Go.Proofs.YtpodmgihlomglaaGreatDoor
open Go.RowKit
set_option maxRecDepth 1000000
set_option linter.unusedSimpArgs false
theorem eptr_info : (Tryz.prog.info? 166).map (fun i => (i.zero, i.size, i.bytes)) = some (some (.pointer none), 1, 8) := by kernel_rfl
theorem pl_info : (Tryz.prog.info? 190).map (fun i => (i.zero, i.size, i.bytes)) = some (some (.agg #[.pointer none, .pointer none]), 2, 16) := by kernel_rfl
theorem pl_size : (Tryz.prog.info? 190).map (·.size) = some 2 := by kernel_rfl
theorem nd_size : (Tryz.prog.info? 119).map (·.size) = some 3 := by kernel_rfl
theorem row_size : (Tryz.prog.info? 116).map (·.size) = some 2 := by kernel_rfl
theorem map_size : (Tryz.prog.info? 121).map (·.size) = some 6 := by kernel_rfl
set_option maxHeartbeats 1000000 in
theorem gr_ep (n : Nat) (hn : n ≤ 200000) (w : World) : Calls Tryz.prog 169 #[.slice none 0 0, .int .i64 (n : Int)] w fun e w' => ∃ v, e = .returned v ∧ w'.ownsRow w.heap.size 166 1 v 0 [] ∧ Below w.heap.size w w' := by
 by_cases h0 : n = 0
 ·subst h0
  go_enter Tryz.func169, Tryz.ntmps169
  go_wp2
  go_ret
  exact ⟨_, rfl, World.ownsRow_nil _ _ _ _, Below.refl _ _⟩
 ·obtain ⟨i, hi, hz, h1, h2⟩ := info_parts eptr_info
  have hrun : ∀ ty, (Builtin.append_ #[117, 3] ty #[.slice none 0 0, .int .i64 (n : Int)]).run Tryz.prog w = .ok (.slice (some ⟨w.heap.size, 0, none⟩) n (grownCap w n 0 166)) (w.drew.alloc (.cells (Builtin.zeroCells (.pointer none : Value).cells n ++ Builtin.zeroCells (.pointer none : Value).cells (grownCap w n 0 166 - n)) 166)) := fun ty => by
   have h := Lib.run_append_grow_zeros (P := Tryz.prog) w 117 3 ty 166 i (.pointer none) .i64 .i64 Tryz.underlying117 Tryz.underlying3 hi hz none 0 0 [] (run_firstCells_none w.drew i.size 0 0 0) n (by omega) (by omega) (by omega) (by omega) (by rw [h2]; omega)
    (by rw [Nat.zero_add, h2]; exact growslice_fits (by omega) (by omega))
   simpa using h
  have hG1 := grownCap_ge w n 0 166
  have hG2 := grownCap_le_maxLen w n 0 166 (by unfold maxLen; omega)
  obtain ⟨G, hG⟩ : ∃ G, G = grownCap w n 0 166 := ⟨_, rfl⟩
  rw [← hG] at hrun hG1 hG2
  have hG3 : (G : Int) ≤ 9223372036854775807 := by unfold maxLen at hG2; omega
  have hn3 : (n : Int) ≤ 200000 := by omega
  have hn0 : (0 : Int) < n := by omega
  have HRUN := Lib.hid hrun
  have HG1 := Lib.hid hG1
  have HG2 := Lib.hid hG2
  have HN := Lib.hid hn
  clear hrun hG1 hG2 h0 hG hn
  go_enter Tryz.func169, Tryz.ntmps169
  go_wp2_with (refine wpList_append_known rfl _ _ _ _ rfl rfl rfl HRUN.out ?_)
  go_ret
  refine ⟨_, rfl, World.ownsRow_made w.drew _ G (Nat.le_refl _) HG2.out ?_, Below.more (drawn_below w) _⟩
  have := HG1.out
  rw [Array.size_append, size_zeroCells, size_zeroCells]
  show n * 1 + (G - n) * 1 = G * 1
  omega
set_option maxHeartbeats 4000000 in
theorem cc_ep {α : Type} {enc : α → List Value} (hone : ∀ x, ∀ u ∈ enc x, u.oneCell' = true) (w : World) {S : Nat → Prop} (B : Nat) (ls : List (Value × List α))
  (hcells : ∀ k (hk : k < ls.length), w.cell? ⟨B, k, none⟩ = some ls[k].1) (hcut : ∀ p ∈ ls, CutAt S w 1 p.1 (en enc p.2) p.2.length) (hN : (catE ls ls.length).length ≤ 100000) (hl : ls.length ≤ 1000) :
  Calls Tryz.prog 148 #[.slice (some ⟨B, 0, none⟩) ls.length ls.length] w fun e w' => ∃ v, e = .returned v ∧ w'.ownsRow w.heap.size 166 1 v (catE ls ls.length).length (en enc (catE ls ls.length)) ∧ Below w.heap.size w w' := by
 obtain ⟨i, hi, hz, h1, h2⟩ := info_parts eptr_info
 have HS := Lib.hid hcut
 have HC := Lib.hid hcells
 have HN := Lib.hid hN
 have HI := Lib.hid (And.intro hi (And.intro hz (And.intro h1 h2)))
 clear hcut hcells hi hz h1 h2 hN
 go_enter Tryz.func148, Tryz.ntmps148
 go_wp2_with fail
 go_loopw [3, 11] (fun n i wr => ∃ k : Nat, k ≤ ls.length ∧ i = .int .i64 k ∧ n = .int .i64 ((catE ls k).length : Nat) ∧ w = wr) (fun _ i _ => ls.length - (intOf i).toNat)
 case atStart => exact ⟨0, Nat.zero_le _, rfl, rfl, rfl⟩
 case round =>
  obtain ⟨k, hk, rfl, rfl, rfl⟩ := hrel
  by_cases hlt : k < ls.length
  ·have hc := HC.out k hlt
   obtain ⟨a, cap, ha, _⟩ := HS.out _ (List.getElem_mem hlt)
   have hle := catE_le (ls := ls) (k + 1) hlt (Nat.le_refl _)
   have hle' : ((catE ls (k + 1)).length : Int) ≤ 100000 := by have := HN.out; omega
   have hs := catE_succ hlt
   have hsl : ((catE ls (k + 1)).length : Int) = (catE ls k).length + ls[k].2.length := by rw [hs, List.length_append]; omega
   rw [hsl] at hle'
   have HSL := Lib.hid hsl
   rw [ha] at hc
   have hp0 : ¬ (((catE ls k).length : Int) + (ls[k].2.length : Int) < 0) := by omega
   clear hs hsl hle
   go_wp2_with fail
   go_roundw
   case rel => exact ⟨k + 1, by omega, by simp, by rw [HSL.out], trivial⟩
   case measure => simp [intOf]; omega
  ·obtain rfl : k = ls.length := by omega
   obtain ⟨N, hN⟩ : ∃ N, N = (catE ls ls.length).length := ⟨_, rfl⟩
   have HGR := Lib.hid (gr_ep N (by have := HN.out; omega) w)
   have HNN := Lib.hid hN
   rw [← hN]
   clear hN
   go_wp2_with (go_at_call 169; refine HGR.out.mono ?_; rintro e w1 ⟨v1, rfl, ho1, hb1⟩; have HO1 := Lib.hid ho1; have HB1 := Lib.hid hb1; clear ho1 hb1)
   go_loopw [6, 27] (fun nv i wr => ∃ k : Nat, k ≤ ls.length ∧ i = .int .i64 k ∧ Hid (wr.ownsRow w.heap.size 166 1 nv (catE ls k).length (en enc (catE ls k))) ∧ Hid (Below w.heap.size w wr)) (fun _ i _ => ls.length - (intOf i).toNat)
   case atStart => exact ⟨0, Nat.zero_le _, rfl, HO1, HB1⟩
   case round =>
    clear HO1 HB1
    obtain ⟨k, hk, rfl, HO, HB⟩ := hrel
    by_cases hlt : k < ls.length
    ·have hc := (HB.out.cell (p := ⟨B, k, none⟩) (World.block_lt_of_cell? _ _ (HC.out k hlt))).trans (HC.out k hlt)
     have HCUT := Lib.hid ((HS.out _ (List.getElem_mem hlt)).later HB.out)
     have hle := catE_le (ls := ls) (k + 1) hlt (Nat.le_refl _)
     have HS2 := Lib.hid (catE_succ hlt)
     have HLE : Hid ((catE ls k).length + ls[k].2.length ≤ 100000) := by show _ ≤ _; rw [HS2.out, List.length_append] at hle; have := HN.out; omega
     clear hle
     go_wp2_with (refine wpList_append_cut rfl _ _ 117 rfl w.heap.size 166 i (.pointer none) 8 Tryz.underlying117 HI.out.1 HI.out.2.1 HI.out.2.2.1 HI.out.2.2.2 rfl (by decide) rfl HO.out rfl HCUT.out (en_one hone _) (by have := HLE.out; unfold maxLen; omega) (by have := HLE.out; omega) HB.out.size ?_; intro v2 w2 ho2 hg2; have HO2 := Lib.hid ho2; have HB2 := Lib.hid (HB.out.trans (below_of_grown hg2 HB.out.size (ownsRow_low HO.out))); clear ho2 hg2)
     go_roundw
     case rel => exact ⟨k + 1, by omega, by simp, by rw [HS2.out, List.length_append, en_app]; exact HO2, HB2⟩
     case measure => simp [intOf]; omega
    ·obtain rfl : k = ls.length := by omega
     go_wp2_with fail
     go_ret
     exact ⟨_, rfl, by rw [HNN.out]; exact HO.out, HB.out⟩
def pv : Option Nat → Value
 | none => .pointer none
 | some b => .pointer (some ⟨b, 0, none⟩)
theorem pv_one (p : Option Nat) : (pv p).oneCell' = true := by cases p <;> rfl
abbrev Pl := Option Nat × Option Nat
def plc (p : Pl) : Array Value := #[pv p.1, pv p.2]
def enPl (p : Pl) : List Value := [pv p.1, pv p.2]
theorem enPl_len (p : Pl) : (enPl p).length = 2 := rfl
theorem plc_list (p : Pl) : (plc p).toList = enPl p := rfl
theorem enPl_one (p : Pl) : ∀ u ∈ enPl p, u.oneCell' = true := by
 intro u hu
 simp only [enPl, List.mem_cons, List.not_mem_nil, or_false] at hu
 rcases hu with rfl | rfl
 ·exact pv_one _
 ·exact pv_one _
theorem plc_one (p : Pl) : (plc p).all (·.oneCell') = true := by
 rw [Array.all_eq_true_iff_forall_mem]
 intro u hu
 exact enPl_one p u (by rw [← plc_list]; simpa using hu)
def enE (b : Nat) : List Value := [pv (some b)]
theorem enE_len (b : Nat) : (enE b).length = 1 := rfl
theorem enE_one (b : Nat) : ∀ u ∈ enE b, u.oneCell' = true := by
 intro u hu
 simp only [enE, List.mem_cons, List.not_mem_nil, or_false] at hu
 subst hu
 rfl
section
variable {P : Program}
theorem wpList_copy_o {w : World} {ops : Array Oper} {rest : List Oper} {o : Oper} {a : Act} {Q : Exit → Act → World → Prop} (hgd : o.guard = none) (d x : Operand) (dT sT : TypeId)
  (ho : o.op = .call { callee := .builtin .copy, args := #[d, x], argTypes := #[dT, sT] }) (elem : TypeId) (hu : P.underlying dT = some (.slice elem)) (s : Nat) (hsz : (P.info? elem).map (·.size) = some s)
  (g q dLen dCap : Nat) (hd : a.eval d = .slice (some ⟨g, q, none⟩) dLen dCap) (v : Value) (hv : a.eval x = v) {S : Nat → Prop} (cs : List Value) (n : Nat) (hF : CutAt S w s v cs n) (hle : n ≤ dLen)
  (T : TypeId) (cur : Array Value) (hg : w.heap[g]? = some (.cells cur T (0, 0))) (hfit : q + n * s ≤ cur.size) (h1 : ∀ u ∈ cs, u.oneCell' = true)
  (h : ∀ w', w'.heap[g]? = some (.cells (cur.toList.take q ++ cs ++ cur.toList.drop (q + cs.length)).toArray T (0, 0)) → Only g w w' → wpList P ops Q rest (a.put o.dst (goInt n)) w') : wpList P ops Q (o :: rest) a w := by
 refine wpList_plain hgd fun K hK => ?_
 have hlen := hF.len
 obtain ⟨ap, cap, rfl, h2, h3, h4⟩ := hF
 rcases h4 with ⟨rfl, rfl⟩ | ⟨g', q', rfl, _, _, hc⟩
 ·obtain rfl : n = 0 := by omega
  obtain rfl : cs = [] := List.eq_nil_of_length_eq_zero (by simpa using h3)
  have hrun := run_copy_s0 (P := P) w dT sT o.type elem (some ⟨g, q, none⟩) none dLen dCap s 0 hu hsz
  unfold Oper.wp
  simp [execOp, ho, resolve, invoke, builtin, hd, hv, hrun, Result.andThen]
  exact hK _ _ (h w (by simpa using hg) (Only.refl _ _))
 ·have hl := run_loadCells_list (P := P) w ⟨g', q', none⟩ cs (fun j u hu => by rw [add_at]; exact hc j u hu)
  have hst := run_storeCells_at P g q T cs 0 cur w hg (by simp; omega) h1
  have hmin : Nat.min n dLen = n := Nat.min_eq_left hle
  have hrun : (Builtin.copy_ #[dT, sT] o.type #[.slice (some ⟨g, q, none⟩) dLen dCap, .slice (some ⟨g', q', none⟩) n cap]).run P w =
    .ok (goInt n) (w.setRow g (cur.toList.take q ++ cs ++ cur.toList.drop (q + cs.length)).toArray) := by
   cases hq : P.info? elem with
   | none => simp [hq] at hsz
   | some i =>
    have hi : i.size = s := by simpa [hq] using hsz
    rw [hlen] at hl
    simp only [Nat.add_zero] at hst
    simp [Builtin.copy_, run_underlying hu, Builtin.lenOf, Builtin.firstCells, sizeOf, typeInfo, hq, hi, hmin, hl, hst]
  unfold Oper.wp
  simp [execOp, ho, resolve, invoke, builtin, hd, hv, hrun, Result.andThen]
  refine hK _ _ (h _ ?_ ?_)
  ·simpa using setRow_heap w g _ (cur.toList.take q ++ cs ++ cur.toList.drop (q + cs.length)).toArray _ _ hg
  ·simpa using only_setRow w g (cur.toList.take q ++ cs ++ cur.toList.drop (q + cs.length)).toArray
end
def midE {α : Type} (enc : α → List Value) (z : List Value) (xs : List α) (n : Nat) : List Value := en enc xs ++ (List.replicate (n - xs.length) z).flatten
theorem flat_rep (z : List Value) (n : Nat) : (List.replicate n z).flatten.length = n * z.length := by simp
theorem midE_len {α : Type} {enc : α → List Value} {z : List Value} {xs : List α} {n s : Nat} (henc : ∀ x, (enc x).length = s) (hz : z.length = s) (h : xs.length ≤ n) : (midE enc z xs n).length = n * s := by
 unfold midE
 rw [List.length_append, en_len henc, flat_rep, hz, ← Nat.add_mul]
 congr 1
 omega
theorem midE_add {α : Type} {enc : α → List Value} {z : List Value} {xs ys : List α} {n s : Nat} (henc : ∀ x, (enc x).length = s) (hz : z.length = s) (h : xs.length + ys.length ≤ n) :
  (midE enc z xs n).take (xs.length * s) ++ en enc ys ++ (midE enc z xs n).drop (xs.length * s + (en enc ys).length) = midE enc z (xs ++ ys) n := by
 have hl : (en enc xs).length = xs.length * s := en_len henc xs
 unfold midE
 rw [List.take_append_of_le_length (by omega), List.take_of_length_le (by omega), List.drop_append, List.drop_of_length_le (by omega), List.nil_append, hl, en_len henc, Nat.add_sub_cancel_left, en_app, List.append_assoc, List.append_assoc]
 congr 2
 rw [List.length_append]
 rw [show n - xs.length = ys.length + (n - (xs.length + ys.length)) by omega, ← List.replicate_append_replicate, List.flatten_append, List.drop_append, List.drop_of_length_le (by rw [flat_rep, hz]; exact Nat.le_refl _), List.nil_append, flat_rep, hz, Nat.sub_self, List.drop_zero]
theorem made_pl (n : Nat) : (madeCells #[.pointer none, .pointer none] (n * 2)).toList = midE enPl [.pointer none, .pointer none] [] n := by
 apply List.ext_getElem?
 intro j
 unfold midE
 rw [show en enPl [] = [] from rfl, List.nil_append, Array.getElem?_toList, List.length_nil, Nat.sub_zero]
 by_cases hj : j < n * 2
 ·rw [made_at _ _ _ hj, show (List.replicate n [(.pointer none : Value), .pointer none]).flatten = List.replicate (n * 2) (.pointer none) from by
   clear hj
   induction n with
   | zero => rfl
   | succ n ih =>
    rw [List.replicate_succ, List.flatten_cons, ih, Nat.add_mul, Nat.one_mul, Nat.add_comm (n * 2) 2, ← List.replicate_append_replicate]
    rfl]
  rw [List.getElem?_replicate, if_pos hj]
  rcases Nat.mod_two_eq_zero_or_one j with h | h
  ·simp [h]
  ·simp [h]
 ·rw [Array.getElem?_eq_none (by rw [size_madeCells]; omega), List.getElem?_eq_none (by rw [flat_rep]; simp; omega)]
theorem pl_elem (w : World) : (sizeOf (Tryz.prog.elem 114)).run Tryz.prog w = .ok 2 w := by
 have e : Tryz.prog.elem 114 = 190 := by kernel_rfl
 rw [e]
 obtain ⟨i, hi, _, h1, _⟩ := info_parts pl_info
 simp [sizeOf, typeInfo, hi, h1]
theorem pl_under : Tryz.prog.underlying 114 = some (.slice (Tryz.prog.elem 114)) := by kernel_rfl
theorem pl_from (g k N : Nat) (hk : k ≤ N) : ∃ q, q ≤ k * 2 ∧ (k < N → q = k * 2) ∧ ∀ w, (Instr.slice 114 (.slice (some ⟨g, 0, none⟩) N N) (some (.int .i64 (k : Int))) none none).run Tryz.prog w = .ok (.slice (some ⟨g, q, none⟩) (N - k) (N - k)) w := by
 refine ⟨if N = k then 0 else k * 2, by split <;> omega, fun h => if_neg (by omega), fun w => ?_⟩
 rw [run_slice_l w _ (some ⟨g, 0, none⟩) N N pl_under _ _ (by omega) (by omega), pl_elem]
 simp only [Result.andThen_ok, Int.toNat_natCast]
 by_cases h : N = k
 ·simp [h, sliced]
 ·simp [h, sliced, add_at]
set_option maxHeartbeats 4000000 in
theorem pl_joined (w : World) {S : Nat → Prop} (B : Nat) (ls : List (Value × List Pl)) (hcells : ∀ k (hk : k < ls.length), w.cell? ⟨B, k, none⟩ = some ls[k].1) (hcut : ∀ p ∈ ls, CutAt S w 2 p.1 (en enPl p.2) p.2.length)
  (hn : (catE ls ls.length).length ≤ 4096) (hl : ls.length ≤ 100) :
  Calls Tryz.prog 170 #[.slice (some ⟨B, 0, none⟩) ls.length ls.length] w fun e w' => ∃ a n c, e = .returned (.slice a n c) ∧ HeadAt (fun g => w.heap.size ≤ g) w' 190 2 (.slice a n c) (en enPl (catE ls ls.length)) (catE ls ls.length).length ∧ Below w.heap.size w w' := by
 obtain ⟨i, hi, hz, h1, h2⟩ := info_parts pl_info
 have HS := Lib.hid hcut
 have HC := Lib.hid hcells
 clear hcut hcells
 go_enter Tryz.func170, Tryz.ntmps170
 go_wp2_with fail
 go_loopw [3, 12] (fun n i wr => ∃ k : Nat, k ≤ ls.length ∧ i = .int .i64 k ∧ n = .int .i64 ((catE ls k).length : Nat) ∧ w = wr) (fun _ i _ => ls.length - (intOf i).toNat)
 case atStart => exact ⟨0, Nat.zero_le _, rfl, rfl, rfl⟩
 case round =>
  obtain ⟨k, hk, rfl, rfl, rfl⟩ := hrel
  by_cases hlt : k < ls.length
  ·have hc := HC.out k hlt
   obtain ⟨a, cap, ha, _⟩ := HS.out _ (List.getElem_mem hlt)
   have hle := catE_le (ls := ls) (k + 1) hlt (Nat.le_refl _)
   have hle' : ((catE ls (k + 1)).length : Int) ≤ 4096 := by omega
   have hs := catE_succ hlt
   have hsl : ((catE ls (k + 1)).length : Int) = (catE ls k).length + ls[k].2.length := by rw [hs, List.length_append]; omega
   rw [hsl] at hle'
   have HSL := Lib.hid hsl
   rw [ha] at hc
   clear hs hsl hle
   go_wp2_with fail
   go_roundw
   case rel => exact ⟨k + 1, by omega, by simp, by rw [HSL.out], trivial⟩
   case measure => simp [intOf]; omega
  ·obtain rfl : k = ls.length := by omega
   by_cases h0 : (catE ls ls.length).length = 0
   ·have h0' : ((catE ls ls.length).length : Int) = 0 := by omega
    go_wp2_with fail
    go_ret
    exact ⟨_, _, _, rfl, by rw [List.eq_nil_of_length_eq_zero h0]; exact ⟨rfl, .inl ⟨rfl, rfl⟩⟩, Below.refl _ _⟩
   ·have h0' : (((catE ls ls.length).length : Int) == 0) = false := beq_eq_false_iff_ne.2 (by omega)
    obtain ⟨N, hN⟩ : ∃ N, N = (catE ls ls.length).length := ⟨_, rfl⟩
    have HN := Lib.hid hN
    have HM := Lib.hid hn
    have HP := Lib.hid h0
    rw [← hN] at h0'
    rw [← hN]
    have hN4 : (N : Int) ≤ 4096 := by omega
    clear hN hn h0
    go_wp2_with (refine wpList_make_s _ rfl _ _ 114 rfl 190 i (.agg #[.pointer none, .pointer none]) 2 Tryz.underlying114 hi hz h1 .i64 .i64 N rfl rfl (by rw [h2]; have := HM.out; have := HN.out; omega) (by have := HM.out; have := HN.out; omega) ?_)
    go_loopw [7, 27] (fun at_ i v => ∃ k : Nat, k ≤ ls.length ∧ i = .int .i64 k ∧ at_ = .int .i64 ((catE ls k).length : Nat) ∧ Hid (v.heap[w.heap.size]? = some (.cells (midE enPl [.pointer none, .pointer none] (catE ls k) N).toArray 190 (0, 0))) ∧ Below w.heap.size w v) (fun _ i _ => ls.length - (intOf i).toNat)
    case atStart =>
     refine ⟨0, Nat.zero_le _, rfl, rfl, ?_, Below.newly' _ _⟩
     show _ = _
     have e : (midE enPl [.pointer none, .pointer none] (catE ls 0) N).toArray = madeCells #[.pointer none, .pointer none] (N * 2) := by
      rw [show catE ls 0 = [] from by simp [catE], ← made_pl]
     rw [e]
     exact heap_alloc_last _ _
    case round =>
     obtain ⟨k, hk, rfl, rfl, hg, hb⟩ := hrel
     have HB := Lib.hid hb
     clear hb
     by_cases hlt : k < ls.length
     ·have hc := (HB.out.cell (p := ⟨B, k, none⟩) (World.block_lt_of_cell? _ _ (HC.out k hlt))).trans (HC.out k hlt)
      have HCUT := Lib.hid ((HS.out _ (List.getElem_mem hlt)).later HB.out)
      obtain ⟨a, cap, ha, _⟩ := HCUT.out.shape
      have hle := catE_le (ls := ls) (k + 1) hlt (Nat.le_refl _)
      rw [← HN.out] at hle
      have hs := catE_succ hlt
      have hsl : (catE ls (k + 1)).length = (catE ls k).length + ls[k].2.length := by rw [hs, List.length_append]
      rw [hsl] at hle
      have HSL := Lib.hid hsl
      have HLE := Lib.hid hle
      have HCS := Lib.hid hs
      have hle' : ((catE ls k).length : Int) + ls[k].2.length ≤ N := by omega
      rw [ha] at hc HCUT
      clear hs hsl hle ha
      obtain ⟨q, hq1, hq2, hrun⟩ := pl_from w.heap.size (catE ls k).length N (by omega)
      have HQ1 := Lib.hid hq1
      have HQ2 := Lib.hid hq2
      have HMID := Lib.hid (midE_len (z := [.pointer none, .pointer none]) (xs := catE ls k) (n := N) enPl_len rfl (by omega))
      clear hq1 hq2
      go_wp2_with (refine wpList_copy_o rfl _ _ 114 114 rfl 190 Tryz.underlying114 2 pl_size w.heap.size q (N - (catE ls k).length) (N - (catE ls k).length) rfl _ rfl (en enPl ls[k].2) ls[k].2.length HCUT.out (by have := HLE.out; omega) 190 _ hg.out (by have := HLE.out; have := HQ1.out; have := HMID.out; simp; omega) (en_one enPl_one _) ?_; intro w2 h2 k2; have HG2 := Lib.hid h2; have HK2 := Lib.hid k2; clear h2 k2)
      go_roundw
      case rel =>
       refine ⟨k + 1, by omega, by simp, by rw [HSL.out]; simp, ?_, HB.out.trans (HK2.out.below (Nat.le_refl _))⟩
       show _ = _
       rw [HG2.out, HCS.out, ← midE_add (s := 2) enPl_len rfl HLE.out]
       simp only [List.toList_toArray]
       by_cases hkn : (catE ls k).length < N
       ·rw [HQ2.out hkn]
       ·have hz : ls[k].2 = [] := List.eq_nil_of_length_eq_zero (by have := HLE.out; omega)
        rw [hz, show en enPl [] = [] from rfl]
        simp
      case measure => simp [intOf]; omega
     ·obtain rfl : k = ls.length := by omega
      go_wp2_with fail
      go_ret
      have hN := HN.out
      have hm : midE enPl [.pointer none, .pointer none] (catE ls ls.length) N = en enPl (catE ls ls.length) := by unfold midE; rw [← hN, Nat.sub_self]; simp
      refine ⟨_, _, _, rfl, ⟨en_len enPl_len _, .inr ⟨by have := HP.out; omega, w.heap.size, N, _, (0, 0), by rw [← hN], by omega, Nat.le_refl _, hg.out, fun j u hu => ?_⟩⟩, HB.out⟩
      rw [hm]
      simpa using hu
end Go.Proofs.YtpodmgihlomglaaGreatDoor
namespace Go.Proofs.YtpodmgihlomglaaGreatDoor
open Go.RowKit
set_option linter.unusedSimpArgs false
section
variable {β : Type} (f : β → List UInt8)
def putB (l : List β) (x : β) : List β := l.takeWhile (fun y => decide (f y < f x)) ++ x :: l.dropWhile (fun y => decide (f y < f x))
def srtB (l : List β) : List β := l.foldl (putB f) []
def RiseB (l : List β) : Prop := l.Pairwise fun a b => f a < f b
variable {f}
theorem putB_perm (l : List β) (x : β) : (putB f l x).Perm (x :: l) := by
 unfold putB
 refine List.perm_middle.trans ?_
 rw [List.takeWhile_append_dropWhile]
theorem putB_rise {l : List β} {x : β} (h : RiseB f l) (hx : ∀ y ∈ l, f y ≠ f x) : RiseB f (putB f l x) := by
 induction l with
 | nil => unfold RiseB putB; simp
 | cons a l ih =>
  unfold RiseB at h ih ⊢
  rw [List.pairwise_cons] at h
  unfold putB at ih ⊢
  by_cases hp : f a < f x
  ·rw [List.takeWhile_cons, List.dropWhile_cons, if_pos (by simpa using hp), if_pos (by simpa using hp), List.cons_append, List.pairwise_cons]
   refine ⟨fun b hb => ?_, ih h.2 (fun y hy => hx y (List.mem_cons_of_mem _ hy))⟩
   have := (putB_perm (f := f) l x).mem_iff.1 hb
   rcases List.mem_cons.1 this with rfl | hb
   ·exact hp
   ·exact h.1 b hb
  ·rw [List.takeWhile_cons, List.dropWhile_cons, if_neg (by simpa using hp), if_neg (by simpa using hp), List.nil_append, List.pairwise_cons, List.pairwise_cons]
   have hlt : f x < f a := by
    rcases total_l (f x) (f a) (fun e => hx a (List.mem_cons_self ..) e.symm) with h | h
    ·exact h
    ·exact absurd h hp
   refine ⟨fun b hb => ?_, h⟩
   rcases List.mem_cons.1 hb with rfl | hb
   ·exact hlt
   ·exact List.lt_trans hlt (h.1 b hb)
theorem fold_perm (l : List β) : ∀ acc : List β, (l.foldl (putB f) acc).Perm (acc ++ l) := by
 induction l with
 | nil => intro acc; simp
 | cons x l ih =>
  intro acc
  rw [List.foldl_cons]
  refine (ih _).trans ?_
  refine ((putB_perm acc x).append_right l).trans ?_
  rw [List.cons_append]
  exact List.perm_middle.symm
theorem srt_perm (l : List β) : (srtB f l).Perm l := by
 have h := fold_perm (f := f) l []
 rw [List.nil_append] at h
 exact h
theorem fold_rise (l : List β) : ∀ acc : List β, RiseB f acc → ((acc ++ l).map f).Nodup → RiseB f (l.foldl (putB f) acc) := by
 induction l with
 | nil => intro acc h _; exact h
 | cons x l ih =>
  intro acc h hn
  rw [List.foldl_cons]
  refine ih _ (putB_rise h fun y hy e => ?_) ?_
  ·rw [List.map_append, List.map_cons, List.nodup_append] at hn
   exact hn.2.2 (f y) (List.mem_map_of_mem hy) (f x) (List.mem_cons_self ..) e
  ·refine (List.Perm.nodup_iff (List.Perm.map f ?_)).2 hn
   refine ((putB_perm acc x).append_right l).trans ?_
   rw [List.cons_append]
   exact List.perm_middle.symm
theorem srt_rise {l : List β} (h : (l.map f).Nodup) : RiseB f (srtB f l) := fold_rise l [] List.Pairwise.nil (by simpa using h)
theorem RiseB.nodup {l : List β} (h : RiseB f l) : (l.map f).Nodup := by
 unfold List.Nodup
 rw [List.pairwise_map]
 exact List.Pairwise.imp (fun {a b} (hab : f a < f b) (e : f a = f b) => lt_irrefl_l (f b) (by rwa [e] at hab)) h
theorem rise_uniq {l m : List β} (hl : RiseB f l) (hm : RiseB f m) (h : l.Perm m) : l = m :=
 List.Perm.eq_of_pairwise (le := fun a b => f a < f b) (fun _ _ _ _ hab hba => absurd (List.lt_trans hab hba) (lt_irrefl_l _)) hl hm h
theorem srt_id {l : List β} (h : RiseB f l) : srtB f l = l := rise_uniq (srt_rise h.nodup) h (srt_perm l)
end
abbrev kbF (p : ByteArray × Tr) : List UInt8 := kb p.1
mutual
def canT : Tr → Tr
 | .nd k n t ks xs =>
  if k = 5 then .nd k n t ((srtB kbF (ks.zip (canL xs))).map (·.1)) ((srtB kbF (ks.zip (canL xs))).map (·.2))
  else if k = 6 then .nd k n t [] (srtB keyT (canL xs))
  else .nd k n t [] (canL xs)
def canL : List Tr → List Tr
 | [] => []
 | x :: r => canT x :: canL r
end
theorem canL_map (l : List Tr) : canL l = l.map canT := by
 induction l with
 | nil => rw [canL]; rfl
 | cons x l ih => rw [canL, ih]; rfl
def ownT (a : Tr) : Int :=
 if a.k < 0 ∨ 6 < a.k then 3
 else if a.k ≤ 3 then (if a.ks ≠ [] ∨ a.xs.length ≠ 0 then 1 else chkSc (a.k, a.n, kb a.t))
 else if a.n ≠ 0 ∨ a.t ≠ ⟨#[]⟩ then 1
 else if (a.k = 5 ∧ a.ks.length ≠ a.xs.length) ∨ (a.k ≠ 5 ∧ a.ks ≠ []) then 1
 else if ¬ a.ks.Nodup then 6 else 0
mutual
def lookT : Tr → Nat → Nat → Nat × Int
 | .nd k n t ks xs, d, m =>
  if 64 < d then (m + 1, 7) else if 16384 < m + 1 then (m + 1, 8)
  else if ownT (.nd k n t ks xs) ≠ 0 then (m + 1, ownT (.nd k n t ks xs))
  else if (lookL xs (d + 1) (m + 1)).2 ≠ 0 then lookL xs (d + 1) (m + 1)
  else if k = 6 ∧ ¬ ((canL xs).map keyT).Nodup then ((lookL xs (d + 1) (m + 1)).1, 6)
  else ((lookL xs (d + 1) (m + 1)).1, 0)
def lookL : List Tr → Nat → Nat → Nat × Int
 | [], _, m => (m, 0)
 | x :: r, d, m => if (lookT x d m).2 ≠ 0 then lookT x d m else lookL r d (lookT x d m).1
end
def chkT (a : Tr) : Int := (lookT a 1 0).2
mutual
def OkT : Tr → Prop
 | .nd k n t ks xs => ownT (.nd k n t ks xs) = 0 ∧ OkL xs ∧ (k = 6 → ((canL xs).map keyT).Nodup)
def OkL : List Tr → Prop
 | [] => True
 | x :: r => OkT x ∧ OkL r
end
theorem okL_iff {l : List Tr} : OkL l ↔ ∀ x ∈ l, OkT x := by
 induction l with
 | nil => simp [OkL]
 | cons x l ih => rw [OkL, ih]; simp
theorem look_ok (a : Tr) : ∀ d m, ((lookT a d m).2 = 0 ↔ OkT a ∧ depT a + d ≤ 65 ∧ m + nodT a ≤ 16384) ∧ ((lookT a d m).2 = 0 → (lookT a d m).1 = m + nodT a) := by
 induction a using tr_ind with
 | h k n t ks xs ih =>
  intro d m
  have hL : ∀ (l : List Tr), (∀ x ∈ l, ∀ d m, ((lookT x d m).2 = 0 ↔ OkT x ∧ depT x + d ≤ 65 ∧ m + nodT x ≤ 16384) ∧ ((lookT x d m).2 = 0 → (lookT x d m).1 = m + nodT x)) → ∀ d m, d ≤ 65 → m ≤ 16384 →
    ((lookL l d m).2 = 0 ↔ OkL l ∧ depL l + d ≤ 65 ∧ m + nodL l ≤ 16384) ∧ ((lookL l d m).2 = 0 → (lookL l d m).1 = m + nodL l) := by
   intro l
   induction l with
   | nil => intro _ d m hd hm; rw [lookL, OkL, depL, nodL]; simp; omega
   | cons x r ih2 =>
    intro hi d m hd hm
    obtain ⟨h1, h2⟩ := hi x (List.mem_cons_self ..) d m
    rw [lookL, OkL, depL, nodL]
    by_cases hz : (lookT x d m).2 = 0
    ·rw [if_neg (by simpa using hz), h2 hz]
     obtain ⟨o1, o2, o3⟩ := h1.1 hz
     obtain ⟨h3, h4⟩ := ih2 (fun y hy => hi y (List.mem_cons_of_mem _ hy)) d (m + nodT x) hd (by omega)
     rw [h3]
     refine ⟨⟨fun ⟨a, b, c⟩ => ⟨⟨o1, a⟩, by omega, by omega⟩, fun ⟨⟨_, a⟩, b, c⟩ => ⟨a, by omega, by omega⟩⟩, fun h => ?_⟩
     rw [h4 (h3.2 h)]
     omega
    ·rw [if_pos (by simpa using hz)]
     refine ⟨⟨fun h => absurd h hz, fun ⟨⟨a, _⟩, b, c⟩ => absurd (h1.2 ⟨a, by omega, by omega⟩) hz⟩, fun h => absurd h hz⟩
  rw [lookT, OkT, depT, nodT]
  by_cases h1 : 64 < d
  ·rw [if_pos h1]
   simp; omega
  rw [if_neg h1]
  by_cases h2 : 16384 < m + 1
  ·rw [if_pos h2]
   simp; omega
  rw [if_neg h2]
  by_cases h3 : ownT (.nd k n t ks xs) = 0
  case neg =>
   rw [if_pos (by simpa using h3)]
   simp [h3]
  rw [if_neg (by simpa using h3)]
  obtain ⟨h4, h5⟩ := hL xs ih (d + 1) (m + 1) (by omega) (by omega)
  by_cases h6 : (lookL xs (d + 1) (m + 1)).2 = 0
  ·rw [if_neg (by simpa using h6)]
   obtain ⟨o1, o2, o3⟩ := h4.1 h6
   by_cases h7 : k = 6 ∧ ¬ ((canL xs).map keyT).Nodup
   ·rw [if_pos h7]
    simp
    intro _ _ h8
    exact absurd (h8 h7.1) h7.2
   ·rw [if_neg h7, h5 h6]
    refine ⟨⟨fun _ => ⟨⟨h3, o1, fun hk => ?_⟩, by omega, by omega⟩, fun _ => rfl⟩, fun _ => by omega⟩
    exact Decidable.byContradiction fun hn => h7 ⟨hk, hn⟩
  ·rw [if_pos (by simpa using h6)]
   refine ⟨⟨fun h => absurd h h6, fun ⟨⟨_, a, _⟩, b, c⟩ => absurd (h4.2 ⟨a, by omega, by omega⟩) h6⟩, fun h => absurd h h6⟩
theorem chkT_ok {a : Tr} : chkT a = 0 ↔ OkT a ∧ depT a ≤ 64 ∧ nodT a ≤ 16384 := by
 unfold chkT
 rw [(look_ok a 1 0).1]
 constructor
 ·rintro ⟨h1, h2, h3⟩; exact ⟨h1, by omega, by omega⟩
 ·rintro ⟨h1, h2, h3⟩; exact ⟨h1, by omega, by omega⟩
mutual
def RngT : Tr → Prop
 | .nd _ n _ _ xs => InR n ∧ RngL xs
def RngL : List Tr → Prop
 | [] => True
 | x :: r => RngT x ∧ RngL r
end
theorem rngL_iff {l : List Tr} : RngL l ↔ ∀ x ∈ l, RngT x := by
 induction l with
 | nil => simp [RngL]
 | cons x l ih => rw [RngL, ih]; simp
theorem okT_iff {a : Tr} : OkT a ↔ ownT a = 0 ∧ (∀ x ∈ a.xs, OkT x) ∧ (a.k = 6 → ((a.xs.map canT).map keyT).Nodup) := by
 cases a with
 | nd k n t ks xs => rw [OkT, okL_iff, canL_map]; rfl
theorem rngT_iff {a : Tr} : RngT a ↔ InR a.n ∧ ∀ x ∈ a.xs, RngT x := by
 cases a with
 | nd k n t ks xs => rw [RngT, rngL_iff]; rfl
theorem own_ok {a : Tr} : ownT a = 0 ↔ (0 ≤ a.k ∧ a.k ≤ 3 ∧ chkSc (a.k, a.n, kb a.t) = 0 ∧ a.ks = [] ∧ a.xs = []) ∨ (a.n = 0 ∧ a.t = ⟨#[]⟩ ∧ ((a.k = 4 ∧ a.ks = []) ∨ (a.k = 5 ∧ a.ks.length = a.xs.length ∧ a.ks.Nodup) ∨ (a.k = 6 ∧ a.ks = []))) := by
 unfold ownT
 by_cases h1 : a.k < 0 ∨ 6 < a.k
 ·rw [if_pos h1]
  constructor
  ·intro h; cases h
  ·rintro (⟨h, h2, _⟩ | ⟨_, _, h | h | h⟩) <;> omega
 rw [if_neg h1]
 by_cases h2 : a.k ≤ 3
 ·rw [if_pos h2]
  by_cases h3 : a.ks ≠ [] ∨ a.xs.length ≠ 0
  ·rw [if_pos h3]
   constructor
   ·intro h; cases h
   ·rintro (⟨_, _, _, h4, h5⟩ | ⟨_, _, h | h | h⟩)
    ·rcases h3 with h | h
     ·exact absurd h4 h
     ·rw [h5] at h; exact absurd rfl h
    all_goals omega
  ·rw [if_neg h3]
   constructor
   ·intro h
    exact .inl ⟨by omega, h2, h, Decidable.byContradiction fun h4 => h3 (.inl h4), List.length_eq_zero_iff.1 (Decidable.byContradiction fun h4 => h3 (.inr h4))⟩
   ·rintro (⟨_, _, h, _⟩ | ⟨_, _, h | h | h⟩)
    ·exact h
    all_goals omega
 ·rw [if_neg h2]
  by_cases h3 : a.n ≠ 0 ∨ a.t ≠ ⟨#[]⟩
  ·rw [if_pos h3]
   constructor
   ·intro h; cases h
   ·rintro (⟨_, h, _⟩ | ⟨h4, h5, _⟩)
    ·omega
    ·rcases h3 with h | h
     ·exact absurd h4 h
     ·exact absurd h5 h
  ·rw [if_neg h3]
   have hn : a.n = 0 := Decidable.byContradiction fun h4 => h3 (.inl h4)
   have ht : a.t = ⟨#[]⟩ := Decidable.byContradiction fun h4 => h3 (.inr h4)
   by_cases h5 : (a.k = 5 ∧ a.ks.length ≠ a.xs.length) ∨ (a.k ≠ 5 ∧ a.ks ≠ [])
   ·rw [if_pos h5]
    constructor
    ·intro h; cases h
    ·rintro (⟨_, h, _⟩ | ⟨_, _, h | h | h⟩)
     ·omega
     ·rcases h5 with h6 | h6
      ·omega
      ·exact absurd h.2 h6.2
     ·rcases h5 with h6 | h6
      ·exact absurd h.2.1 h6.2
      ·omega
     ·rcases h5 with h6 | h6
      ·omega
      ·exact absurd h.2 h6.2
   ·rw [if_neg h5]
    have hks : a.k ≠ 5 → a.ks = [] := fun hk => Decidable.byContradiction fun h6 => h5 (.inr ⟨hk, h6⟩)
    by_cases h6 : a.ks.Nodup
    ·rw [if_neg (by simpa using h6)]
     refine ⟨fun _ => .inr ⟨hn, ht, ?_⟩, fun _ => rfl⟩
     have hk : a.k = 4 ∨ a.k = 5 ∨ a.k = 6 := by omega
     rcases hk with hk | hk | hk
     ·exact .inl ⟨hk, hks (by omega)⟩
     ·exact .inr (.inl ⟨hk, Decidable.byContradiction fun h7 => h5 (.inl ⟨hk, h7⟩), h6⟩)
     ·exact .inr (.inr ⟨hk, hks (by omega)⟩)
    ·rw [if_pos h6]
     constructor
     ·intro h; cases h
     ·rintro (⟨_, h, _⟩ | ⟨_, _, h | h | h⟩)
      ·omega
      ·rw [h.2] at h6; exact absurd List.nodup_nil h6
      ·exact absurd h.2.2 h6
      ·rw [h.2] at h6; exact absurd List.nodup_nil h6
theorem zip_fst {α β : Type} : ∀ (l : List α) (m : List β), l.length = m.length → (l.zip m).map (·.1) = l
 | [], [], _ => rfl
 | a :: l, b :: m, h => by simp only [List.zip_cons_cons, List.map_cons]; rw [zip_fst l m (by simpa using h)]
 | [], _ :: _, h => by simp at h
 | _ :: _, [], h => by simp at h
theorem zip_snd {α β : Type} : ∀ (l : List α) (m : List β), l.length = m.length → (l.zip m).map (·.2) = m
 | [], [], _ => rfl
 | a :: l, b :: m, h => by simp only [List.zip_cons_cons, List.map_cons]; rw [zip_snd l m (by simpa using h)]
 | [], _ :: _, h => by simp at h
 | _ :: _, [], h => by simp at h
theorem nodup_kb {l : List ByteArray} : (l.map kb).Nodup ↔ l.Nodup := by
 unfold List.Nodup
 rw [List.pairwise_map]
 constructor
 ·intro h; exact List.Pairwise.imp (fun {a b} (hab : kb a ≠ kb b) (e : a = b) => hab (by rw [e])) h
 ·intro h; exact List.Pairwise.imp (fun {a b} (hab : a ≠ b) (e : kb a = kb b) => hab (kb_inj e)) h
theorem pairs_nodup {ks : List ByteArray} {l : List Tr} (hl : ks.length = l.length) (h : ks.Nodup) : ((ks.zip l).map kbF).Nodup := by
 have e : (ks.zip l).map kbF = ks.map kb := by
  have h1 := zip_fst ks l hl
  conv => rhs; rw [← h1]
  rw [List.map_map]; rfl
 rw [e]
 exact nodup_kb.2 h
theorem can_good (a : Tr) : OkT a → RngT a → Good (canT a) := by
 induction a using tr_ind with
 | h k n t ks xs ih =>
  intro ho hr
  rw [okT_iff] at ho
  rw [rngT_iff] at hr
  simp only [Tr.k, Tr.n, Tr.t, Tr.ks, Tr.xs] at ho hr
  have hp : ∀ y ∈ canL xs, Good y := by
   intro y hy
   rw [canL_map] at hy
   obtain ⟨x, hx, rfl⟩ := List.mem_map.1 hy
   exact ih x hx (ho.2.1 x hx) (hr.2 x hx)
  have hlen : (canL xs).length = xs.length := by rw [canL_map, List.length_map]
  have h0 := own_ok.1 ho.1
  simp only [Tr.k, Tr.n, Tr.t, Tr.ks, Tr.xs] at h0
  rw [canT]
  rw [good_iff]
  rcases h0 with ⟨h1, h2, h3, rfl, rfl⟩ | ⟨rfl, rfl, ⟨rfl, rfl⟩ | ⟨rfl, h4, h5⟩ | ⟨rfl, rfl⟩⟩
  ·rw [if_neg (by omega), if_neg (by omega)]
   refine ⟨hp, .inl ⟨h1, h2, h3, hr.1, rfl, ?_⟩⟩
   show canL [] = []
   rw [canL]
  ·rw [if_neg (by decide), if_neg (by decide)]
   exact ⟨hp, .inr ⟨rfl, rfl, .inl ⟨rfl, rfl⟩⟩⟩
  ·rw [if_pos rfl]
   have hn := pairs_nodup (l := canL xs) (by omega) h5
   refine ⟨fun y hy => ?_, .inr ⟨rfl, rfl, .inr (.inl ⟨rfl, ?_, ?_⟩)⟩⟩
   ·obtain ⟨q, hq, rfl⟩ := List.mem_map.1 (show y ∈ (srtB kbF (ks.zip (canL xs))).map (·.2) from hy)
    have := (srt_perm (f := kbF) (ks.zip (canL xs))).mem_iff.1 hq
    exact hp _ (List.of_mem_zip this).2
   ·show ((srtB kbF (ks.zip (canL xs))).map (·.1)).length = ((srtB kbF (ks.zip (canL xs))).map (·.2)).length
    rw [List.length_map, List.length_map]
   ·show ((srtB kbF (ks.zip (canL xs))).map (·.1)).Pairwise _
    rw [List.pairwise_map]
    exact srt_rise hn
  ·rw [if_neg (by decide), if_pos rfl]
   refine ⟨fun y hy => ?_, .inr ⟨rfl, rfl, .inr (.inr ⟨rfl, rfl, ?_⟩)⟩⟩
   ·exact hp y ((srt_perm (f := keyT) (canL xs)).mem_iff.1 hy)
   ·show (srtB keyT (canL xs)).Pairwise _
    refine srt_rise ?_
    rw [canL_map]
    exact ho.2.2 rfl
theorem map_self {α : Type} {f : α → α} : ∀ {l : List α}, (∀ x ∈ l, f x = x) → l.map f = l
 | [], _ => rfl
 | x :: l, h => by rw [List.map_cons, h x (List.mem_cons_self ..), map_self fun y hy => h y (List.mem_cons_of_mem _ hy)]
theorem can_id (a : Tr) : Good a → canT a = a := by
 induction a using tr_ind with
 | h k n t ks xs ih =>
  intro hg
  rw [good_iff] at hg
  simp only [Tr.k, Tr.n, Tr.t, Tr.ks, Tr.xs] at hg
  have hc : canL xs = xs := by rw [canL_map]; exact map_self fun x hx => ih x hx (hg.1 x hx)
  rw [canT, hc]
  rcases hg.2 with ⟨_, h2, _, _, rfl, rfl⟩ | ⟨rfl, rfl, ⟨rfl, rfl⟩ | ⟨rfl, h4, h5⟩ | ⟨rfl, rfl, h5⟩⟩
  ·rw [if_neg (by omega), if_neg (by omega)]
  ·rw [if_neg (by decide), if_neg (by decide)]
  ·rw [if_pos rfl]
   have hr : RiseB kbF (ks.zip xs) := by
    have e : ((ks.zip xs).map (·.1)).Pairwise fun a b => kb a < kb b := by rw [zip_fst ks xs h4]; exact h5
    rw [List.pairwise_map] at e
    exact e
   rw [srt_id hr, zip_fst ks xs h4, zip_snd ks xs h4]
  ·rw [if_neg (by decide), if_pos rfl, srt_id h5]
theorem good_ok (a : Tr) : Good a → OkT a := by
 induction a using tr_ind with
 | h k n t ks xs ih =>
  intro hg
  have hg0 := hg
  rw [good_iff] at hg
  simp only [Tr.k, Tr.n, Tr.t, Tr.ks, Tr.xs] at hg
  have hc : xs.map canT = xs := map_self fun x hx => can_id x (hg.1 x hx)
  rw [okT_iff]
  refine ⟨own_ok.2 ?_, fun x hx => ih x hx (hg.1 x hx), fun hk => ?_⟩
  ·simp only [Tr.k, Tr.n, Tr.t, Tr.ks, Tr.xs]
   rcases hg.2 with ⟨h1, h2, h3, _, h4, h5⟩ | ⟨h1, h2, h | ⟨h3, h4, h5⟩ | h⟩
   ·exact .inl ⟨h1, h2, h3, h4, h5⟩
   ·exact .inr ⟨h1, h2, .inl h⟩
   ·refine .inr ⟨h1, h2, .inr (.inl ⟨h3, h4, ?_⟩)⟩
    exact List.Pairwise.imp (fun {a b} (hab : kb a < kb b) => lt_ne hab) h5
   ·exact .inr ⟨h1, h2, .inr (.inr ⟨h.1, h.2.1⟩)⟩
  ·have hk' : k = 6 := hk
   show ((xs.map canT).map keyT).Nodup
   rw [hc]
   rcases hg.2 with ⟨_, h2, _⟩ | ⟨_, _, h | h | h⟩
   ·omega
   ·omega
   ·omega
   ·exact RiseB.nodup (f := keyT) h.2.2
theorem can_size (a : Tr) : OkT a → nodT (canT a) = nodT a ∧ depT (canT a) = depT a := by
 induction a using tr_ind with
 | h k n t ks xs ih =>
  intro ho
  rw [okT_iff] at ho
  simp only [Tr.k, Tr.n, Tr.t, Tr.ks, Tr.xs] at ho
  have hlen : (canL xs).length = xs.length := by rw [canL_map, List.length_map]
  have hs : nodL (canL xs) = nodL xs ∧ depL (canL xs) = depL xs := by
   have := fun x hx => ih x hx (ho.2.1 x hx)
   clear ih ho hlen
   induction xs with
   | nil => rw [canL]; exact ⟨rfl, rfl⟩
   | cons x r ih2 =>
    have h1 := this x (List.mem_cons_self ..)
    have h2 := ih2 (fun y hy => this y (List.mem_cons_of_mem _ hy))
    rw [canL, nodL, nodL, depL, depL]
    omega
  have h0 := own_ok.1 ho.1
  simp only [Tr.k, Tr.n, Tr.t, Tr.ks, Tr.xs] at h0
  rw [canT]
  split
  ·rename_i hk
   have h4 : ks.length = (canL xs).length := by
    rw [hlen]
    rcases h0 with ⟨_, h, _⟩ | ⟨_, _, h | h | h⟩
    ·omega
    ·omega
    ·exact h.2.1
    ·omega
   have hp : ((srtB kbF (ks.zip (canL xs))).map (·.2)).Perm (canL xs) := by
    have := (srt_perm (f := kbF) (ks.zip (canL xs))).map (·.2)
    rwa [zip_snd ks _ h4] at this
   rw [nodT, nodT, depT, depT, nodL_perm hp, depL_perm hp, hs.1, hs.2]
   exact ⟨rfl, rfl⟩
  ·split
   ·have hp := srt_perm (f := keyT) (canL xs)
    rw [nodT, nodT, depT, depT, nodL_perm hp, depL_perm hp, hs.1, hs.2]
    exact ⟨rfl, rfl⟩
   ·rw [nodT, nodT, depT, depT, hs.1, hs.2]
    exact ⟨rfl, rfl⟩
end Go.Proofs.YtpodmgihlomglaaGreatDoor
