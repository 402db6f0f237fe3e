import Derived.Test.YtpodmgihlomglaaGreatDoorQ27
import Derived.Test.YtpodmgihlomglaaGreatDoorQ36
namespace Go.Proofs.YtpodmgihlomglaaGreatDoor
open Go.RowKit
set_option maxRecDepth 1000000
set_option linter.unusedSimpArgs false
theorem iv_one {l : List Int} : ∀ u ∈ iv l, u.oneCell' = true := by
 intro u hu
 unfold iv at hu
 rw [List.mem_map] at hu
 obtain ⟨c, _, rfl⟩ := hu
 rfl
section
variable {P : Program}
theorem run_storeVar_at (w : World) (g o : Nat) (T ty : TypeId) (cur : Array Value) (v : Value) (vs : List Value) (hv : v.cells = vs.toArray) (hg : w.heap[g]? = some (.cells cur T (0, 0))) (hk : o + vs.length ≤ cur.size)
  (hi : (P.info? ty).map (·.size) = some vs.length) (h1 : ∀ x ∈ vs, x.oneCell' = true) :
  (storeVar ty ⟨g, o, none⟩ v).run P w = .ok () (w.setRow g (cur.toList.take o ++ vs ++ cur.toList.drop (o + vs.length)).toArray) := by
 have := run_storeCells_at (P := P) g o T vs 0 cur w hg (by simpa using hk) h1
 cases hq : P.info? ty with
 | none => simp [hq] at hi
 | some i =>
  have hs : i.size = vs.length := by simpa [hq] using hi
  simp only [Nat.add_zero] at this
  simp [storeVar, sizeOf, typeInfo, hq, hv, hs, this]
theorem wpList_store_s {w : World} {ops : Array Oper} {rest : List Oper} {o : Oper} {a : Act} {Q : Exit → Act → World → Prop} (hgd : o.guard = none) (ty : TypeId) (x y : Operand) (ho : o.op = .store ty x y)
  (g k : Nat) (hx : a.eval x = .pointer (some ⟨g, k, none⟩)) (cells : Array Value) (hy : a.eval y = .agg cells) (T : TypeId) (cur : Array Value) (hg : w.heap[g]? = some (.cells cur T (0, 0)))
  (hi : (P.info? ty).map (·.size) = some cells.size) (hk : k + cells.size ≤ cur.size) (h1 : cells.all (·.oneCell') = true)
  (h : ∀ w' cur', w'.heap[g]? = some (.cells cur' T (0, 0)) → cur'.size = cur.size → (∀ j, cur'[j]? = if k ≤ j ∧ j < k + cells.size then cells[j - k]? else cur[j]?) → Only g w w' → wpList P ops Q rest (a.put o.dst undef) w') : wpList P ops Q (o :: rest) a w :=
 wpList_plain hgd fun _ hK => by
  have hrun := run_storeVar_at (P := P) w g k T ty cur (.agg cells) cells.toList (by simp [Value.cells]) hg (by simpa using hk) (by simpa using hi) (fun v hv => (Array.all_eq_true_iff_forall_mem.1 h1) v (by simpa using hv))
  unfold Oper.wp execOp
  simp only [ho, hx, hy, Instr.storeAt, Instr.sureAddr, Sem.run_bind, Sem.run_pure, Result.andThen_ok, hrun]
  refine hK _ _ (h _ _ (setRow_heap w g _ _ _ _ hg) (laid_size cur k cells.toList (by simpa using hk)) (fun j => ?_) (only_setRow _ _ _))
  rw [laid_at cur k cells.toList (by simpa using hk) j]
  simp
end
end Go.Proofs.YtpodmgihlomglaaGreatDoor
namespace Go.Proofs.YtpodmgihlomglaaGreatDoor
open Go.RowKit
set_option maxRecDepth 1000000
set_option linter.unusedSimpArgs false
theorem vals_some (p : Addr) (n c : Nat) (w : World) : (binOp .eql 55 (.slice (some p) n c) (.slice none 0 0)).run Tryz.prog w = .ok (.bool false) w := by
 have hu := run_underlying (w := w) Tryz.underlying55
 have hm : Op.maxDepth = (Op.maxDepth - 1) + 1 := by decide
 unfold binOp
 simp only []
 unfold Op.equal
 rw [hm]
 unfold Op.equalIn
 simp [Sem.run_bind, hu, Result.andThen]
set_option maxHeartbeats 8000000 in
theorem cl_val (w : World) {S : Nat → Prop} {v : Value} {cs : List Value} {n : Nat} (hv : HeadAt S w 35 4 v cs n) (h0 : 0 < n) (hone : ∀ u ∈ cs, u.oneCell' = true) (hn : n ≤ 4096) :
  Calls Tryz.prog 167 #[v] w fun e w' => ∃ g c, e = .returned (.slice (some ⟨g, 0, none⟩) n c) ∧ n ≤ c ∧ w.heap.size ≤ g ∧ ∃ cur, w'.heap[g]? = some (.cells cur 35 (0, 0)) ∧ c * 4 = cur.size ∧ (∀ (j : Nat) (u : Value), cs[j]? = some u → cur[j]? = some u) ∧ Below w.heap.size w w' := by
 obtain ⟨i, hi, hz, h1, h2⟩ := info_parts val_info
 have HV := Lib.hid hv
 have HL := Lib.hid hv.1
 have HI := Lib.hid (And.intro hi (And.intro hz (And.intro h1 h2)))
 obtain ⟨g, c, cur, fr, rfl, hc, hS, hg, hcs⟩ := hv.pos h0
 have HN := Lib.hid hn
 have H0 := Lib.hid h0
 have HONE := Lib.hid hone
 clear hv hi hz h1 h2 hc hS hg hcs hn h0 hone
 have hnil := fun w => vals_some ⟨g, 0, none⟩ n c w
 go_enter Tryz.func167, Tryz.ntmps167
 go_wp2_with (refine wpList_append_cut rfl _ _ 55 rfl w.heap.size 35 i (.agg (celC zeroV)) 40 Tryz.underlying55 HI.out.1 HI.out.2.1 HI.out.2.2.1 HI.out.2.2.2 rfl (by decide) rfl (World.ownsRow_lit (base := w.heap.size) (e := 35) (size := 4) w #[] 0 (Nat.le_refl _) (by unfold maxLen; omega) rfl) rfl (HV.out.cut.later (Below.newly' _ _)) HONE.out (by have := HN.out; unfold maxLen; omega) (by have := HN.out; omega) (by simp) ?_; intro v2 w2 ho2 hg2; have HO2 := Lib.hid ho2; have HG2 := Lib.hid hg2; clear ho2 hg2)
 go_ret
 obtain ⟨hl, ⟨e, h3⟩ | ⟨g2, c2, cur2, e, hb, hg, hc, h3, h4, h5⟩⟩ := HO2.out
 ·have := H0.out; omega
 ·rw [Nat.zero_add] at e hc h5
  refine ⟨g2, c2, by rw [← e]; rfl, hc, hb, cur2, hg, by omega, fun j u hu => ?_, (Below.newly' w _).trans (below_of_grown HG2.out (by simp) (fun k e => by have e' : some w.heap.size = some k := e; have := Option.some.inj e'; omega))⟩
  rw [List.nil_append] at h5
  have hj := (List.getElem?_eq_some_iff.1 hu).1
  rw [HL.out] at hj
  rw [← h5, List.getElem?_take_of_lt hj, Array.getElem?_toList] at hu
  exact hu
set_option maxHeartbeats 8000000 in
theorem cl_node (w : World) {S : Nat → Prop} {v : Value} {cs : List Value} {n : Nat} (hv : HeadAt S w 110 4 v cs n) (h0 : 0 < n) (hone : ∀ u ∈ cs, u.oneCell' = true) (hn : n ≤ 4096) :
  Calls Tryz.prog 168 #[v] w fun e w' => ∃ g c, e = .returned (.slice (some ⟨g, 0, none⟩) n c) ∧ n ≤ c ∧ w.heap.size ≤ g ∧ ∃ cur, w'.heap[g]? = some (.cells cur 110 (0, 0)) ∧ c * 4 = cur.size ∧ (∀ (j : Nat) (u : Value), cs[j]? = some u → cur[j]? = some u) ∧ Below w.heap.size w w' := by
 obtain ⟨i, hi, hz, h1, h2⟩ := info_parts rnode_info
 have HV := Lib.hid hv
 have HL := Lib.hid hv.1
 have HI := Lib.hid (And.intro hi (And.intro hz (And.intro h1 h2)))
 obtain ⟨g, c, cur, fr, rfl, hc, hS, hg, hcs⟩ := hv.pos h0
 have HN := Lib.hid hn
 have H0 := Lib.hid h0
 have HONE := Lib.hid hone
 clear hv hi hz h1 h2 hc hS hg hcs hn h0 hone
 have hnil := fun w => nodes_some ⟨g, 0, none⟩ n c w
 go_enter Tryz.func168, Tryz.ntmps168
 go_wp2_with (refine wpList_append_cut rfl _ _ 108 rfl w.heap.size 110 i (.agg #[.int .i64 0, .int .i64 0, .slice none 0 0, .slice none 0 0]) 64 Tryz.underlying108 HI.out.1 HI.out.2.1 HI.out.2.2.1 HI.out.2.2.2 rfl (by decide) rfl (World.ownsRow_lit (base := w.heap.size) (e := 110) (size := 4) w #[] 0 (Nat.le_refl _) (by unfold maxLen; omega) rfl) rfl (HV.out.cut.later (Below.newly' _ _)) HONE.out (by have := HN.out; unfold maxLen; omega) (by have := HN.out; omega) (by simp) ?_; intro v2 w2 ho2 hg2; have HO2 := Lib.hid ho2; have HG2 := Lib.hid hg2; clear ho2 hg2)
 go_ret
 obtain ⟨hl, ⟨e, h3⟩ | ⟨g2, c2, cur2, e, hb, hg, hc, h3, h4, h5⟩⟩ := HO2.out
 ·have := H0.out; omega
 ·rw [Nat.zero_add] at e hc h5
  refine ⟨g2, c2, by rw [← e]; rfl, hc, hb, cur2, hg, by omega, fun j u hu => ?_, (Below.newly' w _).trans (below_of_grown HG2.out (by simp) (fun k e => by have e' : some w.heap.size = some k := e; have := Option.some.inj e'; omega))⟩
  rw [List.nil_append] at h5
  have hj := (List.getElem?_eq_some_iff.1 hu).1
  rw [HL.out] at hj
  rw [← h5, List.getElem?_take_of_lt hj, Array.getElem?_toList] at hu
  exact hu
set_option maxHeartbeats 8000000 in
theorem wi_node {α : Type} {enc : α → List Value} (henc : ∀ x, (enc x).length = 4) (hone : ∀ x, ∀ u ∈ enc x, u.oneCell' = true) (w : World) {S : Nat → Prop} {v : Value} {xs : List α} {n i : Nat} (x : α) (hv : HeadAt S w 110 4 v (en enc xs) n) (hi : i < n) (hn : n ≤ 4096) (cx : Array Value) (hcx : cx.toList = enc x) :
  Calls Tryz.prog 147 #[v, .int .i64 (i : Int), .agg cx] w fun e w' => ∃ v', e = .returned v' ∧ HeadAt (fun g => w.heap.size ≤ g) w' 110 4 v' (en enc (xs.set i x)) n ∧ Below w.heap.size w w' := by
 obtain ⟨w0, hw0⟩ : ∃ w0, w.alloc (.cells cx 110) = w0 := ⟨_, rfl⟩
 have hb0 : Below w.heap.size w w0 := by rw [← hw0]; exact Below.newly' _ _
 have hx0 : w0.heap[w.heap.size]? = some (.cells cx 110 (0, 0)) := by rw [← hw0]; exact heap_alloc_last _ _
 have hs0 : w0.heap.size = w.heap.size + 1 := by rw [← hw0]; simp
 have hsz : cx.size = 4 := by rw [← Array.length_toList, hcx, henc]
 have hall : cx.all (·.oneCell') = true := by
  rw [Array.all_eq_true_iff_forall_mem]
  intro u hu
  exact hone x u (by rw [← hcx]; simpa using hu)
 have HCL := Lib.hid (cl_node w0 (hv.later hb0) (by omega) (en_one hone xs) hn)
 have HL : Hid (xs.length = n) := (by show _ = _; have := hv.1; rw [en_len henc] at this; omega)
 have HI := Lib.hid hi
 have hi' : (i : Int) < n := by omega
 have hn' : (n : Int) ≤ 4096 := by omega
 have HX0 := Lib.hid hx0
 have HB0 := Lib.hid hb0
 have HS0 := Lib.hid hs0
 have HSZ := Lib.hid hsz
 have HALL := Lib.hid hall
 have HCX := Lib.hid hcx
 obtain ⟨a, c, rfl, _⟩ := hv.shape
 clear hv hi hn hb0 hx0 hs0 hsz hall hcx
 go_enter Tryz.func147, Tryz.ntmps147
 go_upto_region 1 with fail
 clear hw0
 go_wp2_with (first
  | (go_at_call 168; refine HCL.out.mono ?_; rintro e w1 ⟨g1, c1, rfl, hc1, hB1, cur1, hg1, hs1, hcs1, hb1⟩; have HC1 := Lib.hid hc1; have HG1 := Lib.hid hg1; have HS1 := Lib.hid hs1; have HCS1 := Lib.hid hcs1; have HX1 := Lib.hid ((hb1.block _ (by have := HS0.out; omega)).trans HX0.out); have HB1 := Lib.hid hb1; have HBG := Lib.hid hB1; clear hc1 hB1 hg1 hs1 hcs1 hb1)
  | (refine ld_if rfl 110 _ rfl w.heap.size rfl 110 _ _ _ HX1.out Tryz.underlying110 rfl (by rw [HSZ.out]; exact rnode_size) ?_)
  | (refine wpList_store_s rfl 110 _ _ rfl g1 (i * 4) rfl cx rfl 110 cur1 HG1.out (by rw [HSZ.out]; exact rnode_size) (by rw [HSZ.out]; have := HS1.out; have := HC1.out; have := HI.out; omega) HALL.out ?_; intro w3 c3 h3 hs3 hc3 k3; have HG3 := Lib.hid h3; have HC3 := Lib.hid hc3; have HK3 := Lib.hid k3; clear h3 hs3 hc3 k3))
 go_ret
 have hi := HI.out
 have hL := HL.out
 have hS0 := HS0.out
 refine ⟨_, rfl, ⟨by rw [en_len henc, List.length_set]; omega, .inr ⟨by omega, g1, c1, _, (0, 0), rfl, HC1.out, by have := HBG.out; omega, HG3.out, fun j u hu => ?_⟩⟩, (HB0.out.trans (HB1.out.mono HB0.out.size)).trans (HK3.out.below (by have := HBG.out; omega))⟩
 have hj := (List.getElem?_eq_some_iff.1 hu).1
 rw [en_len henc, List.length_set] at hj
 rw [HC3.out j, HSZ.out]
 have ej : j = j / 4 * 4 + j % 4 := by omega
 obtain ⟨y, hy⟩ : ∃ y, (xs.set i x)[j / 4]? = some y := ⟨_, List.getElem?_eq_getElem (by rw [List.length_set]; omega)⟩
 rw [ej, en_at henc _ _ _ y hy (by omega)] at hu
 rw [List.getElem?_set] at hy
 by_cases e : i = j / 4
 ·rw [if_pos e, if_pos (by omega)] at hy
  obtain rfl := Option.some.inj hy
  rw [if_pos (by omega), show j - i * 4 = j % 4 by omega]
  rw [← HCX.out] at hu
  simpa using hu
 ·rw [if_neg e] at hy
  rw [if_neg (by omega)]
  refine HCS1.out j u ?_
  rw [ej, en_at henc _ _ _ y hy (by omega)]
  exact hu
set_option maxHeartbeats 8000000 in
theorem wi_val {α : Type} {enc : α → List Value} (henc : ∀ x, (enc x).length = 4) (hone : ∀ x, ∀ u ∈ enc x, u.oneCell' = true) (w : World) {S : Nat → Prop} {v : Value} {xs : List α} {n i : Nat} (x : α) (hv : HeadAt S w 35 4 v (en enc xs) n) (hi : i < n) (hn : n ≤ 4096) (cx : Array Value) (hcx : cx.toList = enc x) :
  Calls Tryz.prog 146 #[v, .int .i64 (i : Int), .agg cx] w fun e w' => ∃ v', e = .returned v' ∧ HeadAt (fun g => w.heap.size ≤ g) w' 35 4 v' (en enc (xs.set i x)) n ∧ Below w.heap.size w w' := by
 obtain ⟨w0, hw0⟩ : ∃ w0, w.alloc (.cells cx 35) = w0 := ⟨_, rfl⟩
 have hb0 : Below w.heap.size w w0 := by rw [← hw0]; exact Below.newly' _ _
 have hx0 : w0.heap[w.heap.size]? = some (.cells cx 35 (0, 0)) := by rw [← hw0]; exact heap_alloc_last _ _
 have hs0 : w0.heap.size = w.heap.size + 1 := by rw [← hw0]; simp
 have hsz : cx.size = 4 := by rw [← Array.length_toList, hcx, henc]
 have hall : cx.all (·.oneCell') = true := by
  rw [Array.all_eq_true_iff_forall_mem]
  intro u hu
  exact hone x u (by rw [← hcx]; simpa using hu)
 have HCL := Lib.hid (cl_val w0 (hv.later hb0) (by omega) (en_one hone xs) hn)
 have HL : Hid (xs.length = n) := (by show _ = _; have := hv.1; rw [en_len henc] at this; omega)
 have HI := Lib.hid hi
 have hi' : (i : Int) < n := by omega
 have hn' : (n : Int) ≤ 4096 := by omega
 have HX0 := Lib.hid hx0
 have HB0 := Lib.hid hb0
 have HS0 := Lib.hid hs0
 have HSZ := Lib.hid hsz
 have HALL := Lib.hid hall
 have HCX := Lib.hid hcx
 obtain ⟨a, c, rfl, _⟩ := hv.shape
 clear hv hi hn hb0 hx0 hs0 hsz hall hcx
 go_enter Tryz.func146, Tryz.ntmps146
 go_upto_region 1 with fail
 clear hw0
 go_wp2_with (first
  | (go_at_call 167; refine HCL.out.mono ?_; rintro e w1 ⟨g1, c1, rfl, hc1, hB1, cur1, hg1, hs1, hcs1, hb1⟩; have HC1 := Lib.hid hc1; have HG1 := Lib.hid hg1; have HS1 := Lib.hid hs1; have HCS1 := Lib.hid hcs1; have HX1 := Lib.hid ((hb1.block _ (by have := HS0.out; omega)).trans HX0.out); have HB1 := Lib.hid hb1; have HBG := Lib.hid hB1; clear hc1 hB1 hg1 hs1 hcs1 hb1)
  | (refine ld_if rfl 35 _ rfl w.heap.size rfl 35 _ _ _ HX1.out Tryz.underlying35 rfl (by rw [HSZ.out]; exact val_size) ?_)
  | (refine wpList_store_s rfl 35 _ _ rfl g1 (i * 4) rfl cx rfl 35 cur1 HG1.out (by rw [HSZ.out]; exact val_size) (by rw [HSZ.out]; have := HS1.out; have := HC1.out; have := HI.out; omega) HALL.out ?_; intro w3 c3 h3 hs3 hc3 k3; have HG3 := Lib.hid h3; have HC3 := Lib.hid hc3; have HK3 := Lib.hid k3; clear h3 hs3 hc3 k3))
 go_ret
 have hi := HI.out
 have hL := HL.out
 have hS0 := HS0.out
 refine ⟨_, rfl, ⟨by rw [en_len henc, List.length_set]; omega, .inr ⟨by omega, g1, c1, _, (0, 0), rfl, HC1.out, by have := HBG.out; omega, HG3.out, fun j u hu => ?_⟩⟩, (HB0.out.trans (HB1.out.mono HB0.out.size)).trans (HK3.out.below (by have := HBG.out; omega))⟩
 have hj := (List.getElem?_eq_some_iff.1 hu).1
 rw [en_len henc, List.length_set] at hj
 rw [HC3.out j, HSZ.out]
 have ej : j = j / 4 * 4 + j % 4 := by omega
 obtain ⟨y, hy⟩ : ∃ y, (xs.set i x)[j / 4]? = some y := ⟨_, List.getElem?_eq_getElem (by rw [List.length_set]; omega)⟩
 rw [ej, en_at henc _ _ _ y hy (by omega)] at hu
 rw [List.getElem?_set] at hy
 by_cases e : i = j / 4
 ·rw [if_pos e, if_pos (by omega)] at hy
  obtain rfl := Option.some.inj hy
  rw [if_pos (by omega), show j - i * 4 = j % 4 by omega]
  rw [← HCX.out] at hu
  simpa using hu
 ·rw [if_neg e] at hy
  rw [if_neg (by omega)]
  refine HCS1.out j u ?_
  rw [ej, en_at henc _ _ _ y hy (by omega)]
  exact hu
theorem nl_size : (Tryz.prog.info? 108).map (·.size) = some 1 := by kernel_rfl
theorem vl_size : (Tryz.prog.info? 55).map (·.size) = some 1 := by kernel_rfl
theorem kid_set3 (h : Nat) (p : Kid) (v : Value) : (kidc h p).toArray.setIfInBounds 3 v = #[.int .i64 (p.l.length : Int), .int .i64 ((h + 1 : Nat) : Int), p.a, v] := by simp [kidc]
theorem kid_set2 (h : Nat) (p : Kid) (v : Value) : (kidc h p).toArray.setIfInBounds 2 v = #[.int .i64 (p.l.length : Int), .int .i64 ((h + 1 : Nat) : Int), v, p.b] := by simp [kidc]
theorem cat_set {ks : List Kid} {k r : Nat} {x : Cel} (hk : k < ks.length) (y' : Kid) (hy : y'.l = ks[k].l.set r x) (hr : r < ks[k].l.length) : catK (ks.set k y') = (catK ks).set ((catK (ks.take k)).length + r) x := by
 have hk' : k < (ks.set k y').length := by rw [List.length_set]; exact hk
 rw [cat_split hk', cat_split hk, List.take_set_of_le (Nat.le_refl _), List.getElem_set_self, List.drop_set_of_lt (by omega), hy, List.append_assoc, List.append_assoc, List.set_append, if_neg (by omega), Nat.add_sub_cancel_left, List.set_append, if_pos hr]
def SetDoes (h : Nat) : Prop := ∀ (S : Nat → Prop) (W : World) (p : Kid) (i : Nat) (x : Cel), NodeR S W h p → i < p.l.length → p.l.length ≤ 200000 →
  Calls Tryz.prog 127 #[.agg (kidc h p).toArray, .int .i64 (i : Int), .agg (celC x)] W fun e W' => ∃ c, e = .returned (.agg c) ∧ ∃ p' : Kid, c = (kidc h p').toArray ∧ p'.l = p.l.set i x ∧ p'.k = p.k ∧ NodeR (fun g => S g ∨ W.heap.size ≤ g) W' h p' ∧ Below W.heap.size W W'
set_option maxHeartbeats 8000000 in
theorem set_leaf : SetDoes 0 := by
 intro S W p i x hp hi hN
 obtain ⟨w2, hw2⟩ : ∃ w2, ((W.alloc (.cells (kidc 0 p).toArray 110)).alloc (.cells (celC x) 35)).alloc (.cells #[.int .i64 0, .int .i64 0, .slice none 0 0, .slice none 0 0] 110) = w2 := ⟨_, rfl⟩
 obtain ⟨hb2, hx2, hv2, hy2, hs2⟩ := three_newV hw2
 have HV2 := Lib.hid hv2
 have HB2 := Lib.hid hb2
 have HY2 := Lib.hid hy2
 have HX2 := Lib.hid hx2
 have HS2 := Lib.hid hs2
 obtain ⟨hpa, hpk, hp1, hp16, hph⟩ := hp
 have hwi := wi_val enV_len enV_one w2 x (hph.later hb2) (i := i) (by omega) (by omega) (celC x) rfl
 obtain ⟨q, c, hpb, _⟩ := hph.shape
 have ca2 : w2.cell? ⟨W.heap.size, 2, none⟩ = some (.slice none 0 0) := by rw [← hpa]; exact cell_in hx2 rfl
 have ca3 : w2.cell? ⟨W.heap.size, 3, none⟩ = some (.slice q p.k c) := by rw [← hpb]; exact cell_in hx2 rfl
 rw [hpb] at hwi
 have HWI := Lib.hid hwi
 have HP := Lib.hid (And.intro hpa (And.intro hpk (And.intro hp1 (And.intro hp16 hi))))
 have hnil := nodes_none
 clear hb2 hx2 hv2 hy2 hs2 hpa hpk hp1 hp16 hph hpb hwi hi hN
 go_enter Tryz.func127, Tryz.ntmps127
 go_upto_region 1 with fail
 clear hw2
 go_wp2_with (first
  | (refine ld_if rfl 35 _ rfl (W.heap.size + 1) rfl 35 _ _ _ HV2.out Tryz.underlying35 rfl val_size ?_)
  | (go_at_call 146; refine HWI.out.mono ?_; rintro e w3 ⟨v3, rfl, hh3, hb3⟩; obtain ⟨q3, c3, rfl, _⟩ := hh3.shape; have HH3 := Lib.hid hh3; have HX3 := Lib.hid ((hb3.block _ (by have := HS2.out; omega)).trans HX2.out); have HY3 := Lib.hid ((hb3.block _ (by have := HS2.out; omega)).trans HY2.out); have HB3 := Lib.hid hb3; clear hh3 hb3)
  | (refine st_cell rfl 55 _ _ rfl W.heap.size 3 (.slice q3 p.k c3) rfl rfl rfl 110 _ HX3.out vl_size (show 3 < 4 by decide) ?_; intro w4 h4 k4; rw [kid_set3] at h4; have HX4 := Lib.hid h4; have HK4 := Lib.hid k4; have HY4 := Lib.hid (k4.other HY3.out (by omega)); clear h4 k4)
  | (refine ld_if rfl 110 _ rfl W.heap.size rfl 110 _ _ _ HX4.out Tryz.underlying110 rfl rnode_size ?_)
  | (refine st_agg rfl 110 _ _ rfl (W.heap.size + 2) #[.int .i64 (p.l.length : Int), .int .i64 ((0 + 1 : Nat) : Int), p.a, .slice q3 p.k c3] rfl rfl 110 _ HY4.out rnode_size rfl (one4 rfl rfl p.ha rfl) ?_; intro w5 h5 k5))
 obtain ⟨k1, k2, k3, k4, k5'⟩ := HP.out
 have hs2 := HS2.out
 refine bodyPost_ret (results_cell_row rfl _ _ (W.heap.size + 2) 110 _ (0, 0) _ rfl h5 Tryz.underlying110 rfl rnode_size) rfl ⟨_, rfl, ⟨.slice none 0 0, .slice q3 p.k c3, p.l.set i x, p.k, rfl, rfl⟩, ?_, rfl, rfl, ⟨rfl, by simpa using k2, k3, k4, ?_⟩, ((HB2.out.trans (HB3.out.mono HB2.out.size)).trans (HK4.out.below (Nat.le_refl _))).trans (k5.below (by omega))⟩
 ·simp [kidc, k1]
 ·exact (((HH3.out.kept HK4.out.by_ (fun X e => by cases e; omega)).kept k5.by_ (fun X e => by cases e; omega))).weak fun g hg => .inr (Nat.le_trans HB2.out.size hg)
set_option maxHeartbeats 8000000 in
theorem set_inner (h : Nat) (ih : SetDoes h) : SetDoes (h + 1) := by
 intro S W p i x hp hi hN
 obtain ⟨w2, hw2⟩ : ∃ w2, ((W.alloc (.cells (kidc (h + 1) p).toArray 110)).alloc (.cells (celC x) 35)).alloc (.cells #[.int .i64 0, .int .i64 0, .slice none 0 0, .slice none 0 0] 110) = w2 := ⟨_, rfl⟩
 obtain ⟨hb2, hx2, hv2, hy2, hs2⟩ := three_newV hw2
 have HV2 := Lib.hid hv2
 have HB2 := Lib.hid hb2
 have HY2 := Lib.hid hy2
 have HX2 := Lib.hid hx2
 have HS2 := Lib.hid hs2
 obtain ⟨hpb, hk1, hk16, ks, hh, hkl, hl, hks⟩ := hp
 obtain ⟨n, hn⟩ : ∃ n, n = p.k := ⟨_, rfl⟩
 rw [← hn] at hk1 hk16 hh hkl
 have HWAY := Lib.hid (rp_way w2 h n i p ks (hh.later hb2) hkl hk1 hk16 (by rw [← hl]; omega) (by rw [← hl]; omega))
 have HHO := Lib.hid (hh.old.later hb2)
 obtain ⟨g, c, cur, fr, hpa, hcap, hS, hg, hcs⟩ := hh.pos hk1
 rw [hpa] at HHO
 have ca2 : w2.cell? ⟨W.heap.size, 2, none⟩ = some (.slice (some ⟨g, 0, none⟩) n c) := by rw [← hpa]; exact cell_in hx2 rfl
 have HRG : Hid (∀ k (hk : k < ks.length), w2.rangeAt g (k * 4) (kidc h ks[k])) := fun k hk => range_later (en_range (h := h) hg hcs hk) hb2
 have HP := Lib.hid (And.intro hpb (And.intro hk1 (And.intro hk16 (And.intro hkl (And.intro hl hi)))))
 have HKS := Lib.hid hks
 have HNN := Lib.hid hn
 have HN16 : Hid (n ≤ 4096) := by show _ ≤ _; omega
 have HPA := Lib.hid hpa
 have HLN := Lib.hid hN
 have hnil := fun w => nodes_some ⟨g, 0, none⟩ n c w
 have hn16 : (n : Int) ≤ 16 := by omega
 clear hb2 hx2 hv2 hy2 hs2 hpb hk1 hk16 hh hkl hl hks hn hpa hcap hS hg hcs hi hN
 go_enter Tryz.func127, Tryz.ntmps127
 go_upto_region 1 with fail
 clear hw2
 go_upto_region 5 with (first
  | (refine ld_if rfl 110 _ rfl W.heap.size rfl 110 _ _ _ HX2.out Tryz.underlying110 rfl rnode_size ?_)
  | (go_at_call 115; refine HWAY.out.mono ?_; rintro e w3 ⟨k, r, rfl, hwy, hb3⟩; have HWYY := Lib.hid hwy; have HBB3 := Lib.hid hb3; clear hwy hb3))
 obtain ⟨hkk, hir, hr1, hr2⟩ := HWYY.out
 have hpp := HP.out
 have hrl := hr2 (by rw [← hpp.2.2.2.2.1]; exact hpp.2.2.2.2.2)
 have hb3 : Below w2.heap.size w2 w3.drew := HBB3.out.trans ((drawn_below w3).mono HBB3.out.size)
 have HK3 : Hid (w3.drew.cell? ⟨W.heap.size, 2, none⟩ = some (.slice (some ⟨g, 0, none⟩) n c) ∧ w3.drew.rangeAt g (k * 4) (kidc h ks[k]) ∧ w3.drew.heap[W.heap.size + 1]? = some (.cells (celC x) 35 (0, 0))) :=
  ⟨(hb3.cell (p := ⟨W.heap.size, 2, none⟩) (World.block_lt_of_cell? _ _ ca2)).trans ca2, range_later (HRG.out k hkk) hb3, (hb3.block _ (by have := HS2.out; omega)).trans HV2.out⟩
 have HX3 := Lib.hid ((hb3.block _ (by have := HS2.out; omega)).trans HX2.out)
 have HY3 := Lib.hid ((hb3.block _ (by have := HS2.out; omega)).trans HY2.out)
 have HB3 := Lib.hid (HB2.out.trans (hb3.mono HB2.out.size))
 have HH3 := Lib.hid (HHO.out.later hb3)
 have hyl : ks[k].l.length ≤ p.l.length := by
  have h1 := congrArg List.length (cat_split hkk)
  rw [List.length_append, List.length_append, ← hpp.2.2.2.2.1] at h1
  omega
 have HREC := Lib.hid (ih (fun g => S g ∧ g < W.heap.size) w3.drew ks[k] r x ((HKS.out _ (List.getElem_mem hkk)).2.old.later HB3.out) hrl (by have := HLN.out; omega))
 have HCS := Lib.hid (fun (y' : Kid) (hy : y'.l = ks[k].l.set r x) => cat_set hkk y' hy hrl)
 have HYK := Lib.hid (HKS.out _ (List.getElem_mem hkk)).1
 obtain ⟨y, hy⟩ : ∃ y, y = ks[k] := ⟨_, rfl⟩
 rw [← hy] at HK3 HREC HCS HYK
 have HIR := Lib.hid hir
 have HWY : Hid (k < n) := by show _ < _; have := hpp.2.2.2.1; omega
 have hkn : (k : Int) < (n : Int) := by have := HWY.out; omega
 have hkn' : k < n := HWY.out
 clear hkk hir hr1 hr2 hpp hrl hb3 hyl hy ca2
 refine wp_region_T (S := fun V => V.cell? ⟨W.heap.size, 2, none⟩ = some (.slice (some ⟨g, 0, none⟩) n c) ∧ V.rangeAt g (k * 4) (kidc h y) ∧ V.heap[W.heap.size + 1]? = some (.cells (celC x) 35 (0, 0))) [13] (by kernel_rfl) (by first | exact HK3.out | exact HK4.out | exact HK5.out) (fun hHeld => ?_)
 refine tkA 0 24 (h := ?_)
 refine tkA 1 25 (h := ?_)
 (try simp only [pq])
 refine tkA 2 26 (h := ?_)
 refine tkA 3 27 (h := ?_)
 (try simp only [pq])
 refine tkA 4 28 (h := ?_)
 refine tkA 5 29 (h := ?_)
 (try simp only [pq])
 refine tkA 6 30 (h := ?_)
 refine tyA 7 31 (hy := yieldsIf_load_mid (by rfl) 110 _ rfl g (k * 4) rfl (kidc h y) _ (fun w hw => hw.2.1) Tryz.underlying110 rfl rnode_size) (h := ?_)
 (try simp only [pq])
 refine tkA 8 32 (h := ?_)
 refine tyA 9 33 (hy := yieldsIf_load_row (by rfl) 35 _ rfl (W.heap.size + 1) rfl (celC x) 35 (0, 0) _ (fun w hw => hw.2.2) Tryz.underlying35 rfl val_size) (h := ?_)
 (try simp only [pq])
 refine tkO 10 (some 34) (h := fun K hK => ?_)
 go_simp
 go_at_call 127
 refine HREC.out.mono ?_
 rintro e w4 ⟨c4, rfl, y4, hc4, hl4, hk4, hn4, hb4⟩
 have HK4 := Lib.hid (show _ ∧ _ ∧ _ from ⟨((hb4).cell (p := ⟨W.heap.size, 2, none⟩) (World.block_lt_of_cell? _ _ HK3.out.1)).trans HK3.out.1, range_later HK3.out.2.1 hb4, (hb4.block _ (Array.getElem?_eq_some_iff.1 HK3.out.2.2).1).trans HK3.out.2.2⟩)
 have HX4 := Lib.hid (((hb4).block _ (Array.getElem?_eq_some_iff.1 HX3.out).1).trans HX3.out)
 have HY4 := Lib.hid (((hb4).block _ (Array.getElem?_eq_some_iff.1 HY3.out).1).trans HY3.out)
 have HB4 := Lib.hid (HB3.out.trans (hb4.mono HB3.out.size))
 have HC4 := Lib.hid hc4
 have HL4 := Lib.hid (And.intro hl4 hk4)
 have HN4 := Lib.hid hn4
 have HBB4 := Lib.hid hb4
 have HWI := Lib.hid (wi_node (kidc_len h) (kidc_one h) w4 y4 (HH3.out.later hb4) HWY.out HN16.out c4 (by rw [hc4]))
 clear hb4 hc4 hl4 hk4 hn4
 (try dsimp only)
 refine hK.out _ _ (by first | exact HK3.out | exact HK4.out | exact HK5.out) (fun hHeld => ?_)
 clear hK K
 (try simp only [pq])
 refine tkO 11 (some 35) (h := fun K hK => ?_)
 go_simp
 go_at_call 147
 refine HWI.out.mono ?_
 rintro e w5 ⟨v5, rfl, hh5, hb5⟩
 obtain ⟨q5, c5, rfl, _⟩ := hh5.shape
 have HK5 := Lib.hid (show _ ∧ _ ∧ _ from ⟨((hb5).cell (p := ⟨W.heap.size, 2, none⟩) (World.block_lt_of_cell? _ _ HK4.out.1)).trans HK4.out.1, range_later HK4.out.2.1 hb5, (hb5.block _ (Array.getElem?_eq_some_iff.1 HK4.out.2.2).1).trans HK4.out.2.2⟩)
 have HX5 := Lib.hid (((hb5).block _ (Array.getElem?_eq_some_iff.1 HX4.out).1).trans HX4.out)
 have HY5 := Lib.hid (((hb5).block _ (Array.getElem?_eq_some_iff.1 HY4.out).1).trans HY4.out)
 have HB5 := Lib.hid (HB4.out.trans (hb5.mono HB4.out.size))
 have HH5 := Lib.hid hh5
 have HBB5 := Lib.hid hb5
 clear hb5 hh5
 (try dsimp only)
 refine hK.out _ _ (by first | exact HK3.out | exact HK4.out | exact HK5.out) (fun hHeld => ?_)
 clear hK K
 (try simp only [pq])
 refine tkA 12 36 (h := ?_)
 (try simp only [pq])
 refine tkU 13 none (h := fun K hK => ?_)
 refine st_cell_wp 108 _ _ rfl W.heap.size 2 (.slice q5 n c5) rfl rfl rfl 110 _ HX5.out nl_size (show 2 < 4 by decide) ?_
 intro w6 h6 k6
 refine hK.out _ _ ?_
 clear hK K
 (try simp only [pq])
 refine wpAnyT_done (by kernel_rfl) ?_ _
 rw [kid_set2] at h6
 have HX6 := Lib.hid h6
 have HY6 := Lib.hid (k6.other HY5.out (by omega))
 have HK6 := Lib.hid k6
 clear h6 k6
 go_wp2_with (first
  | (refine ld_if rfl 110 _ rfl W.heap.size rfl 110 _ _ _ HX6.out Tryz.underlying110 rfl rnode_size ?_)
  | (refine st_agg rfl 110 _ _ rfl (W.heap.size + 2) #[.int .i64 (p.l.length : Int), .int .i64 ((h + 1 + 1 : Nat) : Int), .slice q5 n c5, p.b] rfl rfl 110 _ HY6.out rnode_size rfl (one4 rfl rfl rfl p.hb) ?_; intro w7 h7 k7))
 obtain ⟨k1, k2, k3, k4, k5', k6'⟩ := HP.out
 have hs2 := HS2.out
 have hwb : w2.heap.size ≤ w3.heap.size := HBB3.out.size
 have hw4 : w3.heap.size ≤ w4.heap.size := HBB4.out.size
 have hnn := HNN.out
 refine bodyPost_ret (results_cell_row rfl _ _ (W.heap.size + 2) 110 _ (0, 0) _ rfl h7 Tryz.underlying110 rfl rnode_size) rfl ⟨_, rfl, ⟨.slice q5 n c5, .slice none 0 0, p.l.set i x, n, rfl, rfl⟩, ?_, rfl, hnn, ⟨rfl, k2, k3, ks.set k y4, ?_, ?_, ?_, fun q hq => ?_⟩, (HB5.out.trans (HK6.out.below (Nat.le_refl _))).trans (k7.below (by omega))⟩
 ·simp [kidc, k1]
 ·exact (((HH5.out.kept HK6.out.by_ (fun X e => by cases e; omega)).kept k7.by_ (fun X e => by cases e; omega))).weak fun g hg => .inr (by omega)
 ·rw [List.length_set]; exact k4
 ·rw [HCS.out y4 HL4.out.1, ← k5', ← HIR.out]
 ·have hm := List.mem_or_eq_of_mem_set hq
  rcases hm with hm | rfl
  ·refine ⟨(HKS.out q hm).1, ?_⟩
   exact ((((HKS.out q hm).2.old.later HB5.out).kept HK6.out.by_ (fun X e => by cases e; rintro ⟨_, h⟩; omega)).kept k7.by_ (fun X e => by cases e; rintro ⟨_, h⟩; omega)).weak fun g hg => .inl hg.1
  ·refine ⟨by rw [HL4.out.2]; exact HYK.out, ?_⟩
   refine (((HN4.out.later HBB5.out).kept HK6.out.by_ (fun X e => by cases e; rintro (⟨_, h⟩ | h); omega; have h' : w3.heap.size ≤ W.heap.size := h; omega)).kept k7.by_ (fun X e => by cases e; rintro (⟨_, h⟩ | h); omega; have h' : w3.heap.size ≤ W.heap.size + 2 := h; omega)).weak fun g hg => ?_
   rcases hg with hg | hg
   ·exact .inl hg.1
   ·have h' : w3.heap.size ≤ g := hg
    exact .inr (by omega)
theorem rp_set : ∀ h, SetDoes h
 | 0 => set_leaf
 | h + 1 => set_inner h (rp_set h)
set_option maxHeartbeats 8000000 in
theorem rp_Set {S : Nat → Prop} {c : Array Value} {l : List Cel} (W : World) (h : RootR S W c l) (i : Nat) (x : Cel) (hi : i < l.length) (hN : l.length ≤ 200000) :
    Calls Tryz.prog 101 #[.agg c, .int .i64 (i : Int), .agg (celC x)] W fun e W' => ∃ c', e = .returned (.tuple #[.agg c', .int .i64 0]) ∧ RootR (fun g => S g ∨ W.heap.size ≤ g) W' c' (l.set i x) ∧ Below W.heap.size W W' := by
  obtain ⟨w2, hw2⟩ : ∃ w2, ((W.alloc (.cells c 112)).alloc (.cells (celC x) 35)).alloc (.cells #[.int .i64 0, .int .i64 0, .slice none 0 0, .slice none 0 0] 112) = w2 := ⟨_, rfl⟩
  obtain ⟨hb2, hx2, hv2, hy2, hs2⟩ := three_newV hw2
  have HV2 := Lib.hid hv2
  have HX2 := Lib.hid hx2
  have HY2 := Lib.hid hy2
  have HB2 := Lib.hid hb2
  have HS2 := Lib.hid hs2
  have HS := Lib.hid h.size
  have HH := Lib.hid (rp_has w2 (h.later hb2) (i : Int))
  rw [show decide (0 ≤ (i : Int) ∧ (i : Int) < l.length) = true by simp; omega] at HH
  have HSET : Hid (∀ V, Below W.heap.size W V → Calls Tryz.prog 127 #[.agg c, .int .i64 (i : Int), .agg (celC x)] V fun e W' => ∃ c', e = .returned (.agg c') ∧ RootR (fun g => (S g ∧ g < W.heap.size) ∨ V.heap.size ≤ g) W' c' (l.set i x) ∧ Below V.heap.size V W') := by
    intro V hV
    rcases h.old with ⟨rfl, rfl⟩ | ⟨hh, p, rfl, rfl, h3, h4⟩
    · simp at hi
    · refine (rp_set hh _ V p i x (h3.later hV) hi hN).mono ?_
      rintro e W' ⟨c', rfl, p', rfl, e1, e2, h5, h6⟩
      exact ⟨_, rfl, .inr ⟨hh, p', rfl, e1, h5, by rw [e2]; exact h4⟩, h6⟩
  obtain ⟨l', hl'⟩ : ∃ l', l' = l.set i x := ⟨_, rfl⟩
  rw [← hl'] at HSET ⊢
  clear hb2 hx2 hv2 hy2 hs2 h hi hN hl'
  go_enter Tryz.func101, Tryz.ntmps101
  go_upto_region 1 with fail
  clear hw2
  go_wp2_with (first
    | (refine ld_if rfl 35 _ rfl (W.heap.size + 1) rfl 35 _ _ _ HV3.out Tryz.underlying35 rfl val_size ?_)
    | (refine ld_if rfl 112 _ rfl W.heap.size rfl 112 _ _ _ HX2.out Tryz.underlying112 rfl (by rw [HS.out]; exact rope_size) ?_)
    | (go_at_call 97
       refine HH.out.mono ?_
       rintro e w3 ⟨rfl, hb3⟩
       have HX3 := Lib.hid ((hb3.block W.heap.size (by have := HS2.out; omega)).trans HX2.out)
       have HV3 := Lib.hid ((hb3.block (W.heap.size + 1) (by have := HS2.out; omega)).trans HV2.out)
       have HY3 := Lib.hid ((hb3.block (W.heap.size + 2) (by have := HS2.out; omega)).trans HY2.out)
       have HB3 := Lib.hid (HB2.out.trans (hb3.mono HB2.out.size))
       have HS3 : Hid (W.heap.size + 3 ≤ w3.heap.size) := (by have h1 := HS2.out; have h2 := hb3.size; show _ ≤ _; omega)
       clear hb3)
    | (refine ld_if rfl 110 _ rfl W.heap.size rfl 112 _ _ _ HX3.out Tryz.underlying110 rfl (by rw [HS.out]; exact rnode_size) ?_)
    | (go_at_call 127
       refine (HSET.out _ HB3.out).mono ?_
       rintro e w4 ⟨c4, rfl, hr4, hb4⟩
       obtain ⟨y0, y1, q1, n1, c1, q2, n2, c2, rfl⟩ := hr4.four
       have HR4 := Lib.hid hr4
       have HY4 := Lib.hid ((hb4.block (W.heap.size + 2) (by have := HS3.out; omega)).trans HY3.out)
       have HB4 := Lib.hid hb4
       clear hr4 hb4)
    | (refine st_agg rfl 112 _ _ rfl (W.heap.size + 2) _ rfl rfl 112 _ HY4.out rope_size rfl (one4 rfl rfl rfl rfl) ?_; intro w5 h5 k5))
  refine bodyPost_ret (results_cell_row1 rfl _ _ (W.heap.size + 2) 112 _ (0, 0) _ rfl h5 Tryz.underlying112 rfl rope_size) rfl ⟨_, rfl, ?_, ?_⟩
  · have hs3 := HS3.out
    refine (HR4.out.kept k5.by_ (fun X e => by cases e; rintro (⟨_, h⟩ | h) <;> omega)).weak fun g hg => ?_
    rcases hg with hg | hg
    · exact .inl hg.1
    · exact .inr (by omega)
  · have hs3 := HS3.out
    exact (HB3.out.trans (HB4.out.mono (by omega))).trans (k5.below (by omega))
theorem depL_top : ∀ {xs : List Tr}, xs ≠ [] → ∃ x ∈ xs, depT x = depL xs
 | [], h => absurd rfl h
 | x :: r, _ => by
  rw [depL]
  by_cases hr : r = []
  ·subst hr
   exact ⟨x, List.mem_cons_self .., by simp [depL]⟩
  ·obtain ⟨y, hy, e⟩ := depL_top hr
   by_cases hx : depL r ≤ depT x
   ·exact ⟨x, List.mem_cons_self .., by omega⟩
   ·exact ⟨y, List.mem_cons_of_mem _ hy, by omega⟩
theorem cntD_top {xs : List Tr} (h : xs ≠ []) : 0 < cntD xs (depL xs - 1) := by
 obtain ⟨x, hx, e⟩ := depL_top h
 unfold cntD
 rw [List.countP_pos_iff]
 have := dep_pos x
 exact ⟨x, hx, by simp; omega⟩
def lessI (a b : List Int) : List Int := (List.range a.length).map fun i => a.getD i 0 - b.getD i 0
theorem lessI_len (a b : List Int) : (lessI a b).length = a.length := by simp [lessI]
theorem lessI_get (a b : List Int) {i : Nat} (h : i < a.length) : (lessI a b).getD i 0 = a.getD i 0 - b.getD i 0 := by simp [lessI, List.getD_eq_getElem?_getD, h]
def trimN (l : List Int) : Nat → Nat
 | 0 => 0
 | n + 1 => if l.getD n 0 = 0 then trimN l n else n + 1
theorem trimN_le (l : List Int) : ∀ n, trimN l n ≤ n
 | 0 => Nat.le_refl _
 | n + 1 => by rw [trimN]; split; exact Nat.le_trans (trimN_le l n) (Nat.le_succ _); exact Nat.le_refl _
theorem trimN_last (l : List Int) : ∀ n, 0 < trimN l n → l.getD (trimN l n - 1) 0 ≠ 0
 | 0, h => by simp [trimN] at h
 | n + 1, h => by
  rw [trimN] at h ⊢
  by_cases e : l.getD n 0 = 0
  ·rw [if_pos e] at h ⊢; exact trimN_last l n h
  ·rw [if_neg e]; exact e
theorem trimN_out (l : List Int) : ∀ n i, trimN l n ≤ i → i < n → l.getD i 0 = 0
 | 0, _, _, h => by omega
 | n + 1, i, h1, h2 => by
  rw [trimN] at h1
  by_cases e : l.getD n 0 = 0
  ·rw [if_pos e] at h1
   by_cases hi : i = n
   ·subst hi; exact e
   ·exact trimN_out l n i h1 (by omega)
  ·rw [if_neg e] at h1; omega
theorem less_tal {xs ys zs : List Tr} (h : xs.Perm (ys ++ zs)) : (lessI (tal xs) (tal ys)).take (trimN (lessI (tal xs) (tal ys)) (tal xs).length) = tal zs := by
 have hd : depL xs = max (depL ys) (depL zs) := by rw [depL_perm h, depL_app]
 obtain ⟨m, hm⟩ : ∃ m, m = trimN (lessI (tal xs) (tal ys)) (tal xs).length := ⟨_, rfl⟩
 have hle := trimN_le (lessI (tal xs) (tal ys)) (tal xs).length
 have hlast := trimN_last (lessI (tal xs) (tal ys)) (tal xs).length
 have hout := trimN_out (lessI (tal xs) (tal ys)) (tal xs).length
 rw [← hm] at hle hlast hout ⊢
 rw [tal_len] at hle hout
 have hg : ∀ i, i < depL xs → (lessI (tal xs) (tal ys)).getD i 0 = (cntD zs i : Int) := fun i hi => by
  rw [lessI_get _ _ (by rw [tal_len]; exact hi), tal_get, tal_get, cntD_perm h, cntD_app]
  omega
 have hmz : m = depL zs := by
  refine Nat.le_antisymm ?_ ?_
  ·rcases Nat.eq_zero_or_pos m with h0 | h0
   ·omega
   ·have h1 := hlast h0
    rw [hg _ (by omega)] at h1
    refine Decidable.byContradiction fun h2 => ?_
    rw [cntD_out (by omega)] at h1
    exact h1 rfl
  ·refine Decidable.byContradiction fun h2 => ?_
   have hz : zs ≠ [] := fun e => by subst e; simp [depL] at h2
   have h1 := cntD_top hz
   have h3 := hout (depL zs - 1) (by omega) (by omega)
   rw [hg _ (by omega)] at h3
   omega
 refine tal_of (by rw [List.length_take, lessI_len, tal_len]; omega) fun i hi => ?_
 rw [List.length_take, lessI_len, tal_len] at hi
 rw [List.getD_eq_getElem?_getD, List.getElem?_take_of_lt (by omega), ← List.getD_eq_getElem?_getD]
 exact hg i (by omega)
set_option maxHeartbeats 8000000 in
theorem va_put_vec {S : Nat → Prop} (w : World) (X : Nat) (rc mc : Array Value) (d : Value) (N0 : Nat) (hX : w.heap[X]? = some (.cells (innC rc mc d N0) 123 (0, 0))) (hrs : rc.size = 4) (hms : mc.size = 6) (l : List Cel) (j : Nat) (u : ByteArray) (x : Cel) (hr : RootR S w rc l) (hj : j < l.length) (hN : l.length ≤ 200000) (hSX : ¬ S X) :
  Calls Tryz.prog 74 #[.pointer (some ⟨X, 0, none⟩), .agg #[.int .i64 0, .int .i64 (j : Int), .string u], .agg (celC x)] w fun r W' => r = .returned (.tuple #[]) ∧ ∃ rc', W'.heap[X]? = some (.cells (innC rc' mc d N0) 123 (0, 0)) ∧ RootR (fun g => S g ∨ w.heap.size ≤ g) W' rc' (l.set j x) ∧ ∃ W1, Below w.heap.size w W1 ∧ Only X W1 W' := by
 obtain ⟨s, hs⟩ : ∃ s : Int, s = 0 := ⟨_, rfl⟩
 obtain ⟨i, hi⟩ : ∃ i : Int, i = (j : Int) := ⟨_, rfl⟩
 rw [← hs, ← hi]
 obtain ⟨w1, hw1⟩ : ∃ w1, ((w.alloc (.cells #[.int .i64 s, .int .i64 i, .string u] 44)).alloc (.cells (celC x) 35)) = w1 := ⟨_, rfl⟩
 obtain ⟨hb1, hx1, hv1, hs1⟩ := two_new hw1
 have HV1 := Lib.hid hv1
 have HB1 := Lib.hid hb1
 have cs : w1.cell? ⟨w.heap.size, 0, none⟩ = some (.int .i64 s) := cell_in hx1 rfl
 have ci : w1.cell? ⟨w.heap.size, 1, none⟩ = some (.int .i64 i) := cell_in hx1 rfl
 have cu : w1.cell? ⟨w.heap.size, 2, none⟩ = some (.string u) := cell_in hx1 rfl
 have HC := Lib.hid (And.intro ci cu)
 have HXX : Hid (X < w.heap.size) := (Array.getElem?_eq_some_iff.1 hX).1
 have HX1 := Lib.hid ((hb1.block _ (Array.getElem?_eq_some_iff.1 hX).1).trans hX)
 have HZ := Lib.hid (And.intro hrs hms)
 have HSX := Lib.hid hSX
 have HCL := Lib.hid (fun W (hb : Below w1.heap.size w1 W) => rp_Set W (hr.old.later (hb1.trans (hb.mono hb1.size))) j x hj hN)
 rw [← hi] at HCL
 subst hs
 clear hx1 hs1 hb1 hX hrs hms hSX hv1 hr hj hN hi
 go_enter Tryz.func74, Tryz.ntmps74
 go_upto_region 1 with fail
 clear hw1
 go_upto_region 2 with fail
 clear cs ci cu
 have HKS : Hid (∀ V, Below w1.heap.size w1 V → V.cell? ⟨w.heap.size, 1, none⟩ = some (.int .i64 i) ∧ V.heap[w.heap.size + 1]? = some (.cells (celC x) 35 (0, 0)) ∧ V.heap[X]? = some (.cells (innC rc mc d N0) 123 (0, 0))) := fun V hV => ⟨keep_cell HC.out.1 hV, (hV.block _ (Array.getElem?_eq_some_iff.1 HV1.out).1).trans HV1.out, (hV.block _ (Array.getElem?_eq_some_iff.1 HX1.out).1).trans HX1.out⟩
 have HW : Hid (Below w1.heap.size w1 w1.drew) := drawn_below w1
 refine wp_region_T (S := (fun V => V.cell? ⟨w.heap.size, 1, none⟩ = some (.int .i64 i) ∧ V.heap[w.heap.size + 1]? = some (.cells (celC x) 35 (0, 0)) ∧ V.heap[X]? = some (.cells (innC rc mc d N0) 123 (0, 0)))) [0, 10, 11, 12, 13, 14] (by kernel_rfl) (by exact HKS.out _ HW.out) (fun hHeld => ?_)
 refine tkP 0 10 (h := ?_)
 refine tkL 1 11 (h := ?_)
 (try simp only [pq])
 refine tkL 2 12 (h := ?_)
 refine tkL 3 13 (h := ?_)
 (try simp only [pq])
 refine tyL 4 14 (hy := yieldsIf_arr (by rfl) 112 _ rfl X 0 rfl rc _ (fun w hw => (innC_rope HZ.out.1 hw.2.2)) Tryz.underlying112 rfl (by rw [HZ.out.1]; exact rope_size)) (h := ?_)
 refine tkL 5 15 (h := ?_)
 (try simp only [pq])
 refine tkL 6 16 (h := ?_)
 refine tyL 7 17 (hy := yieldsIf_load_row (by rfl) 35 _ rfl (w.heap.size + 1) rfl (celC x) 35 (0, 0) _ (fun w hw => hw.2.1) Tryz.underlying35 rfl (by exact val_size)) (h := ?_)
 (try simp only [pq])
 refine tkO 8 (some 18) (h := fun K hK => ?_)
 go_simp
 go_at_call 101
 (with_reducible refine (HCL.out _ (by exact HW.out)).mono ?_)
 rintro r w3 ⟨c', rfl, hr, hb⟩
 have HR := Lib.hid hr
 replace HW := Lib.hid (HW.out.trans (hb.mono HW.out.size))
 clear hb hr
 dsimp only
 refine hK.out _ _ (by exact HKS.out _ HW.out) (fun hHeld => ?_)
 clear hK K
 (try simp only [pq])
 refine tkL 9 9 (h := ?_)
 refine tkP 10 19 (h := ?_)
 (try simp only [pq])
 refine tkP 11 20 (h := ?_)
 refine tkP 12 21 (h := ?_)
 (try simp only [pq])
 refine tkP 13 22 (h := ?_)
 (try simp only [pq])
 refine tkU 14 none (h := fun K hK => ?_)
 refine st_mid_wp 112 _ _ rfl X 0 c' rfl rfl 123 _ ((HW.out.block _ (by exact (Array.getElem?_eq_some_iff.1 HX1.out).1)).trans HX1.out) (by rw [RootR.size HR.out]; exact rope_size) (by rw [innC_size HZ.out.1 HZ.out.2, RootR.size HR.out]; decide) (RootR.one HR.out) _ (innC_rp HZ.out.1 (RootR.size HR.out) _ _) ?_
 intro w5 h5 k5
 refine hK.out _ _ ?_
 clear hK K
 (try simp only [pq])
 refine wpAnyT_done (by kernel_rfl) ?_ _
 clear hHeld
 go_wp2_with fail
 have hxx := HXX.out
 have hlw := HB1.out.size
 have hlw3 := HW.out.size
 have hdr : w1.drew.heap.size = w1.heap.size := rfl
 refine bodyPost_ret (results_none rfl _ _ _) rfl ?_
 refine ⟨rfl, c', h5, ?_, w3, HB1.out.trans (HW.out.mono HB1.out.size), k5⟩
 exact HR.out.imp (Kq.only k5 (fun h => h.elim (fun h => HSX.out h.1) (fun h => by omega))) (fun g hg _ => hg.elim (fun h => .inl h.1) (fun h => .inr (by omega)))
set_option maxHeartbeats 8000000 in
theorem va_put_map {S : Nat → Prop} (w : World) (X : Nat) (rc mc : Array Value) (d : Value) (N0 : Nat) (hX : w.heap[X]? = some (.cells (innC rc mc d N0) 123 (0, 0))) (hrs : rc.size = 4) (hms : mc.size = 6) (sd : Nat) (nn : Int) (L : List Ent) (s i : Int) (u : ByteArray) (x : Cel) (hs0 : s ≠ 0) (hm : MapAt S w sd nn L mc) (hsd : sd < 18446744073709551616) (hL : Rise L) (hN : L.length ≤ 50000) (hu : u.size ≤ 9223372036854775800) (hT : Tab6 w) (hSX : ¬ S X) :
  Calls Tryz.prog 74 #[.pointer (some ⟨X, 0, none⟩), .agg #[.int .i64 s, .int .i64 i, .string u], .agg (celC x)] w fun r W' => r = .returned (.tuple #[]) ∧ ∃ mc', W'.heap[X]? = some (.cells (innC rc mc' d N0) 123 (0, 0)) ∧ MapAt (fun g => S g ∨ w.heap.size ≤ g) W' sd nn (insE L u x) mc' ∧ ∃ W1, Below w.heap.size w W1 ∧ Only X W1 W' := by
 obtain ⟨w1, hw1⟩ : ∃ w1, ((w.alloc (.cells #[.int .i64 s, .int .i64 i, .string u] 44)).alloc (.cells (celC x) 35)) = w1 := ⟨_, rfl⟩
 obtain ⟨hb1, hx1, hv1, hs1⟩ := two_new hw1
 have HV1 := Lib.hid hv1
 have HB1 := Lib.hid hb1
 have cs : w1.cell? ⟨w.heap.size, 0, none⟩ = some (.int .i64 s) := cell_in hx1 rfl
 have ci : w1.cell? ⟨w.heap.size, 1, none⟩ = some (.int .i64 i) := cell_in hx1 rfl
 have cu : w1.cell? ⟨w.heap.size, 2, none⟩ = some (.string u) := cell_in hx1 rfl
 have HC := Lib.hid (And.intro ci cu)
 have HXX : Hid (X < w.heap.size) := (Array.getElem?_eq_some_iff.1 hX).1
 have HX1 := Lib.hid ((hb1.block _ (Array.getElem?_eq_some_iff.1 hX).1).trans hX)
 have HZ := Lib.hid (And.intro hrs hms)
 have HSX := Lib.hid hSX
 have HCL := Lib.hid (fun W (hb : Below w1.heap.size w1 W) => hm_Set W sd hsd nn L mc u x hu (hm.old.later (hb1.trans (hb.mono hb1.size))) hL hN (hT.below (hb1.trans (hb.mono hb1.size))))
 clear hx1 hs1 hb1 hX hrs hms hSX hv1 hm hsd hL hN hu hT
 go_enter Tryz.func74, Tryz.ntmps74
 go_upto_region 1 with fail
 clear hw1
 go_upto_region 3 with fail
 clear cs ci cu
 have HKS : Hid (∀ V, Below w1.heap.size w1 V → V.cell? ⟨w.heap.size, 2, none⟩ = some (.string u) ∧ V.heap[w.heap.size + 1]? = some (.cells (celC x) 35 (0, 0)) ∧ V.heap[X]? = some (.cells (innC rc mc d N0) 123 (0, 0))) := fun V hV => ⟨keep_cell HC.out.2 hV, (hV.block _ (Array.getElem?_eq_some_iff.1 HV1.out).1).trans HV1.out, (hV.block _ (Array.getElem?_eq_some_iff.1 HX1.out).1).trans HX1.out⟩
 have HW : Hid (Below w1.heap.size w1 w1.drew) := drawn_below w1
 refine wp_region_T (S := (fun V => V.cell? ⟨w.heap.size, 2, none⟩ = some (.string u) ∧ V.heap[w.heap.size + 1]? = some (.cells (celC x) 35 (0, 0)) ∧ V.heap[X]? = some (.cells (innC rc mc d N0) 123 (0, 0)))) [11] (by kernel_rfl) (by exact HKS.out _ HW.out) (fun hHeld => ?_)
 refine tkL 0 23 (h := ?_)
 refine tkL 1 24 (h := ?_)
 (try simp only [pq])
 refine tkL 2 25 (h := ?_)
 refine tkL 3 26 (h := ?_)
 (try simp only [pq])
 refine tyL 4 27 (hy := yieldsIf_arr (by rfl) 121 _ rfl X 4 rfl mc _ (fun w hw => (innC_map HZ.out.1 HZ.out.2 hw.2.2)) Tryz.underlying121 rfl (by rw [HZ.out.2]; exact map_size)) (h := ?_)
 refine tkL 5 28 (h := ?_)
 (try simp only [pq])
 refine tkL 6 29 (h := ?_)
 refine tyL 7 30 (hy := yieldsIf_load_row (by rfl) 35 _ rfl (w.heap.size + 1) rfl (celC x) 35 (0, 0) _ (fun w hw => hw.2.1) Tryz.underlying35 rfl (by exact val_size)) (h := ?_)
 (try simp only [pq])
 refine tkO 8 (some 31) (h := fun K hK => ?_)
 go_simp
 go_at_call 102
 (with_reducible refine (HCL.out _ (by exact HW.out)).mono ?_)
 rintro r w3 ⟨c', rfl, hr, hb⟩
 have HR := Lib.hid hr
 replace HW := Lib.hid (HW.out.trans (hb.mono HW.out.size))
 clear hb hr
 dsimp only
 refine hK.out _ _ (by exact HKS.out _ HW.out) (fun hHeld => ?_)
 clear hK K
 (try simp only [pq])
 refine tkL 9 32 (h := ?_)
 refine tkL 10 33 (h := ?_)
 (try simp only [pq])
 refine tkU 11 none (h := fun K hK => ?_)
 refine st_mid_wp 121 _ _ rfl X 4 c' rfl rfl 123 _ ((HW.out.block _ (by exact (Array.getElem?_eq_some_iff.1 HX1.out).1)).trans HX1.out) (by rw [MapAt.size HR.out]; exact map_size) (by rw [innC_size HZ.out.1 HZ.out.2, MapAt.size HR.out]; decide) (MapAt.one HR.out) _ (innC_mp HZ.out.1 HZ.out.2 (MapAt.size HR.out) _ _) ?_
 intro w5 h5 k5
 refine hK.out _ _ ?_
 clear hK K
 (try simp only [pq])
 refine wpAnyT_done (by kernel_rfl) ?_ _
 clear hHeld
 go_wp2_with fail
 have hxx := HXX.out
 have hlw := HB1.out.size
 have hlw3 := HW.out.size
 have hdr : w1.drew.heap.size = w1.heap.size := rfl
 go_end0
 refine ⟨rfl, c', h5, ?_, w3, HB1.out.trans (HW.out.mono HB1.out.size), k5⟩
 exact HR.out.imp (Kq.only k5 (fun h => h.elim (fun h => HSX.out h.1) (fun h => by omega))).kp (fun g hg _ => hg.elim (fun h => .inl h.1) (fun h => .inr (by omega)))
theorem kq_chg {S : Nat → Prop} {W W1 W2 : World} {X : Nat} (hb : Below W.heap.size W W1) (k : Only X W1 W2) (hX : ¬ S X) : Kq S W W2 := (Kq.later hb).trans (Kq.only k hX)
section
variable {S : Nat → Prop} {w : World} {rc mc : Array Value} {d0 : Value} {N0 : Nat} {sd : Nat} {nn : Int} {lr : List Cel} {L : List Ent}
set_option maxHeartbeats 8000000 in
theorem chg_set_vec (l : List Cel) (j : Nat) (u : ByteArray) (hr : RootR S w rc l) (hj : j < l.length) (hN : l.length ≤ 50000) (hm : MapAt S w sd nn L mc) (p : Nat) (fp : Nat × Nat) (hp : w.heap[p]? = some (.cells #[.int .i64 0, .int .i64 (j : Int), .string u] 44 fp)) (q : Nat) (x : Cel) (fq : Nat × Nat) (hq : w.heap[q]? = some (.cells (celC x) 35 fq)) (hrs : rc.size = 4) (hms : mc.size = 6) : Chgs S w rc mc d0 N0 (l.set j x) sd nn L 73 #[.pointer (some ⟨p, 0, none⟩), .pointer (some ⟨q, 0, none⟩)] := by
 intro W X hW hwX hX
 have HC := Lib.hid (va_put_vec W X rc mc d0 N0 hX hrs hms l j u x (hr.old.later hW) hj (Nat.le_trans hN (by omega)) (fun h => by have := h.2; omega))
 have HP := Lib.hid ((hW.block _ (Array.getElem?_eq_some_iff.1 hp).1).trans hp)
 have HQ := Lib.hid ((hW.block _ (Array.getElem?_eq_some_iff.1 hq).1).trans hq)
 have HO := Lib.hid (hm.old.later hW)
 have HX := Lib.hid hwX
 clear hr hm hp hq hX hwX hW
 show Calls Tryz.prog 73 #[.pointer (some ⟨X, 0, none⟩), .pointer (some ⟨p, 0, none⟩), .pointer (some ⟨q, 0, none⟩)] W _
 go_enter Tryz.func73, Tryz.ntmps73
 go_wp2_with (first
  | (refine ld_if rfl 44 _ rfl p rfl 44 _ _ _ HP.out Tryz.underlying44 rfl step_size ?_)
  | (refine ld_if rfl 35 _ rfl q rfl 35 _ _ _ HQ.out Tryz.underlying35 rfl val_size ?_)
  | (go_at_call 74; (with_reducible refine HC.out.mono ?_); rintro r w2 ⟨rfl, h2⟩; have H2 := Lib.hid h2; clear h2))
 go_end0
 obtain ⟨c', h5, hc, W1, hb, k⟩ := H2.out
 exact ⟨rfl, c', mc, h5, hc, HO.out.imp (kq_chg hb k (fun h => by have := h.2; have := HX.out; omega)).kp (fun _ h _ => .inl h), W1, hb, k⟩
set_option maxHeartbeats 8000000 in
theorem chg_set_map (s i : Int) (u : ByteArray) (hs0 : s ≠ 0) (hr : RootR S w rc lr) (hm : MapAt S w sd nn L mc) (hsd : sd < 18446744073709551616) (hL : Rise L) (hN : L.length ≤ 50000) (hu : u.size ≤ 9223372036854775800) (hT : Tab6 w) (p : Nat) (fp : Nat × Nat) (hp : w.heap[p]? = some (.cells #[.int .i64 s, .int .i64 i, .string u] 44 fp)) (q : Nat) (x : Cel) (fq : Nat × Nat) (hq : w.heap[q]? = some (.cells (celC x) 35 fq)) (hrs : rc.size = 4) (hms : mc.size = 6) : Chgs S w rc mc d0 N0 lr sd nn (insE L u x) 73 #[.pointer (some ⟨p, 0, none⟩), .pointer (some ⟨q, 0, none⟩)] := by
 intro W X hW hwX hX
 have HC := Lib.hid (va_put_map W X rc mc d0 N0 hX hrs hms sd nn L s i u x hs0 (hm.old.later hW) hsd hL hN hu (hT.below hW) (fun h => by have := h.2; omega))
 have HP := Lib.hid ((hW.block _ (Array.getElem?_eq_some_iff.1 hp).1).trans hp)
 have HQ := Lib.hid ((hW.block _ (Array.getElem?_eq_some_iff.1 hq).1).trans hq)
 have HO := Lib.hid (hr.old.later hW)
 have HX := Lib.hid hwX
 clear hr hm hp hq hX hwX hW
 show Calls Tryz.prog 73 #[.pointer (some ⟨X, 0, none⟩), .pointer (some ⟨p, 0, none⟩), .pointer (some ⟨q, 0, none⟩)] W _
 go_enter Tryz.func73, Tryz.ntmps73
 go_wp2_with (first
  | (refine ld_if rfl 44 _ rfl p rfl 44 _ _ _ HP.out Tryz.underlying44 rfl step_size ?_)
  | (refine ld_if rfl 35 _ rfl q rfl 35 _ _ _ HQ.out Tryz.underlying35 rfl val_size ?_)
  | (go_at_call 74; (with_reducible refine HC.out.mono ?_); rintro r w2 ⟨rfl, h2⟩; have H2 := Lib.hid h2; clear h2))
 go_end0
 obtain ⟨c', h5, hc, W1, hb, k⟩ := H2.out
 exact ⟨rfl, rc, c', h5, HO.out.imp (kq_chg hb k (fun h => by have := h.2; have := HX.out; omega)) (fun _ h _ => .inl h), hc, W1, hb, k⟩
set_option maxHeartbeats 8000000 in
theorem chg_add_map (s i : Int) (u : ByteArray) (hs0 : s ≠ 0) (hr : RootR S w rc lr) (hm : MapAt S w sd nn L mc) (hsd : sd < 18446744073709551616) (hL : Rise L) (hN : L.length ≤ 50000) (hu : u.size ≤ 9223372036854775800) (hT : Tab6 w) (p : Nat) (fp : Nat × Nat) (hp : w.heap[p]? = some (.cells #[.int .i64 s, .int .i64 i, .string u] 44 fp)) (q : Nat) (x : Cel) (fq : Nat × Nat) (hq : w.heap[q]? = some (.cells (celC x) 35 fq)) (hrs : rc.size = 4) (hms : mc.size = 6) : Chgs S w rc mc d0 N0 lr sd nn (insE L u x) 75 #[.pointer (some ⟨p, 0, none⟩), .pointer (some ⟨q, 0, none⟩)] := by
 intro W X hW hwX hX
 have HC := Lib.hid (va_put_map W X rc mc d0 N0 hX hrs hms sd nn L s i u x hs0 (hm.old.later hW) hsd hL hN hu (hT.below hW) (fun h => by have := h.2; omega))
 have HP := Lib.hid ((hW.block _ (Array.getElem?_eq_some_iff.1 hp).1).trans hp)
 have HQ := Lib.hid ((hW.block _ (Array.getElem?_eq_some_iff.1 hq).1).trans hq)
 have HO := Lib.hid (hr.old.later hW)
 have HX := Lib.hid hwX
 clear hr hm hp hq hX hwX hW
 show Calls Tryz.prog 75 #[.pointer (some ⟨X, 0, none⟩), .pointer (some ⟨p, 0, none⟩), .pointer (some ⟨q, 0, none⟩)] W _
 go_enter Tryz.func75, Tryz.ntmps75
 go_wp2_with (first
  | (refine ld_if rfl 44 _ rfl p rfl 44 _ _ _ HP.out Tryz.underlying44 rfl step_size ?_)
  | (refine ld_if rfl 35 _ rfl q rfl 35 _ _ _ HQ.out Tryz.underlying35 rfl val_size ?_)
  | (go_at_call 74; (with_reducible refine HC.out.mono ?_); rintro r w2 ⟨rfl, h2⟩; have H2 := Lib.hid h2; clear h2))
 go_end0
 obtain ⟨c', h5, hc, W1, hb, k⟩ := H2.out
 exact ⟨rfl, rc, c', h5, HO.out.imp (kq_chg hb k (fun h => by have := h.2; have := HX.out; omega)) (fun _ h _ => .inl h), hc, W1, hb, k⟩
end
end Go.Proofs.YtpodmgihlomglaaGreatDoor
namespace Go.Proofs.YtpodmgihlomglaaGreatDoor
open Go.RowKit
set_option maxRecDepth 1000000
set_option linter.unusedSimpArgs false
theorem erase_perm {α : Type} {l : List α} {j : Nat} (h : j < l.length) : l.Perm ([l[j]] ++ l.eraseIdx j) := by
 rw [List.eraseIdx_eq_take_drop_succ]
 have e : l.take j ++ l[j] :: l.drop (j + 1) = l := by rw [← List.drop_eq_getElem_cons h, List.take_append_drop]
 conv => lhs; rw [← e]
 exact List.perm_middle
theorem part_some {a : Tr} {i : Int} {u : ByteArray} {j : Nat} (hj : j < a.xs.length) (h : atT a i u = some j) : partT a i u = a.xs[j] := by
 unfold partT
 rw [h]
 simp [hj]
theorem tal_one_le {xs : List Tr} {x : Tr} (h : x ∈ xs) : (tal [x]).length ≤ (tal xs).length := by
 rw [tal_len, tal_len]
 have := depL_mem h
 simp only [depL]
 omega
theorem intl_some (p : Addr) (n c : Nat) (w : World) : (binOp .eql 67 (.slice (some p) n c) (.slice none 0 0)).run Tryz.prog w = .ok (.bool false) w := by
 have hu := run_underlying (w := w) Tryz.underlying67
 have hm : Op.maxDepth = (Op.maxDepth - 1) + 1 := by decide
 unfold binOp
 simp only []
 unfold Op.equal
 rw [hm]
 unfold Op.equalIn
 simp [Sem.run_bind, hu, Result.andThen]
theorem il_sl : Tryz.prog.underlying 67 = some (.slice (Tryz.prog.elem 67)) := by kernel_rfl
theorem il_sizeV : ∀ w, (sizeOf (Tryz.prog.elem 67)).run Tryz.prog w = .ok 1 w := fun w => by
 have e : Tryz.prog.elem 67 = 3 := by kernel_rfl
 rw [e]
 obtain ⟨i, hi, _, h1, _⟩ := info_parts int_info
 simp [sizeOf, typeInfo, hi, h1]
set_option maxHeartbeats 8000000 in
theorem cl_ints {S : Nat → Prop} (w : World) (v : Value) (l : List Int) (hv : CutAt S w 1 v (iv l) l.length) (h0 : 0 < l.length) (hn : l.length ≤ 4096) :
  Calls Tryz.prog 100 #[v] w fun e w' => ∃ g c, e = .returned (.slice (some ⟨g, 0, none⟩) l.length c) ∧ l.length ≤ c ∧ w.heap.size ≤ g ∧ ∃ cur, w'.heap[g]? = some (.cells cur 3 (0, 0)) ∧ l.length ≤ cur.size ∧ (∀ j, j < l.length → cur[j]? = some (.int .i64 (l.getD j 0))) ∧ Below w.heap.size w w' := by
 obtain ⟨i, hi, hz, h1, h2⟩ := info_parts int_info
 have HV := Lib.hid hv
 have HI := Lib.hid (And.intro hi (And.intro hz (And.intro h1 h2)))
 obtain ⟨g, o, c, rfl, _⟩ := hv.pos h0
 obtain ⟨n, hn'⟩ : ∃ n, n = l.length := ⟨_, rfl⟩
 have HNL := Lib.hid hn'
 rw [← hn'] at hn h0 HV ⊢
 have HN := Lib.hid hn
 have H0 := Lib.hid h0
 clear hv hi hz h1 h2 hn h0 hn'
 have hnil := fun w => intl_some ⟨g, o, none⟩ n c w
 go_enter Tryz.func100, Tryz.ntmps100
 go_wp2_with (refine wpList_append_cut rfl _ _ 67 rfl w.heap.size 3 i (.int .i64 0) 8 Tryz.underlying67 HI.out.1 HI.out.2.1 HI.out.2.2.1 HI.out.2.2.2 rfl (by decide) rfl (World.ownsRow_lit (base := w.heap.size) (e := 3) (size := 1) w #[] 0 (Nat.le_refl _) (by unfold maxLen; omega) rfl) rfl (HV.out.later (Below.newly' _ _)) iv_one (by have := HN.out; unfold maxLen; omega) (by have := HN.out; omega) (by simp) ?_; intro v2 w2 ho2 hg2; have HO2 := Lib.hid ho2; have HG2 := Lib.hid hg2; clear ho2 hg2)
 go_ret
 obtain ⟨hl, ⟨e, h3⟩ | ⟨g2, c2, cur2, e, hb, hg, hc, h3, h4, h5⟩⟩ := HO2.out
 ·have := H0.out; omega
 ·rw [Nat.zero_add] at e hc h5
  refine ⟨g2, c2, by rw [← e]; rfl, hc, hb, cur2, hg, by omega, fun j hj => ?_, (Below.newly' w _).trans (below_of_grown HG2.out (by simp) (fun k e => by have e' : some w.heap.size = some k := e; have := Option.some.inj e'; omega))⟩
  rw [List.nil_append] at h5
  rw [← List.getD_eq_getElem?_getD, ← iv_at l j (by rw [← HNL.out]; exact hj), ← h5, List.getElem?_take_of_lt (by omega), Array.getElem?_toList]
set_option maxHeartbeats 8000000 in
theorem tl_less {S : Nat → Prop} (w : World) (d e : Value) (l m : List Int) (n p : Nat) (hd : CutAt S w 1 d (iv l) l.length) (he : CutAt S w 1 e (iv m) m.length) (h0 : 0 < l.length) (hl : l.length ≤ 100) (hm : m.length ≤ l.length) (hlb : RngI l) (hmb : RngI m) (hn : n ≤ 100000) (hp : p ≤ n) :
  Calls Tryz.prog 72 #[.agg #[d, .int .i64 (n : Int)], .agg #[e, .int .i64 (p : Int)]] w fun r w' => ∃ d', r = .returned (.agg #[d', .int .i64 ((n - p : Nat) : Int)]) ∧ CutAt (fun g => w.heap.size ≤ g) w' 1 d' (iv ((lessI l m).take (trimN (lessI l m) l.length))) ((lessI l m).take (trimN (lessI l m) l.length)).length ∧ Below w.heap.size w w' := by
 obtain ⟨da, dc, rfl, _⟩ := hd.shape
 obtain ⟨ea, ec, rfl, _⟩ := he.shape
 obtain ⟨w3, hw3⟩ : ∃ w3, ((w.alloc (.cells #[.slice da l.length dc, .int .i64 (n : Int)] 107)).alloc (.cells #[.slice ea m.length ec, .int .i64 (p : Int)] 107)).alloc (.cells #[.slice none 0 0, .int .i64 0] 107) = w3 := ⟨_, rfl⟩
 obtain ⟨hb3, hx3, hy3, hz3, hs3⟩ := three_newV hw3
 obtain ⟨N, hN⟩ : ∃ N, N = l.length := ⟨_, rfl⟩
 have HCL := Lib.hid (cl_ints w3 _ l (hd.later hb3) h0 (by omega))
 rw [← hN] at HCL h0
 have cx0 : w3.cell? ⟨w.heap.size, 0, none⟩ = some (.slice da N dc) := by rw [hN]; exact cell_in hx3 rfl
 have HX3 := Lib.hid hx3
 have HY3 := Lib.hid hy3
 have HZ3 := Lib.hid hz3
 have HB3 := Lib.hid hb3
 have HS3 := Lib.hid hs3
 have HE := Lib.hid (he.later hb3)
 have HN := Lib.hid (And.intro hN (And.intro hl (And.intro hm (And.intro hn hp))))
 have HLB := Lib.hid hlb
 have HMB := Lib.hid hmb
 have hm' : (m.length : Int) ≤ 100 := by omega
 have hN' : (N : Int) ≤ 100 := by omega
 have hn' : (n : Int) ≤ 100000 := by omega
 have hp' : (p : Int) ≤ (n : Int) := by omega
 rw [← hN]
 obtain ⟨F, hF⟩ : ∃ F, F = lessI l m := ⟨_, rfl⟩
 have HF := Lib.hid hF
 rw [← hF]
 clear hb3 hx3 hy3 hz3 hs3 hd he hl hm hlb hmb hn hp hN h0 hF
 rw [← HN.out.1] at hw3
 go_enter Tryz.func72, Tryz.ntmps72
 go_upto_region 1 with fail
 clear hw3
 go_upto_region 2 with (first
  | (go_at_call 100; refine HCL.out.mono ?_; rintro r w5 ⟨G, C, rfl, hc5, hG5, c5, hg5, hs5, hd5, hb5⟩; have HC5 := Lib.hid hc5; have HG5 := Lib.hid hG5; have HH5 := Lib.hid hg5; have HS5 := Lib.hid hs5; have HD5 := Lib.hid hd5; have HB5 := Lib.hid hb5; clear hc5 hG5 hg5 hs5 hd5 hb5))
 have hs3 := HS3.out
 have HY5 := Lib.hid ((HB5.out.block _ (by omega)).trans HY3.out)
 have cy0 : w5.cell? ⟨w.heap.size + 1, 0, none⟩ = some (.slice ea m.length ec) := cell_in HY5.out rfl
 clear hs3 cx0 HCL
 go_wp2_with fail
 go_loopw [14] (fun iv_ wr => ∃ (q : Nat) (cur : Array Value), iv_ = .int .i64 (q : Int) ∧ q ≤ m.length ∧ Hid (wr.heap[G]? = some (.cells cur 3 (0, 0))) ∧ Hid (N ≤ cur.size ∧ ∀ j, j < N → cur[j]? = some (.int .i64 (l.getD j 0 - if j < q then m.getD j 0 else 0))) ∧ Hid (Below w3.heap.size w3 wr)) (fun iv_ _ => m.length - (intOf iv_).toNat)
 case atStart => exact ⟨0, c5, rfl, Nat.zero_le _, HH5, ⟨HS5.out, fun j hj => by rw [HD5.out j hj]; simp⟩, HB5⟩
 case round =>
  clear HH5 HS5 HD5 HB5 HY5 cy0
  obtain ⟨q, cur, rfl, hq, HG, HC, HB⟩ := hrel
  by_cases hlt : q < m.length
  ·have hqN : q < N := by have := HN.out; omega
   have hqN' : (q : Int) < (N : Int) := by omega
   have hlt' : (q : Int) < (m.length : Int) := by omega
   obtain ⟨x, hx⟩ : ∃ x, x = l.getD q 0 := ⟨_, rfl⟩
   obtain ⟨y, hy⟩ : ∃ y, y = m.getD q 0 := ⟨_, rfl⟩
   have cg : wr.cell? ⟨G, q, none⟩ = some (.int .i64 x) := by
    have := HC.out.2 q hqN
    rw [if_neg (by omega), Int.sub_zero, ← hx] at this
    exact cell_in HG.out this
   obtain ⟨g, o, rfl, hcs⟩ := iv_cell (HE.out.later HB.out) (by omega)
   have cm := hcs q hlt
   rw [← hy] at cm
   have hxb := HLB.out q
   have hyb := HMB.out q
   rw [← hx] at hxb
   rw [← hy] at hyb
   obtain ⟨hx0, hx1⟩ := hxb
   obtain ⟨hy0, hy1⟩ := hyb
   have HX := Lib.hid (And.intro hx hy)
   clear hcs hx hy
   go_wp2_with (first
    | (refine st_cell rfl 3 _ _ rfl G q (.int .i64 (x - y)) rfl rfl rfl 3 cur HG.out int_size (by have := HC.out.1; omega) ?_; intro w6 h6 k6; have HG6 := Lib.hid h6; have HK6 := Lib.hid k6; clear h6 k6))
   go_roundw
   case rel =>
    refine ⟨q + 1, _, by simp, by omega, HG6, ⟨by rw [Array.size_setIfInBounds]; exact HC.out.1, fun j hj => ?_⟩, HB.out.trans (HK6.out.below HG5.out)⟩
    rw [Array.getElem?_setIfInBounds]
    by_cases e : q = j
    ·subst e
     rw [if_pos rfl, if_pos (by have := HC.out.1; omega), if_pos (by omega), ← HX.out.1, ← HX.out.2]
    ·rw [if_neg e, HC.out.2 j hj]
     by_cases h : j < q
     ·rw [if_pos h, if_pos (by omega)]
     ·rw [if_neg h, if_neg (by omega)]
   case measure => simp [intOf]; omega
  ·obtain rfl : q = m.length := by omega
   have HCF : Hid (∀ j, j < N → cur[j]? = some (.int .i64 (F.getD j 0))) := fun j hj => by
    rw [HC.out.2 j hj, HF.out, lessI_get _ _ (by rw [← HN.out.1]; exact hj)]
    split
    ·rfl
    ·rw [getD_out (l := m) (by omega)]
   obtain ⟨Wo, hWo⟩ : ∃ Wo, Wo = wr := ⟨_, rfl⟩
   subst hWo
   go_wp2_with fail
   go_loopw [5] (fun dv wr => ∃ (k : Nat), dv = .slice (some ⟨G, 0, none⟩) k C ∧ Hid (k ≤ N ∧ trimN F k = trimN F N) ∧ Wo = wr) (fun dv _ => match dv with | .slice _ k _ => k | _ => 0)
   case atStart => exact ⟨N, rfl, ⟨Nat.le_refl _, rfl⟩, rfl⟩
   case round =>
    obtain ⟨k, rfl, HK, rfl⟩ := hrel
    have hkN : (k : Int) ≤ 100 := by have := HK.out.1; omega
    cases k with
    | zero =>
     have hs3 := HS3.out
     have hge := HG5.out
     have hx := (HB.out.block w.heap.size (by omega)).trans HX3.out
     have hy := (HB.out.block (w.heap.size + 1) (by omega)).trans HY3.out
     have HZ := Lib.hid ((HB.out.block (w.heap.size + 2) (by omega)).trans HZ3.out)
     have cx1 : Wo.cell? ⟨w.heap.size, 1, none⟩ = some (.int .i64 (n : Int)) := cell_in hx rfl
     have cy1 : Wo.cell? ⟨w.heap.size + 1, 1, none⟩ = some (.int .i64 (p : Int)) := cell_in hy rfl
     clear hx hy hs3 hge
     go_wp2_with (first
      | (refine st_agg rfl 107 _ _ rfl (w.heap.size + 2) #[.slice (some ⟨G, 0, none⟩) 0 C, .int .i64 ((n : Int) - (p : Int))] rfl rfl 107 _ HZ.out tally_size rfl (by simp [Value.oneCell']) ?_; intro w7 h7 k7))
     have hs3 := HS3.out
     refine bodyPost_ret (results_cell_row rfl _ _ (w.heap.size + 2) 107 _ (0, 0) _ rfl h7 Tryz.underlying107 rfl tally_size) rfl ⟨_, by rw [Int.ofNat_sub HN.out.2.2.2.2], ?_, (HB3.out.trans (HB.out.mono HB3.out.size)).trans (k7.below (by omega))⟩
     rw [← HK.out.2, trimN, List.take_zero]
     exact cut_fresh (k7.other HG.out (by have := HG5.out; omega)) (by have := HG5.out; omega) rfl (Nat.zero_le _) fun j hj => by simp at hj
    | succ k =>
     have hk1 : ((k + 1 : Nat) : Int) - 1 = (k : Int) := by omega
     have hk0 : ((k + 1 : Nat) : Int) > 0 := by omega
     have ck : Wo.cell? ⟨G, k, none⟩ = some (.int .i64 (F.getD k 0)) := cell_in HG.out (HCF.out k (by have := HK.out.1; omega))
     obtain ⟨z, hz⟩ : ∃ z, z = F.getD k 0 := ⟨_, rfl⟩
     rw [← hz] at ck
     have hkk : (k : Int) < ((k + 1 : Nat) : Int) := by omega
     have HZZ := Lib.hid hz
     obtain ⟨K1, hK1⟩ : ∃ K1, K1 = k + 1 := ⟨_, rfl⟩
     rw [← hK1] at hk1 hk0 hkk HK hkN
     have HKE := Lib.hid hK1
     have hkk2 : k < K1 := by omega
     by_cases ez : z = 0
     ·have hr : ∀ w, (Instr.slice 67 (.slice (some ⟨G, 0, none⟩) K1 C) none (some (.int .i64 (k : Int))) none).run Tryz.prog w = .ok (.slice (some ⟨G, 0, none⟩) k C) w := fun w => by
       rw [run_slice_h w 67 (some ⟨G, 0, none⟩) K1 C il_sl _ _ (by omega) (by have := HC5.out; have := HK.out.1; omega), il_sizeV]
       simp [Result.andThen_ok, sliced, Int.toNat_natCast, Addr.add]
      have hkC : k ≤ C := by have := HC5.out; have := HK.out.1; omega
      have hkC' : (k : Int) ≤ (C : Int) := by omega
      subst ez
      clear hz hK1
      go_wp2_with fail
      go_roundw
      case rel =>
       refine ⟨k, rfl, ⟨by have := HK.out.1; omega, ?_⟩, by first | rfl | trivial⟩
       rw [← HK.out.2, HKE.out, trimN, if_pos HZZ.out.symm]
      case measure => show k < k + 1; omega
     ·have hs3 := HS3.out
      have hge := HG5.out
      have hx := (HB.out.block w.heap.size (by omega)).trans HX3.out
      have hy := (HB.out.block (w.heap.size + 1) (by omega)).trans HY3.out
      have HZ := Lib.hid ((HB.out.block (w.heap.size + 2) (by omega)).trans HZ3.out)
      have cx1 : Wo.cell? ⟨w.heap.size, 1, none⟩ = some (.int .i64 (n : Int)) := cell_in hx rfl
      have cy1 : Wo.cell? ⟨w.heap.size + 1, 1, none⟩ = some (.int .i64 (p : Int)) := cell_in hy rfl
      clear hx hy hs3 hge hz
      go_wp2_with (first
       | (refine st_agg rfl 107 _ _ rfl (w.heap.size + 2) #[.slice (some ⟨G, 0, none⟩) (k + 1) C, .int .i64 ((n : Int) - (p : Int))] rfl rfl 107 _ HZ.out tally_size rfl (by simp [Value.oneCell']) ?_; intro w7 h7 k7))
      have hs3 := HS3.out
      refine bodyPost_ret (results_cell_row rfl _ _ (w.heap.size + 2) 107 _ (0, 0) _ rfl h7 Tryz.underlying107 rfl tally_size) rfl ⟨_, by rw [Int.ofNat_sub HN.out.2.2.2.2], ?_, (HB3.out.trans (HB.out.mono HB3.out.size)).trans (k7.below (by omega))⟩
      subst hK1
      have htr : trimN F N = k + 1 := by rw [← HK.out.2, HKE.out, trimN, if_neg (by rw [← HZZ.out]; exact ez)]
      have hlen : (F.take (k + 1)).length = k + 1 := by rw [List.length_take, HF.out, lessI_len, ← HN.out.1]; have := HK.out.1; omega
      rw [htr]
      refine cut_fresh (k7.other HG.out (by have := HG5.out; omega)) (by have := HG5.out; omega) hlen.symm (by have := HC5.out; have := HK.out.1; omega) fun j hj => ?_
      rw [hlen] at hj
      rw [HCF.out j (by have := HK.out.1; omega), List.getD_eq_getElem?_getD, List.getD_eq_getElem?_getD, List.getElem?_take_of_lt hj]
def placeK (ks : List ByteArray) (t : ByteArray) : Nat := (ks.takeWhile fun y => decide (kb y < kb t)).length
theorem putN_len {β : Type} (n : Nat) (l : List β) (x : β) : (putN n l x).length = l.length + 1 := (putN_perm n l x).length_eq
theorem tw_take {β : Type} (p : β → Bool) (l : List β) : l.take (l.takeWhile p).length = l.takeWhile p := by
 have h := List.takeWhile_append_dropWhile (p := p) (l := l)
 conv => lhs; rw [← h]
 conv => lhs; rw [h]
 conv => lhs; arg 2; rw [← h]
 rw [List.take_left]
theorem tw_drop {β : Type} (p : β → Bool) (l : List β) : l.drop (l.takeWhile p).length = l.dropWhile p := by
 have h := List.takeWhile_append_dropWhile (p := p) (l := l)
 conv => lhs; arg 2; rw [← h]
 rw [List.drop_left]
theorem putK_eq (ks : List ByteArray) (t : ByteArray) : putN (placeK ks t) ks t = putB kb ks t := by
 unfold putN placeK putB
 rw [tw_take, tw_drop]
theorem putK_rise {ks : List ByteArray} {t : ByteArray} (h : ks.Pairwise fun a b => kb a < kb b) (hn : t ∉ ks) : (putN (placeK ks t) ks t).Pairwise fun a b => kb a < kb b := by
 rw [putK_eq]
 exact putB_rise (f := kb) h fun y hy e => hn (by rw [← kb_inj e]; exact hy)
theorem nodL_del : ∀ (l : List Tr) (j : Nat) (h : j < l.length), nodL (l.eraseIdx j) + nodT l[j] = nodL l
 | [], _, h => by simp at h
 | a :: l, 0, _ => by simp only [List.eraseIdx_cons_zero, List.getElem_cons_zero, nodL]; omega
 | a :: l, j + 1, h => by
  have := nodL_del l j (by simpa using h)
  simp only [List.eraseIdx_cons_succ, List.getElem_cons_succ, nodL]
  omega
theorem depL_sub {l m : List Tr} (h : l.Sublist m) : depL l ≤ depL m := by
 induction h with
 | slnil => exact Nat.le_refl _
 | cons a _ ih => rw [depL]; omega
 | cons_cons a _ ih => rw [depL, depL]; omega
def setT (a : Tr) (sk i : Int) (t : ByteArray) (x : Tr) : Tr × Int :=
 if fitT a.k sk ≠ 0 then (nullT, fitT a.k sk)
 else if a.k = 6 then (nullT, 12)
 else match atT a i t with
  | some j => withinT (.nd a.k 0 ⟨#[]⟩ a.ks (a.xs.set j x))
  | none => if a.k = 4 then (nullT, 5) else withinT (.nd a.k 0 ⟨#[]⟩ (putN (placeK a.ks t) a.ks t) (putN (placeK a.ks t) a.xs x))
def addT (a x : Tr) : Tr × Int :=
 if a.k ≠ 6 then (nullT, 3)
 else match atT a 0 ⟨(keyT x).toArray⟩ with
  | some _ => (a, 0)
  | none => withinT (.nd 6 0 ⟨#[]⟩ [] (putB keyT a.xs x))
theorem riseK_inj {M : List ByteArray} (h : RiseK M) {i j : Nat} (hi : i < M.length) (hj : j < M.length) (e : M[i] = M[j]) : i = j := by
 rcases Nat.lt_trichotomy i j with hl | hl | hl
 ·exact absurd e (lt_ne (List.pairwise_iff_getElem.1 h i j hi hj hl))
 ·exact hl
 ·exact absurd e.symm (lt_ne (List.pairwise_iff_getElem.1 h j i hj hi hl))
section
variable {M : List ByteArray} {l : List Cel} {t : ByteArray} {c : Cel}
theorem ins_zip_set (h : RiseK M) (hl : M.length = l.length) {j : Nat} (hi : idxK M t = some j) : insE (M.zip l) t c = M.zip (l.set j c) := by
 obtain ⟨hj, e⟩ := idx_some hi
 refine rise_mem ((zip_rise h hl).ins t c) (zip_rise h (by simpa using hl)) fun x => ?_
 rw [mem_ins, zip_mem, zip_mem]
 constructor
 ·rintro (rfl | ⟨⟨i, h1, h2⟩, hne⟩)
  ·exact ⟨j, by rw [List.getElem?_eq_getElem hj, e], by rw [List.getElem?_set_self (by omega)]⟩
  ·refine ⟨i, h1, ?_⟩
   rw [List.getElem?_set_ne (fun e' => hne ?_)]
   ·exact h2
   ·subst e'
    rw [List.getElem?_eq_getElem hj, e] at h1
    exact (Option.some.inj h1).symm
 ·rintro ⟨i, h1, h2⟩
  by_cases e' : j = i
  ·subst e'
   rw [List.getElem?_eq_getElem hj, e] at h1
   rw [List.getElem?_set_self (by omega)] at h2
   left
   obtain ⟨x1, x2⟩ := x
   rw [Option.some.inj h1, Option.some.inj h2]
  ·rw [List.getElem?_set_ne e'] at h2
   refine .inr ⟨⟨i, h1, h2⟩, fun e2 => e' ?_⟩
   obtain ⟨hi', e3⟩ := List.getElem?_eq_some_iff.1 h1
   exact riseK_inj h hj hi' (by rw [e, e3, e2])
theorem zip_putN (hl : M.length = l.length) (n : Nat) : (putN n M t).zip (putN n l c) = putN n (M.zip l) (t, c) := by
 unfold putN
 have e1 : (M.zip l).take n = (M.take n).zip (l.take n) := by simp only [List.zip, List.take_zipWith]
 have e2 : (M.zip l).drop n = (M.drop n).zip (l.drop n) := by simp only [List.zip, List.drop_zipWith]
 rw [List.zip_append (by simp [hl]), List.zip_cons_cons, e1, e2]
theorem ins_zip_put (h : RiseK M) (hl : M.length = l.length) (hi : idxK M t = none) : insE (M.zip l) t c = (putN (placeK M t) M t).zip (putN (placeK M t) l c) := by
 have hn := idx_none hi
 refine rise_mem ((zip_rise h hl).ins t c) (zip_rise (putK_rise h hn) (by rw [putN_len, putN_len, hl])) fun x => ?_
 rw [zip_putN hl, mem_ins, (putN_perm _ _ _).mem_iff, List.mem_cons]
 refine or_congr Iff.rfl ⟨fun h => h.1, fun h' => ⟨h', fun e => ?_⟩⟩
 obtain ⟨i, h1, _⟩ := zip_mem.1 h'
 exact hn (e ▸ List.mem_of_getElem? h1)
end
end Go.Proofs.YtpodmgihlomglaaGreatDoor
