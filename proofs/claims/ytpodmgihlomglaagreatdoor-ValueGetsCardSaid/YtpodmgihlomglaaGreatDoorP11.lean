import Derived.Test.YtpodmgihlomglaaGreatDoorP10
namespace Go.Proofs.YtpodmgihlomglaaGreatDoor
open Go.RowKit Go.Shelf
set_option maxRecDepth 1000000
set_option linter.unusedSimpArgs false
attribute [local go_sem] Oper.semAt_some
theorem mid_wide {ops : Array Oper} {rest : List Oper} {o : Oper} {a : Act} {w : World} {Q : Exit → Act → World → Prop} {n : Nat} (hgd : o.guard = none) (ty : TypeId) (x : Operand) (ho : o.op = .load ty x)
  (b k : Nat) (hx : a.eval x = .pointer (some ⟨b, k, none⟩)) (cs : List Value) (d : TypeDesc) (hc : w.rangeAt b k cs)
  (hu : Tryz.prog.underlying ty = some d) (hd : d.isRow = true) (hi : (Tryz.prog.info? ty).map (·.size) = some cs.length)
  (h : wpListIn Fence.wide n Tryz.prog ops Q rest (a.put o.dst (.agg cs.toArray)) w) : wpListIn Fence.wide n Tryz.prog ops Q (o :: rest) a w :=
 wpListIn_plain hgd fun _ hK => wp_in_wide (fun c' hc => by rw [ho] at hc; cases hc) (wp_load_mid ty x ho b k hx cs d hc hu hd hi (hK _ _ h))
theorem st_wide {ops : Array Oper} {rest : List Oper} {o : Oper} {a : Act} {w : World} {Q : Exit → Act → World → Prop} {n : Nat} (hgd : o.guard = none) (ty : TypeId) (x y : Operand) (ho : o.op = .store ty x y)
  (X : Nat) (c' : Array Value) (hx : a.eval x = .pointer (some ⟨X, 0, none⟩)) (hy : a.eval y = .agg c') (T : TypeId) (c : Array Value) (hB : w.heap[X]? = some (.cells c T (0, 0)))
  (hi : (Tryz.prog.info? ty).map (·.size) = some c'.size) (hs : c.size = c'.size) (h1 : c'.all (·.oneCell') = true)
  (h : ∀ w', w'.heap[X]? = some (.cells c' T (0, 0)) → Only X w w' → wpListIn Fence.wide n Tryz.prog ops Q rest (a.put o.dst undef) w') : wpListIn Fence.wide n Tryz.prog ops Q (o :: rest) a w :=
 wpListIn_plain hgd fun _ hK => wp_in_wide (fun c' hc => by rw [ho] at hc; cases hc) (st_agg_wp ty x y ho X c' hx hy T c hB hi hs h1 fun w' h1 h2 => hK _ _ (h w' h1 h2))
def StepIn (X Y : Nat) (K Kx : List Cel → World → Prop) (LST : List Cel) (n₀ : Nat) : Prop := ∀ m pre x V, K pre V → pre ++ [x] <+: LST → n₀ ≤ V.heap.size →
 CallsIn Fence.wide m Tryz.prog 112 #[.agg (celC x), .pointer (some ⟨X, 0, none⟩), .pointer (some ⟨Y, 0, none⟩)] V fun e V' =>
  (e = .returned (.bool true) ∧ K (pre ++ [x]) V' ∧ Below n₀ V V' ∧ TK 110 V V') ∨ (e = .returned (.bool false) ∧ Kx (pre ++ [x]) V')
def EachIn (X Y : Nat) (K Kx : List Cel → World → Prop) (LST : List Cel) (n₀ h : Nat) : Prop := ∀ m (p : Kid) pre W, NodeR (fun g => g < n₀) W h p → K pre W → pre ++ p.l <+: LST → n₀ ≤ W.heap.size →
 CallsIn Fence.wide m Tryz.prog 111 #[.agg (kidc h p).toArray, .func (.func 112) #[] #[.pointer (some ⟨X, 0, none⟩), .pointer (some ⟨Y, 0, none⟩)]] W fun e W' =>
  (e = .returned (.bool true) ∧ K (pre ++ p.l) W' ∧ Below n₀ W W' ∧ TK 110 W W') ∨ (e = .returned (.bool false) ∧ ∃ q, q <+: p.l ∧ Kx (pre ++ q) W')
set_option maxHeartbeats 1000000 in
theorem each_leaf {X Y n₀ : Nat} {LST : List Cel} {K Kx : List Cel → World → Prop} (hstep : StepIn X Y K Kx LST n₀) (hK : ∀ pre A B, K pre A → Below A.heap.size A B → K pre B) : EachIn X Y K Kx LST n₀ 0 := by
 intro m p pre W hp hk hlen hn
 obtain ⟨w1, hw1⟩ : ∃ w1, W.alloc (.cells (kidc 0 p).toArray 110) = w1 := ⟨_, rfl⟩
 obtain ⟨hb1, hx1, hs1⟩ := nodes_new hw1
 obtain ⟨hpa, hpk, hp1, hp16, hph⟩ := hp
 obtain ⟨g, c, cur, fr, hpb, hcap, hS, hg, hcs⟩ := hph.pos hp1
 have ca2 : w1.cell? ⟨W.heap.size, 2, none⟩ = some (.slice none 0 0) := by rw [← hpa]; exact cell_in hx1 rfl
 have ca3 : w1.cell? ⟨W.heap.size, 3, none⟩ = some (.slice (some ⟨g, 0, none⟩) p.k c) := by rw [← hpb]; exact cell_in hx1 rfl
 obtain ⟨n, hn'⟩ : ∃ n, n = p.k := ⟨_, rfl⟩
 rw [← hn'] at ca3 hp16 hp1 hpk hcap
 have HC : Hid (∀ j (hj : j < p.l.length), W.rangeAt g (j * 4) (enV p.l[j])) := fun j hj i v hv => by
  have hi : i < 4 := (List.getElem?_eq_some_iff.1 hv).1
  refine cell_in hg (hcs _ v ?_)
  rw [en_at enV_len p.l j i p.l[j] (List.getElem?_eq_getElem hj) hi]
  exact hv
 have HS : Hid (g < n₀) := hS
 have HK1 := Lib.hid (hK _ _ _ hk hb1)
 have HB1 := Lib.hid (hb1.mono hn)
 have HT1 : Hid (TK 110 W w1) := TK.below hb1
 have HP := Lib.hid (And.intro hpk (And.intro hlen hn))
 have hn16 : (n : Int) ≤ 16 := by omega
 have HKA := Lib.hid hK
 clear hp1 hp16 hph hpb hcap hS hg hcs hpa hb1 hx1 hs1 hk hlen hn hpk hn'
 refine callsIn_of_wp Tryz.func111 rfl trivial ?_ rfl
 simp only [Tryz.ntmps111, List.size_toArray, List.length_cons, List.length_nil, Nat.reduceAdd, Nat.reduceSub, Array.replicate_succ, Array.replicate_zero, List.push_toArray, List.append_toArray, List.nil_append, List.cons_append]
 gi_wp2
 gi_loopw [12] (fun iv wr => iv = .int .i64 0 ∧ w1 = wr) (fun _ _ => 0)
 case atStart => exact ⟨rfl, rfl⟩
 case round =>
  obtain ⟨rfl, rfl⟩ := hrel
  gi_wp2
  gi_loopw [24] (fun iv wr => ∃ j : Nat, iv = .int .i64 (j : Int) ∧ j ≤ n ∧ Hid (K (pre ++ p.l.take j) wr) ∧ Hid (Below n₀ W wr) ∧ Hid (TK 110 W wr)) (fun iv _ => n - (intOf iv).toNat)
  case atStart => exact ⟨0, rfl, Nat.zero_le _, (by simpa using HK1), HB1, HT1⟩
  case round =>
   obtain ⟨j, rfl, hj, HKJ, HBJ, HTJ⟩ := hrel
   by_cases hjn : j < n
   ·have hpp := HP.out
    have hjl : j < p.l.length := by omega
    have HRG := Lib.hid (fun i v hv => (HBJ.out.cell (p := ⟨g, _ + i, none⟩) HS.out).trans (HC.out j hjl i v hv))
    have HTK := Lib.hid (List.take_succ_eq_append_getElem hjl)
    have hst := fun (V : World) (hkv : K (pre ++ p.l.take j) V) (hnv : n₀ ≤ V.heap.size) => hstep (m - 1) (pre ++ p.l.take j) p.l[j] V hkv (by rw [List.append_assoc, ← List.take_succ_eq_append_getElem hjl]; exact ((List.prefix_append_right_inj _).2 (List.take_prefix _ _)).trans hpp.2.1) hnv
    have HNW : Hid (n₀ ≤ wr.heap.size) := Nat.le_trans hpp.2.2 HBJ.out.size
    obtain ⟨x, hx⟩ : ∃ x, x = p.l[j] := ⟨_, rfl⟩
    rw [← hx] at HRG hst HTK
    have HRG2 : Hid (wr.rangeAt g (j * 4) (enV x)) := fun i v hv => HRG.out i v hv
    have HST := Lib.hid hst
    have hjn' : (j : Int) < n := by omega
    clear hx hpp hst HRG
    gi_wp2_with (first
     | (refine mid_wide rfl 35 _ rfl g (j * 4) rfl (enV x) _ HRG2.out Tryz.underlying35 rfl val_size ?_)
     | (refine st_wide rfl 35 _ _ rfl wr.heap.size (celC x) rfl rfl 35 (celC zeroV) (heap_alloc_last _ _) val_size rfl (celC_one x) ?_; intro w5 h5 k5; have HB5 : Hid (Below wr.heap.size wr w5) := (Below.newly' _ _).trans (k5.below (Nat.le_refl _)); have HX5 := Lib.hid h5; clear h5 k5)
     | (refine ld_wide rfl 35 _ rfl wr.heap.size rfl 35 _ _ _ HX5.out Tryz.underlying35 rfl val_size ?_))
    refine ⟨trivial, fun h => absurd h (by simp [Fence.wide]), ?_⟩
    refine (HST.out w5 (HKA.out _ _ _ HKJ.out HB5.out) (Nat.le_trans HNW.out HB5.out.size)).mono ?_
    rintro e W3 (⟨rfl, hk3, hb3, ht3⟩ | ⟨rfl, hx3⟩)
    ·have HK3 := Lib.hid hk3
     have HB3 := Lib.hid ((HBJ.out.trans (HB5.out.mono HNW.out)).trans hb3)
     have HT3 := Lib.hid ((HTJ.out.trans (TK.below HB5.out)).trans ht3)
     clear hk3 hb3 ht3
     gi_wp2
     go_roundw
     case rel =>
      refine ⟨j + 1, by simp, by omega, ?_, HB3, HT3⟩
      rw [HTK.out, ← List.append_assoc]
      exact HK3
     case measure => simp [intOf]; omega
    ·have HX3 := Lib.hid hx3
     clear hx3
     gi_wp2
     go_ret
     refine .inr ⟨rfl, p.l.take j ++ [x], ?_, by rw [← List.append_assoc]; exact HX3.out⟩
     rw [← HTK.out]
     exact List.take_prefix _ _
   ·have hpp := HP.out
    have e : p.l.take j = p.l := List.take_of_length_le (by omega)
    rw [e] at HKJ
    clear hpp e
    gi_wp2
    go_ret
    exact .inl ⟨rfl, HKJ.out, HBJ.out, HTJ.out⟩
set_option maxHeartbeats 1000000 in
theorem each_inner {X Y n₀ : Nat} {LST : List Cel} {K Kx : List Cel → World → Prop} (hK : ∀ pre A B, K pre A → Below A.heap.size A B → K pre B) (h : Nat) (ih : EachIn X Y K Kx LST n₀ h) : EachIn X Y K Kx LST n₀ (h + 1) := by
 intro m p pre W hp hk hlen hn
 obtain ⟨w1, hw1⟩ : ∃ w1, W.alloc (.cells (kidc (h + 1) p).toArray 110) = w1 := ⟨_, rfl⟩
 obtain ⟨hb1, hx1, hs1⟩ := nodes_new hw1
 obtain ⟨hpb, hp1, hp16, ks, hph, hkl, hl, hks⟩ := hp
 obtain ⟨g, c, cur, fr, hpa, hcap, hS, hg, hcs⟩ := hph.pos hp1
 have ca2 : w1.cell? ⟨W.heap.size, 2, none⟩ = some (.slice (some ⟨g, 0, none⟩) p.k c) := by rw [← hpa]; exact cell_in hx1 rfl
 have HX1 := Lib.hid hx1
 obtain ⟨n, hn'⟩ : ∃ n, n = p.k := ⟨_, rfl⟩
 rw [← hn'] at ca2 hp16 hp1 hkl hcap
 have HC : Hid (∀ j (hj : j < ks.length), W.rangeAt g (j * 4) (kidc h ks[j])) := fun j hj => en_range (h := h) hg hcs hj
 have HS : Hid (g < n₀) := hS
 have HK1 := Lib.hid (hK _ _ _ hk hb1)
 have HB1 := Lib.hid (hb1.mono hn)
 have HT1 : Hid (TK 110 W w1) := TK.below hb1
 have HP := Lib.hid (And.intro hkl (And.intro hlen (And.intro hn (And.intro hl hpb))))
 have HKS := Lib.hid hks
 have HSZ : Hid (w1.heap.size = W.heap.size + 1) := hs1
 have hn16 : (n : Int) ≤ 16 := by omega
 have HKA := Lib.hid hK
 clear hp1 hp16 hph hcap hS hg hcs hpa hpb hb1 hx1 hs1 hk hlen hn hkl hn' hl hks
 refine callsIn_of_wp Tryz.func111 rfl trivial ?_ rfl
 simp only [Tryz.ntmps111, List.size_toArray, List.length_cons, List.length_nil, Nat.reduceAdd, Nat.reduceSub, Array.replicate_succ, Array.replicate_zero, List.push_toArray, List.append_toArray, List.nil_append, List.cons_append]
 gi_wp2
 gi_loopw [12] (fun iv wr => ∃ j : Nat, iv = .int .i64 (j : Int) ∧ j ≤ n ∧ Hid (K (pre ++ catK (ks.take j)) wr) ∧ Hid (Below n₀ W wr) ∧ Hid (TK 110 W wr) ∧ Hid (wr.heap[W.heap.size]? = some (.cells (kidc (h + 1) p).toArray 110 (0, 0)))) (fun iv _ => n - (intOf iv).toNat)
 case atStart => exact ⟨0, rfl, Nat.zero_le _, (by simpa [catK] using HK1), HB1, HT1, HX1⟩
 case round =>
  clear HK1 HB1 HT1 HX1
  obtain ⟨j, rfl, hj, HKJ, HBJ, HTJ, HXJ⟩ := hrel
  by_cases hjn : j < n
  ·have hpp := HP.out
   have hjl : j < ks.length := by omega
   have HRG := Lib.hid (fun j v hv => (HBJ.out.cell (p := ⟨g, _ + j, none⟩) HS.out).trans (HC.out _ hjl j v hv))
   have HSUM := Lib.hid (cat_take_succ hjl)
   have hle := cat_take_le (ks := ks) (j + 1)
   have hjn' : (j : Int) < n := by omega
   have HND := Lib.hid ((HKS.out _ (List.getElem_mem hjl)).2.low HBJ.out)
   have hcat : catK (ks.take (j + 1)) = catK (ks.take j) ++ ks[j].l := by rw [List.take_succ_eq_append_getElem hjl, catK_app, catK_one]
   have HCAT := Lib.hid hcat
   have HPRE : Hid (catK (ks.take (j + 1)) <+: p.l) := by
    show _ <+: _
    rw [hpp.2.2.2.1]
    refine ⟨catK (ks.drop (j + 1)), ?_⟩
    rw [← catK_app, List.take_append_drop]
   obtain ⟨y, hy⟩ : ∃ y, y = ks[j] := ⟨_, rfl⟩
   rw [← hy] at HRG HSUM HND HCAT
   have HLY : Hid (pre ++ catK (ks.take j) ++ y.l <+: LST) := by
    show _ <+: _
    rw [List.append_assoc, ← HCAT.out]
    exact ((List.prefix_append_right_inj _).2 HPRE.out).trans hpp.2.1
   have HYO := Lib.hid (kid_one h y)
   have HRG2 : Hid (wr.rangeAt g (j * 4) (kidc h y)) := fun i v hv => HRG.out i v hv
   have HNW : Hid (n₀ ≤ wr.heap.size) := Nat.le_trans hpp.2.2.1 HBJ.out.size
   clear hpp hle hcat hy HRG
   gi_wp2_with (first
    | (refine mid_wide rfl 110 _ rfl g (j * 4) rfl (kidc h y) _ HRG2.out Tryz.underlying110 rfl rnode_size ?_)
    | (refine st_wide rfl 110 _ _ rfl wr.heap.size (kidc h y).toArray rfl rfl 110 zeroR (heap_alloc_last _ _) rnode_size rfl HYO.out ?_; intro w5 h5 k5; have HB5 : Hid (Below wr.heap.size wr w5) := (Below.newly' _ _).trans (k5.below (Nat.le_refl _)); have HX5 := Lib.hid h5; clear h5 k5)
    | (refine ld_wide rfl 110 _ rfl wr.heap.size rfl 110 _ _ _ HX5.out Tryz.underlying110 rfl rnode_size ?_))
   refine ⟨trivial, fun h => absurd h (by simp [Fence.wide]), ?_⟩
   have hk5 := HKA.out _ _ _ HKJ.out HB5.out
   have ht5 : TK 110 wr w5 := TK.below HB5.out
   refine (ih (m - 1) y (pre ++ catK (ks.take j)) w5 (HND.out.low (HB5.out.mono HNW.out)) hk5 HLY.out (Nat.le_trans HNW.out HB5.out.size)).mono ?_
   rintro e W3 (⟨rfl, hk3, hb3, ht3⟩ | ⟨rfl, q, hq, hx3⟩)
   ·have HK3 := Lib.hid hk3
    have HB3 := Lib.hid ((HBJ.out.trans (HB5.out.mono HNW.out)).trans hb3)
    have HT3 := Lib.hid ((HTJ.out.trans ht5).trans ht3)
    have HX3 := Lib.hid (ht3 _ _ _ (ht5 _ _ _ HXJ.out))
    clear hk3 hb3 ht3 hk5 ht5
    gi_wp2
    go_roundw
    case rel =>
     refine ⟨j + 1, by simp, by omega, ?_, HB3, HT3, HX3⟩
     rw [HCAT.out, ← List.append_assoc]
     exact HK3
    case measure => simp [intOf]; omega
   ·have HX3 := Lib.hid hx3
    have HQ := Lib.hid hq
    clear hx3 hq hk5 ht5
    gi_wp2
    go_ret
    refine .inr ⟨rfl, catK (ks.take j) ++ q, ?_, by rw [← List.append_assoc]; exact HX3.out⟩
    refine List.IsPrefix.trans ?_ HPRE.out
    rw [HCAT.out]
    exact (List.prefix_append_right_inj _).2 HQ.out
  ·have hpp := HP.out
   have e : catK (ks.take j) = p.l := by rw [hpp.2.2.2.1, List.take_of_length_le (by omega)]
   rw [e] at HKJ
   have cc3 : wr.cell? ⟨W.heap.size, 3, none⟩ = some (.slice none 0 0) := by rw [← hpp.2.2.2.2]; exact cell_in HXJ.out rfl
   clear hpp e
   obtain ⟨Wo, hWo⟩ : ∃ Wo, Wo = wr := ⟨_, rfl⟩
   subst hWo
   gi_wp2
   gi_loopw [24] (fun iv wr => iv = .int .i64 0 ∧ Wo = wr) (fun _ _ => 0)
   case atStart => exact ⟨rfl, rfl⟩
   case round =>
    obtain ⟨rfl, rfl⟩ := hrel
    gi_wp2
    go_ret
    exact .inl ⟨rfl, HKJ.out, HBJ.out, HTJ.out⟩
theorem rp_each {X Y n₀ : Nat} {LST : List Cel} {K Kx : List Cel → World → Prop} (hstep : StepIn X Y K Kx LST n₀) (hK : ∀ pre A B, K pre A → Below A.heap.size A B → K pre B) : ∀ h, EachIn X Y K Kx LST n₀ h
 | 0 => each_leaf hstep hK
 | h + 1 => each_inner hK h (rp_each hstep hK h)
set_option maxHeartbeats 1000000 in
theorem each_zero (f : Value) (m : Nat) (W : World) : CallsIn Fence.wide m Tryz.prog 111 #[.agg zeroR, f] W fun e W' => e = .returned (.bool true) ∧ Below W.heap.size W W' := by
 obtain ⟨w1, hw1⟩ : ∃ w1, W.alloc (.cells #[.int .i64 0, .int .i64 0, .slice none 0 0, .slice none 0 0] 110) = w1 := ⟨_, rfl⟩
 obtain ⟨hb1, hx1, hs1⟩ := nodes_new hw1
 have ca2 : w1.cell? ⟨W.heap.size, 2, none⟩ = some (.slice none 0 0) := cell_in hx1 rfl
 have ca3 : w1.cell? ⟨W.heap.size, 3, none⟩ = some (.slice none 0 0) := cell_in hx1 rfl
 have HB1 := Lib.hid hb1
 clear hb1 hx1 hs1
 unfold zeroR
 refine callsIn_of_wp Tryz.func111 rfl trivial ?_ rfl
 simp only [Tryz.ntmps111, List.size_toArray, List.length_cons, List.length_nil, Nat.reduceAdd, Nat.reduceSub, Array.replicate_succ, Array.replicate_zero, List.push_toArray, List.append_toArray, List.nil_append, List.cons_append]
 gi_wp2
 gi_loopw [12] (fun iv wr => iv = .int .i64 0 ∧ w1 = wr) (fun _ _ => 0)
 case atStart => exact ⟨rfl, rfl⟩
 case round =>
  obtain ⟨rfl, rfl⟩ := hrel
  gi_wp2
  gi_loopw [24] (fun iv wr => iv = .int .i64 0 ∧ w1 = wr) (fun _ _ => 0)
  case atStart => exact ⟨rfl, rfl⟩
  case round =>
   obtain ⟨rfl, rfl⟩ := hrel
   gi_wp2
   go_ret
   exact ⟨rfl, HB1.out⟩
def placesL (l : List Cel) : List (Nat × Cel) := (List.range l.length).map fun i => (i, l.getD i zeroV)
theorem placesL_len (l : List Cel) : (placesL l).length = l.length := by simp [placesL]
theorem placesL_at (l : List Cel) (i : Nat) (hi : i < l.length) : (placesL l)[i]? = some (i, l[i]) := by
 simp [placesL, hi, List.getD_eq_getElem?_getD]
theorem placesL_snoc (l : List Cel) (x : Cel) : placesL (l ++ [x]) = placesL l ++ [(l.length, x)] := by
 unfold placesL
 rw [List.length_append, List.length_singleton, List.range_succ, List.map_append, List.map_singleton]
 congr 1
 ·refine List.map_congr_left fun i hi => ?_
  rw [List.mem_range] at hi
  rw [List.getD_eq_getElem?_getD, List.getD_eq_getElem?_getD, List.getElem?_append_left hi]
 ·rw [List.getD_eq_getElem?_getD, List.getElem?_append_right (Nat.le_refl _), Nat.sub_self]
  rfl
theorem placesL_prefix {q l : List Cel} (h : q <+: l) : placesL q <+: placesL l := by
 obtain ⟨r, rfl⟩ := h
 have e : placesL q = (placesL (q ++ r)).take q.length := by
  unfold placesL
  rw [← List.map_take, List.take_range, List.length_append, Nat.min_eq_left (by omega)]
  refine List.map_congr_left fun i hi => ?_
  rw [List.mem_range] at hi
  rw [List.getD_eq_getElem?_getD, List.getD_eq_getElem?_getD, List.getElem?_append_left hi]
 rw [e]
 exact List.take_prefix _ _
abbrev encP (x : Nat × Cel) : Array Value := #[Value.int .i64 (x.1 : Int), Value.agg (celC x.2)]
structure RopeKeeps (RK IK : Nat → World → World → Prop) (n₀ : Nat) : Prop where
 new : ∀ {Y : Nat} {A B : World}, Below A.heap.size A B → Y ≤ A.heap.size → IK Y A B
 put : ∀ {Y : Nat} {A : World} {u : Value} (v : Value), Boxed A (Y + 1) 3 u → IK Y A (A.setCell ⟨Y + 1, 0, none⟩ v)
 low : ∀ {Y : Nat} {A B : World}, RK Y A B → Below n₀ A B
 count : ∀ {Y : Nat} {A B : World} {u : Value}, RK Y A B → Boxed A (Y + 1) 3 u → Boxed B (Y + 1) 3 u
 call : ∀ {Y : Nat} {A B : World} {u : Value}, RK Y A B → Boxed A Y 161 u → Boxed B Y 161 u
 nodes : ∀ {Y : Nat} {A B : World}, RK Y A B → TK 110 A B
theorem kw_keeps {Ts : TypeId → Prop} (n₀ : Nat) (h1 : ¬ Ts 3) (h2 : ¬ Ts 161) (h3 : ¬ Ts 110) : RopeKeeps (fun Y A B => KW Ts n₀ Y A B) (fun Y A B => IKW Ts Y A B) n₀ where
 new := fun h hY => IKW.below h hY
 put := fun {Y A u} v hb => IKW.grown (grownBy_setCell' A _ v) (Nat.le_succ _) hb.lt (fun cs T fr e => by
  rw [show A.heap[Y + 1]? = _ from hb] at e
  simp only [Option.some.injEq, Obj.cells.injEq] at e
  rw [← e.2.1]
  exact h1)
 low := fun h => h.1
 count := fun h hb => h.2.2.1 _ _ _ _ hb h1
 call := fun h hb => h.2.2.1 _ _ _ _ hb h2
 nodes := fun h i cs fr e => h.2.2.1 i cs _ fr e h3
set_option maxHeartbeats 1000000 in
theorem all_step {RK IK : Nat → World → World → Prop} (l n₀ Y : Nat) (LST : List Cel) (hk : RopeKeeps RK IK n₀) (hY : n₀ ≤ Y) (hN : LST.length ≤ 100000) (J Jx : List (Nat × Cel) → World → Prop) (hJ : ∀ s A B, J s A → IK Y A B → J s B)
  (hYl : ∀ m pre x V, J pre V → Y ≤ V.heap.size → pre ++ [x] <+: placesL LST → YieldAt Fence.wide m Tryz.prog l (encP x) V fun e V' =>
   (e = .returned (.bool true) ∧ J (pre ++ [x]) V' ∧ RK Y V V') ∨ (e = .returned (.bool false) ∧ Jx (pre ++ [x]) V')) :
  StepIn (Y + 1) Y (fun pre V => Boxed V (Y + 1) 3 (.int .i64 (pre.length : Int)) ∧ Boxed V Y 161 (.func (.yield l) #[] #[]) ∧ J (placesL pre) V) (fun pre V => Jx (placesL pre) V) LST n₀ := by
 intro m pre x V ⟨hX, hYb, hJJ⟩ hpre hn
 have hlen : pre.length < LST.length := by have := hpre.length_le; rw [List.length_append, List.length_singleton] at this; omega
 have hpl : placesL pre ++ [(pre.length, x)] <+: placesL LST := by rw [← placesL_snoc]; exact placesL_prefix hpre
 obtain ⟨k, hkk⟩ : ∃ k, k = pre.length := ⟨_, rfl⟩
 rw [← hkk] at hX hlen hpl
 have hlt : Y + 1 < V.heap.size := hX.lt
 obtain ⟨V1, hV1⟩ : ∃ V1, V.alloc (.cells (celC x) 35) = V1 := ⟨_, rfl⟩
 have hb1 : Below V.heap.size V V1 := by rw [← hV1]; exact Below.newly' _ _
 have hv1 : V1.heap[V.heap.size]? = some (.cells (celC x) 35 (0, 0)) := by rw [← hV1]; exact heap_alloc_last _ _
 have hX0 : Boxed V1 (Y + 1) 3 (.int .i64 (k : Int)) := (hb1.block _ hlt).trans hX
 have hY0 : Boxed V1 Y 161 (.func (.yield l) #[] #[]) := (hb1.block _ (by omega)).trans hYb
 have hJ0 : J (placesL pre) V1 := hJ _ _ _ hJJ (hk.new hb1 (by omega))
 have hs1 : V1.heap.size = V.heap.size + 1 := by rw [← hV1]; simp
 have cX := hX0.cell
 have fX := hX0.frozen
 obtain ⟨V2, hV2⟩ : ∃ V2, V2 = V1.setCell ⟨Y + 1, 0, none⟩ (.int .i64 ((k : Int) + 1)) := ⟨_, rfl⟩
 have hX1 : Boxed V2 (Y + 1) 3 (.int .i64 ((k : Int) + 1)) := by rw [hV2]; exact hX0.set _
 have hY1 : Boxed V2 Y 161 (.func (.yield l) #[] #[]) := by rw [hV2]; exact hY0.other (B' := Y + 1) (by omega) _
 have cY1 := hY1.cell
 have cX1 := hX1.cell
 have hgs : V1.grownBy V2 (some (Y + 1)) := by rw [hV2]; exact grownBy_setCell' V1 (Y + 1) (.int .i64 ((k : Int) + 1))
 have hb2 : Below n₀ V V2 := (hb1.mono hn).trans ((Below.refl n₀ V1).grown hgs (by omega) (fun k e => by cases e; omega))
 have ht2 : TK 110 V V2 := (TK.below hb1).trans (TK.grown hgs fun X e cs fr h' => by
  obtain rfl := Option.some.inj e
  rw [show V1.heap[Y + 1]? = _ from hX0] at h'
  simp only [Option.some.injEq, Obj.cells.injEq] at h'
  exact absurd h'.2.1 (by decide))
 have hv2 : V2.heap[V.heap.size]? = some (.cells (celC x) 35 (0, 0)) := (hgs.block _ (by omega) (by simp; omega)).trans hv1
 have hsz : V2.heap.size = V1.heap.size := by rw [hV2]; simp [World.setCell]
 have hJ2 : J (placesL pre) V2 := by rw [hV2]; exact hJ _ _ _ hJ0 (hk.put _ hX0)
 obtain ⟨fn, tmps, assign, body, hy, hR⟩ := hYl (m - 1) (placesL pre) (k, x) V2 hJ2 (by omega) hpl
 dsimp only [encP] at hy
 have HB2 := Lib.hid hb2
 have HT2 := Lib.hid ht2
 have HX1 := Lib.hid hX1
 have HY1 := Lib.hid hY1
 have HV2 := Lib.hid hv2
 have HKK := Lib.hid hkk
 have HKE := Lib.hid hk
 have hk5 : (k : Int) ≤ 100000 := by omega
 rw [hV2] at hy cY1 cX1 HV2 hR
 clear hX hYb hJJ hlen hpl hpre hX1 hY1 hgs hb1 hb2 ht2 hsz hs1 hkk hJ hJ0 hJ2 hYl hX0 hY0 hv1 hv2 hk hlt hn
 refine callsIn_of_wp Tryz.func112 rfl trivial ?_ rfl
 simp only [Tryz.ntmps112, List.size_toArray, List.length_cons, List.length_nil, Nat.reduceAdd, Nat.reduceSub, Array.replicate_succ, Array.replicate_zero, List.push_toArray, List.append_toArray, List.nil_append, List.cons_append]
 gi_wp2_with (first
  | (rw [hV1])
  | (refine ld_wide rfl 35 _ rfl V.heap.size rfl 35 _ _ _ HV2.out Tryz.underlying35 rfl val_size ?_))
 refine ⟨fun h => absurd h (by simp [Fence.wide]), ?_⟩
 refine hR.mono ?_
 rintro e W3 (⟨rfl, hj3, hks⟩ | ⟨rfl, hjx⟩)
 ·have HJ3 := Lib.hid hj3
  rw [← hV2] at hks
  have HKS := Lib.hid hks
  clear hj3 hks
  gi_wp2
  go_ret
  have hk := HKK.out
  refine .inl ⟨rfl, ⟨?_, HKE.out.call HKS.out HY1.out, ?_⟩, HB2.out.trans (HKE.out.low HKS.out), HT2.out.trans (HKE.out.nodes HKS.out)⟩
  ·have e : ((pre ++ [x]).length : Int) = (k : Int) + 1 := by rw [List.length_append, List.length_singleton]; omega
   rw [e]
   exact HKE.out.count HKS.out HX1.out
  ·rw [placesL_snoc, ← hk]
   exact HJ3.out
 ·have HJ3 := Lib.hid hjx
  clear hjx
  gi_wp2
  go_ret
  have hk := HKK.out
  refine .inr ⟨rfl, ?_⟩
  rw [placesL_snoc, ← hk]
  exact HJ3.out
set_option maxHeartbeats 1000000 in
theorem rp_all1 {RK IK : Nat → World → World → Prop} (Bs n₀ : Nat) (hkk : RopeKeeps RK IK n₀) (c : Array Value) (lst : List Cel) (w : World) (hn₀ : n₀ ≤ w.heap.size) (hX : w.heap[Bs]? = some (.cells c 112 (0, 0))) (hv : RootR (fun g => g < n₀) w c lst) (hN : lst.length ≤ 100000) :
  IterR Tryz.prog 110 #[.pointer (some ⟨Bs, 0, none⟩)] encP RK IK (fun ys => ys = placesL lst) (fun pre => pre <+: placesL lst) (fun pre => pre <+: placesL lst) w := by
 intro l J Jx W hW hA hY h0 m
 have hst := all_step l n₀ W.heap.size lst hkk (Nat.le_trans hn₀ hW.size) hN J Jx hA hY
 have hKK : ∀ pre A B, (Boxed A (W.heap.size + 1) 3 (.int .i64 (pre.length : Int)) ∧ Boxed A W.heap.size 161 (.func (.yield l) #[] #[]) ∧ J (placesL pre) A) → Below A.heap.size A B →
   (Boxed B (W.heap.size + 1) 3 (.int .i64 (pre.length : Int)) ∧ Boxed B W.heap.size 161 (.func (.yield l) #[] #[]) ∧ J (placesL pre) B) := fun pre A B ⟨h1, h2, h3⟩ hb =>
  ⟨(hb.block _ h1.lt).trans h1, (hb.block _ h2.lt).trans h2, hA _ _ _ h3 (hkk.new hb (Nat.le_of_lt h2.lt))⟩
 obtain ⟨W2, hW2⟩ : ∃ W2, (W.alloc (.cells #[.func (.yield l) #[] #[]] 161)).alloc (.cells #[.int .i64 0] 3) = W2 := ⟨_, rfl⟩
 obtain ⟨hb2, hx2, hy2, hs2⟩ := two_new hW2
 have hI2 : Boxed W2 (W.heap.size + 1) 3 (.int .i64 0) := hy2
 have hF2 : Boxed W2 W.heap.size 161 (.func (.yield l) #[] #[]) := hx2
 have cI := hI2.cell
 have fI := hI2.frozen
 obtain ⟨W3, hW3⟩ : ∃ W3, W3 = W2.setCell ⟨W.heap.size + 1, 0, none⟩ (.int .i64 0) := ⟨_, rfl⟩
 have HK3 : Hid (Boxed W3 (W.heap.size + 1) 3 (.int .i64 (([] : List Cel).length : Int)) ∧ Boxed W3 W.heap.size 161 (.func (.yield l) #[] #[]) ∧ J (placesL []) W3) := by
  show _ ∧ _ ∧ _
  rw [hW3]
  exact ⟨hI2.set _, hF2.other (by omega) _, hA _ _ _ (hA _ _ _ h0 (hkk.new hb2 (Nat.le_refl _))) (hkk.put _ hI2)⟩
 have hBl := (Array.getElem?_eq_some_iff.1 hX).1
 have hX2 := (hb2.block _ (Nat.lt_of_lt_of_le hBl hW.size)).trans ((hW.block _ hBl).trans hX)
 have HX3 : Hid (W3.heap[Bs]? = some (.cells c 112 (0, 0))) := by
  show _ = _
  rw [hW3]
  exact (heap_setCell_other _ _ _ _ (by show Bs ≠ W.heap.size + 1; have := hW.size; omega)).trans hX2
 have hb3 : Below n₀ W W3 := by
  rw [hW3]
  exact (hb2.mono (Nat.le_trans hn₀ hW.size)).setCell (p := ⟨W.heap.size + 1, 0, none⟩) (by show n₀ ≤ W.heap.size + 1; have := hW.size; omega) _
 have HV3 := Lib.hid (hv.low ((hW.mono hn₀).trans hb3))
 have HCS := Lib.hid hv.size
 have HN3 : Hid (n₀ ≤ W3.heap.size) := Nat.le_trans (Nat.le_trans hn₀ hW.size) hb3.size
 have HST := Lib.hid hst
 have HKA := Lib.hid hKK
 clear hb2 hx2 hy2 hs2 hst hKK hX hv hN hA hY h0 hI2 hF2 hBl hX2 hb3 hkk
 refine callsIn_of_wp Tryz.func110 rfl trivial ?_ rfl
 simp only [Tryz.ntmps110, List.size_toArray, List.length_cons, List.length_nil, Nat.reduceAdd, Nat.reduceSub, Array.replicate_succ, Array.replicate_zero, List.push_toArray, List.append_toArray, List.nil_append, List.cons_append]
 gi_wp2_with (first
  | (rw [← hW3]; clear hW3; refine ld_wide rfl 110 _ rfl Bs rfl 112 _ _ _ HX3.out Tryz.underlying110 rfl (by rw [HCS.out]; exact rnode_size) ?_))
 refine ⟨trivial, fun h => absurd h (by simp [Fence.wide]), ?_⟩
 rcases HV3.out with ⟨rfl, rfl⟩ | ⟨h, p, rfl, rfl, hp, _⟩
 ·refine (each_zero _ _ _).mono ?_
  rintro e W4 ⟨rfl, hb4⟩
  have h4 := HKA.out _ _ _ HK3.out hb4
  gi_wp2
  go_end0
  exact ⟨⟨_, rfl⟩, .inl ⟨_, rfl, h4.2.2⟩⟩
 ·refine (rp_each HST.out HKA.out h (m - 1) p [] W3 hp HK3.out (by simp) HN3.out).mono ?_
  rintro e W4 (⟨rfl, hk4, _⟩ | ⟨rfl, q, hq, hx4⟩)
  ·gi_wp2
   go_end0
   exact ⟨⟨_, rfl⟩, .inl ⟨_, rfl, hk4.2.2⟩⟩
  ·gi_wp2
   go_end0
   exact ⟨⟨_, rfl⟩, .inr ⟨_, placesL_prefix hq, hx4⟩⟩
set_option maxHeartbeats 1000000 in
theorem rp_All_in (n : Nat) (c : Array Value) (w : World) :
  CallsIn Fence.wide n Tryz.prog 86 #[.agg c] w fun e w' => e = .returned (.func (.func 110) #[] #[.pointer (some ⟨w.heap.size, 0, none⟩)]) ∧ w' = w.alloc (.cells c 112) := by
 refine callsIn_of_wp Tryz.func86 rfl trivial ?_ rfl
 simp only [Tryz.ntmps86, List.size_toArray, List.length_cons, List.length_nil, Nat.reduceAdd, Nat.reduceSub, Array.replicate_succ, Array.replicate_zero, List.push_toArray, List.append_toArray, List.nil_append, List.cons_append]
 gi_wp2
 go_ret
 exact ⟨rfl, rfl⟩
end Go.Proofs.YtpodmgihlomglaaGreatDoor
namespace Go.Proofs.YtpodmgihlomglaaGreatDoor
open Go.RowKit Go.Shelf
set_option maxRecDepth 1000000
set_option linter.unusedSimpArgs false
attribute [local go_sem] Oper.semAt_some
abbrev encG (x : Nat × Pl) : Array Value := #[Value.int .i64 (x.1 : Int), Value.agg (plc x.2)]
def PlsIn (n₀ : Nat) (W : World) (v : Value) (xs : List Pl) : Prop :=
 (xs = [] ∧ v = .slice none 0 0) ∨ (0 < xs.length ∧ ∃ (g c : Nat), v = .slice (some ⟨g, 0, none⟩) xs.length c ∧ g < n₀ ∧ ∀ k (hk : k < xs.length), W.rangeAt g (k * 2) (enPl xs[k]))
theorem pls_in {S : Nat → Prop} {n₀ : Nat} {W : World} {v : Value} {xs : List Pl} {n : Nat} (h : HeadAt S W 190 2 v (en enPl xs) n) (hS : ∀ g, S g → g < n₀) : PlsIn n₀ W v xs := by
 have hl := h.1
 rw [en_len enPl_len] at hl
 rcases Nat.eq_zero_or_pos n with h0 | h0
 ·obtain ⟨_, ⟨_, rfl⟩ | ⟨h1, _⟩⟩ := h
  ·exact .inl ⟨List.eq_nil_of_length_eq_zero (by omega), rfl⟩
  ·omega
 ·have hn : n = xs.length := by omega
  subst hn
  obtain ⟨g, c, _, _, h1, _, h2, _⟩ := h.pos h0
  refine .inr ⟨h0, g, c, h1, hS g h2, fun k hk => ?_⟩
  obtain ⟨g', c', e, _, _, _, _, hr⟩ := pl_range h (List.getElem?_eq_getElem hk)
  rw [h1] at e
  simp only [Value.slice.injEq, Option.some.injEq, Addr.mk.injEq, true_and, and_true] at e
  rw [e.1]
  exact hr
theorem PlsIn.below {n₀ : Nat} {A B : World} {v : Value} {xs : List Pl} (h : Below n₀ A B) : PlsIn n₀ A v xs → PlsIn n₀ B v xs
 | .inl e => .inl e
 | .inr ⟨h0, g, c, e, hg, hc⟩ => .inr ⟨h0, g, c, e, hg, fun k hk j u hu => (h.cell (p := ⟨g, k * 2 + j, none⟩) hg).trans (hc k hk j u hu)⟩
set_option maxHeartbeats 4000000 in
theorem pr_all1_in (n : Nat) (hn : 1 ≤ n) (l Bs n₀ : Nat) (R : Rg Pl) (g cp : Nat) (hgn : g < n₀) (htn : 0 < n₀) (J Jx : List (Nat × Pl) → World → Prop)
  (hJ : ∀ s A B, J s A → Below A.heap.size A B → J s B)
  (hY : ∀ pre x W, J pre W → pre.length < (allG R).length → x ∈ allG R → YieldAt Fence.wide (n - 1) Tryz.prog l (encG x) W fun e W' =>
   (e = .returned (.bool true) ∧ J (pre ++ [x]) W' ∧ Below n₀ W W') ∨ (e = .returned (.bool false) ∧ Jx (pre ++ [x]) W'))
  (W : World) (hnW : n₀ ≤ W.heap.size) (hB0 : W.cell? ⟨Bs, 0, none⟩ = some (.int .u32 (bitsG R 32 : Nat))) (hB1 : W.cell? ⟨Bs, 1, none⟩ = some (.slice (some ⟨g, 0, none⟩) (lisG R).length cp))
  (hL : ∀ k (hk : k < (lisG R).length), W.rangeAt g (k * 2) (enPl (lisG R)[k])) (hT : Tab6 W) (h0 : J [] W) :
  CallsIn Fence.wide n Tryz.prog 182 #[.func (.yield l) #[] #[], .pointer (some ⟨Bs, 0, none⟩)] W fun e W' => (∃ v, e = .returned v) ∧
   ((∃ ys, ys = allG R ∧ J ys W') ∨ (∃ pre, (∃ k, k ≤ (allG R).length ∧ pre = (allG R).take k) ∧ Jx pre W')) := by
 have HJA := Lib.hid hJ
 clear hJ
 refine callsIn_of_wp Tryz.func182 rfl trivial ?_ rfl
 simp only [Tryz.ntmps182, List.size_toArray, List.length_cons, List.length_nil, Nat.reduceAdd, Nat.reduceSub, Array.replicate_succ, Array.replicate_zero, List.push_toArray, List.append_toArray, List.nil_append, List.cons_append]
 gi_wp2
 have HLEN := Lib.hid (show (lisG R).length = (allG R).length by rw [lisG_len, all_lenG])
 have hl32 : ((lisG R).length : Int) ≤ 32 := by have := cnt_leG R 32; rw [← lisG_len] at this; omega
 have HNW := Lib.hid hnW
 clear hnW
 gi_loopw [3, 11] (fun left i wr => ∃ k p : Nat, k ≤ (lisG R).length ∧ cntG R p = k ∧ i = .int .i64 k ∧ left = .int .u32 (leftN (bitsG R 32) p : Nat) ∧ J ((allG R).take k) wr ∧ Below n₀ W wr) (fun _ i _ => (lisG R).length - (intOf i).toNat)
 case atStart => exact ⟨0, 0, Nat.zero_le _, rfl, rfl, by rw [left_zero], h0, Below.refl _ _⟩
 case round =>
  obtain ⟨k, p, hk, hp, rfl, rfl, hJs, hnx⟩ := hrel
  by_cases hlt : k < (lisG R).length
  ·obtain ⟨q, x, hz0, hctz, hpq, hq, hx, hcq, hcq1, hleft⟩ := left_lowG R (p := p) (by rw [hp, ← lisG_len]; exact hlt)
   have HRG : Hid (wr.rangeAt g (k * 2) (enPl (lisG R)[k])) := fun j u hu => (hnx.cell (p := ⟨g, k * 2 + j, none⟩) hgn).trans (hL k hlt j u hu)
   have hal := all_atG R hq hx
   rw [hcq, hp] at hal
   have hli := lis_atG R hq hx
   rw [hcq, hp, List.getElem?_eq_getElem hlt] at hli
   obtain hli := Option.some.inj hli
   rw [hli] at HRG
   have htk : (allG R).take k ++ [(q, x)] = (allG R).take (k + 1) := by
    obtain ⟨h1, h2⟩ := List.getElem?_eq_some_iff.1 hal
    rw [List.take_succ_eq_append_getElem h1, h2]
   have HY : Hid (∀ V, J ((allG R).take k) V → YieldAt Fence.wide (n - 1) Tryz.prog l (encG (q, x)) V fun e W' =>
     (e = .returned (.bool true) ∧ J ((allG R).take k ++ [(q, x)]) W' ∧ Below n₀ V W') ∨ (e = .returned (.bool false) ∧ Jx ((allG R).take k ++ [(q, x)]) W')) := fun V hV => hY _ (q, x) V hV (by rw [List.length_take, ← HLEN.out]; omega) (List.mem_of_getElem? hal)
   have hLlt : leftN (bitsG R 32) p < 4294967296 := left_lt p (bits_ltG R 32)
   have HT3 : Hid (∀ V, Below n₀ W V → Tab6 V) := fun V hV j hj => (hV.cell (p := ⟨0, j, none⟩) htn).trans (hT j hj)
   have HZ : Hid (∀ V, Tab6 V → Calls Tryz.prog 183 #[.int .u32 (leftN (bitsG R 32) p : Nat)] V fun e w' => e = .returned (.int .i64 (q : Nat)) ∧ w' = V) := fun V hV => by
    have h := sp_zeros (leftN (bitsG R 32) p) hLlt hz0 V hV
    rw [hctz] at h
    exact h
   obtain ⟨L, hLe⟩ : ∃ L, L = leftN (bitsG R 32) p := ⟨_, rfl⟩
   obtain ⟨L', hLe'⟩ : ∃ L', L' = leftN (bitsG R 32) (q + 1) := ⟨_, rfl⟩
   rw [← hLe, ← hLe'] at hleft
   rw [← hLe] at hz0 hLlt HZ ⊢
   obtain ⟨M, hM⟩ : ∃ M, M = L - 1 := ⟨_, rfl⟩
   rw [← hM] at hleft
   have e1 : (L : Int) - 1 = (M : Int) := by omega
   have e2 : bits .and .u32 (L : Int) (M : Int) = (L' : Int) := by rw [← hleft]; exact and_32 L M hLlt
   have hL1 : 1 ≤ (L : Int) := by omega
   have HLE' := Lib.hid hLe'
   have HTK := Lib.hid htk
   have HCQ := Lib.hid (hcq1.trans (by rw [hp]))
   have HJS := Lib.hid hJs
   have HNX := Lib.hid hnx
   have HLT := Lib.hid hlt
   clear hal hli htk hleft hM hctz hLe hLe' hcq hcq1 hJs hnx hL hY hT h0
   gi_wp2_with (first
    | (refine mid_wide rfl 190 _ rfl g (k * 2) rfl (enPl x) _ HRG.out Tryz.underlying190 rfl pl_size ?_)
    | (refine st_wide rfl 190 _ _ rfl wr.heap.size (plc x) rfl rfl 190 (plc (none, none)) (heap_alloc_last _ _) pl_size rfl (plc_one x) ?_; intro w5 h5 k5; have HB5 : Hid (Below wr.heap.size wr w5) := (Below.newly' _ _).trans (k5.below (Nat.le_refl _)); have HX5 := Lib.hid h5; clear h5 k5))
   (try simp only [pq])
   have HB6 : Hid (Below wr.heap.size wr w5.drew) := Below.drewMany HB5.out 1
   refine wpIn_region_W (S := fun V => V.heap[wr.heap.size]? = some (.cells (plc x) 190 (0, 0)) ∧ Tab6 V) [4, 5] (by kernel_rfl) ⟨HX5.out, HT3.out _ (HNX.out.trans (HB6.out.mono (Nat.le_trans HNW.out HNX.out.size)))⟩ (fun hHeld => ?_)
   refine wpAnyW_take (i := 0) (oi := ⟨some 15, _, _, _, _, _⟩) (v := ?v0) rfl (by kernel_rfl) (by kernel_rfl) (by kernel_rfl) (by kernel_rfl) (fun _ _ _ h => h) (Or.inl ⟨by rfl, ?h0⟩) (by assumption) ?r0
   case h0 => (intro w hSw; (try dsimp only at hSw); first | (go_simp; done) | (go_simp; with_reducible rfl))
   (try simp only [pq])
   refine wpAnyW_take (i := 1) (oi := ⟨some 16, _, _, _, _, _⟩) (v := ?v1) rfl (by kernel_rfl) (by kernel_rfl) (by kernel_rfl) (by kernel_rfl) (fun _ _ _ h => h) (Or.inl ⟨by rfl, ?h1⟩) (by assumption) ?r1
   case h1 => (intro w hSw; (try dsimp only at hSw); first | (go_simp; done) | (go_simp; with_reducible rfl))
   (try simp only [pq])
   refine wpAnyW_takeC (i := 2) (oi := ⟨some 17, _, _, _, _, _⟩) (v := .int .i64 (q : Int)) rfl (by kernel_rfl) (by kernel_rfl) (by kernel_rfl) (by kernel_rfl) (fun _ _ _ h => h) ⟨by rfl, fun w hSw => ⟨183, #[.int .u32 (L : Int)], ?h2, HZ.out w hSw.2⟩⟩ (by assumption) ?r2
   case h2 => go_simp
   (try simp only [pq])
   refine wpAnyW_take (i := 3) (oi := ⟨some 18, _, _, _, _, _⟩) (v := _) rfl (by kernel_rfl) (by kernel_rfl) (by kernel_rfl) (by kernel_rfl) (fun _ _ _ h => h) (yieldsIf_load_row (by rfl) 190 _ rfl wr.heap.size rfl (plc x) 190 (0, 0) _ (fun w hw => hw.1) Tryz.underlying190 rfl pl_size) (by assumption) ?_
   (try simp only [pq])
   obtain ⟨fn, tmps, assign, body, hy, hR⟩ := HY.out w5.drew (HJA.out _ _ _ HJS.out HB6.out)
   unfold encG at hy
   (try dsimp only at hy)
   refine wpAnyW_last (i := 4) (o := ⟨some 19, _, _, _, _, _⟩) (by kernel_rfl) (by decide) rfl (fun K hK => ?_)
   rw [if_pos (by rfl)]
   go_simp
   refine hR.mono ?_
   rintro e W3 (⟨rfl, hJ3, hk3⟩ | ⟨rfl, hJx3⟩)
   ·refine hK.out _ _ ?_
    clear hK K hR hy
    (try simp only [pq])
    refine wpAnyW_last (i := 5) (o := ⟨some 20, _, _, _, _, _⟩) (by kernel_rfl) (by decide) rfl (fun K hK => ?_)
    rw [if_pos (by rfl)]
    go_simp
    refine hK.out _ _ ?_
    clear hK K
    (try simp only [pq])
    refine wpAnyW_done (by kernel_rfl) ?_ _
    gi_wp2
    go_roundw
    case rel => exact ⟨k + 1, q + 1, by have := HLT.out; omega, HCQ.out, by simp, by rw [HLE'.out], by rw [← HTK.out]; exact hJ3, (HNX.out.trans (HB6.out.mono (Nat.le_trans HNW.out HNX.out.size))).trans hk3⟩
    case measure => have := HLT.out; simp [intOf]; omega
   ·refine hK.out _ _ ?_
    clear hK K hR hy
    (try simp only [pq])
    refine wpAnyW_last (i := 5) (o := ⟨some 20, _, _, _, _, _⟩) (by kernel_rfl) (by decide) rfl (fun K hK => ?_)
    rw [if_pos (by rfl)]
    go_simp
    refine hK.out _ _ ?_
    clear hK K
    (try simp only [pq])
    refine wpAnyW_done (by kernel_rfl) ?_ _
    gi_wp2
    refine bodyPost_ret (results_none rfl _ _ _) rfl ?_
    exact ⟨⟨_, rfl⟩, .inr ⟨_, ⟨k + 1, by have := HLT.out; rw [← HLEN.out]; omega, HTK.out⟩, hJx3⟩⟩
  ·obtain rfl : k = (lisG R).length := by omega
   gi_wp2
   go_end0
   exact ⟨⟨_, rfl⟩, .inl ⟨_, rfl, by rwa [HLEN.out, List.take_length] at hJs⟩⟩
set_option maxHeartbeats 1000000 in
theorem pr_all1_nil_in (n : Nat) (l Bs : Nat) (J : List (Nat × Pl) → World → Prop) (b : Nat) (W : World) (hB0 : W.cell? ⟨Bs, 0, none⟩ = some (.int .u32 (b : Nat))) (hB1 : W.cell? ⟨Bs, 1, none⟩ = some (.slice none 0 0)) (h0 : J [] W) :
  CallsIn Fence.wide n Tryz.prog 182 #[.func (.yield l) #[] #[], .pointer (some ⟨Bs, 0, none⟩)] W fun e W' => (∃ v, e = .returned v) ∧ J [] W' := by
 refine callsIn_of_wp Tryz.func182 rfl trivial ?_ rfl
 simp only [Tryz.ntmps182, List.size_toArray, List.length_cons, List.length_nil, Nat.reduceAdd, Nat.reduceSub, Array.replicate_succ, Array.replicate_zero, List.push_toArray, List.append_toArray, List.nil_append, List.cons_append]
 gi_wp2
 gi_loopw [11] (fun i wr => i = .int .i64 0 ∧ J [] wr) (fun _ _ => 0)
 case atStart => exact ⟨rfl, h0⟩
 case round =>
  obtain ⟨rfl, hJs⟩ := hrel
  gi_wp2
  go_end0
  exact ⟨⟨_, rfl⟩, hJs⟩
set_option maxHeartbeats 1000000 in
theorem pr_All_in (n : Nat) (b : Int) (v : Value) (w : World) :
  CallsIn Fence.wide n Tryz.prog 153 #[.agg #[.int .u32 b, v]] w fun e w' => e = .returned (.func (.func 182) #[] #[.pointer (some ⟨w.heap.size, 0, none⟩)]) ∧ w' = w.alloc (.cells #[.int .u32 b, v] 116) := by
 refine callsIn_of_wp Tryz.func153 rfl trivial ?_ rfl
 simp only [Tryz.ntmps153, List.size_toArray, List.length_cons, List.length_nil, Nat.reduceAdd, Nat.reduceSub, Array.replicate_succ, Array.replicate_zero, List.push_toArray, List.append_toArray, List.nil_append, List.cons_append]
 gi_wp2
 go_ret
 exact ⟨rfl, rfl⟩
theorem pr_all_stops (n : Nat) (hn : 1 ≤ n) (Bs n₀ : Nat) (R : Rg Pl) (v : Value) (w : World) (hBs : Bs < w.heap.size) (hn₀ : n₀ ≤ w.heap.size) (htn : 0 < n₀) (hB0 : w.cell? ⟨Bs, 0, none⟩ = some (.int .u32 (bitsG R 32 : Nat)))
  (hB1 : w.cell? ⟨Bs, 1, none⟩ = some v) (hL : PlsIn n₀ w v (lisG R)) (hT : Tab6 w) :
  SeqStopsK Fence.wide n Tryz.prog 182 #[.pointer (some ⟨Bs, 0, none⟩)] encG (Below n₀) (fun ys => ys = allG R) (fun pre => ∃ k, k ≤ (allG R).length ∧ pre = (allG R).take k) (allG R).length w := fun l J Jx W hW hJ _ hY h0 => by
 have h0' := (hW.cell (p := ⟨Bs, 0, none⟩) hBs).trans hB0
 have h1' := (hW.cell (p := ⟨Bs, 1, none⟩) hBs).trans hB1
 rcases hL.below (hW.mono hn₀) with ⟨he, rfl⟩ | ⟨_, g, c, rfl, hg, hc⟩
 ·have ha : allG R = [] := List.eq_nil_of_length_eq_zero (by rw [all_lenG, ← lisG_len, he]; rfl)
  exact (pr_all1_nil_in n l Bs J _ W h0' h1' h0).mono fun e W' ⟨hr, hj⟩ => ⟨hr, .inl ⟨_, ha.symm, hj⟩⟩
 ·exact pr_all1_in n hn l Bs n₀ R g c hg htn J Jx (fun s A B h hb => hJ s A B none h ⟨hb.os, hb.tape, hb.output, hb.size, fun k hk _ => hb.block k hk⟩ (fun r e => by cases e)) (fun pre x W hj hl _ => hY pre x W hj hl) W (Nat.le_trans hn₀ hW.size) h0' h1' hc (hT.below hW) h0
theorem pr_all_stopsS (n : Nat) (hn : 1 ≤ n) (Bs n₀ : Nat) (R : Rg Pl) (v : Value) (w : World) (hBs : Bs < w.heap.size) (hn₀ : n₀ ≤ w.heap.size) (htn : 0 < n₀) (hB0 : w.cell? ⟨Bs, 0, none⟩ = some (.int .u32 (bitsG R 32 : Nat)))
  (hB1 : w.cell? ⟨Bs, 1, none⟩ = some v) (hL : PlsIn n₀ w v (lisG R)) (hT : Tab6 w) :
  SeqStopsK (α := {x : Nat × Pl // x ∈ allG R}) Fence.wide n Tryz.prog 182 #[.pointer (some ⟨Bs, 0, none⟩)] (fun x => encG x.1) (Below n₀) (fun ys => ys.map (·.1) = allG R) (fun pre => ∃ k, k ≤ (allG R).length ∧ pre.map (·.1) = (allG R).take k) (allG R).length w := fun l J Jx W hW hJ _ hY h0 => by
 have h0' := (hW.cell (p := ⟨Bs, 0, none⟩) hBs).trans hB0
 have h1' := (hW.cell (p := ⟨Bs, 1, none⟩) hBs).trans hB1
 rcases hL.below (hW.mono hn₀) with ⟨he, rfl⟩ | ⟨_, g, c, rfl, hg, hc⟩
 ·have ha : allG R = [] := List.eq_nil_of_length_eq_zero (by rw [all_lenG, ← lisG_len, he]; rfl)
  exact (pr_all1_nil_in n l Bs (fun (pre : List (Nat × Pl)) W => ∃ p' : List {x : Nat × Pl // x ∈ allG R}, p'.map (·.1) = pre ∧ J p' W) _ W h0' h1' ⟨[], rfl, h0⟩).mono fun e W' ⟨hr, p', e1, hj⟩ => ⟨hr, .inl ⟨p', e1.trans ha.symm, hj⟩⟩
 ·refine (pr_all1_in n hn l Bs n₀ R g c hg htn (fun pre W => ∃ p' : List {x : Nat × Pl // x ∈ allG R}, p'.map (·.1) = pre ∧ J p' W) (fun pre W => ∃ p' : List {x : Nat × Pl // x ∈ allG R}, p'.map (·.1) = pre ∧ Jx p' W)
   (fun s A B ⟨p', e, h⟩ hb => ⟨p', e, hJ p' A B none h ⟨hb.os, hb.tape, hb.output, hb.size, fun k hk _ => hb.block k hk⟩ (fun r e => by cases e)⟩) ?_ W (Nat.le_trans hn₀ hW.size) h0' h1' hc (hT.below hW) ⟨[], rfl, h0⟩).mono ?_
  ·rintro pre x V ⟨p', e, hj⟩ hl hx
   refine (hY p' ⟨x, hx⟩ V hj (by rw [← e, List.length_map] at hl; exact hl)).mono ?_
   rintro r V' (⟨h1, h2, h3⟩ | ⟨h1, h2⟩)
   ·exact .inl ⟨h1, ⟨_, by rw [List.map_append, e]; rfl, h2⟩, h3⟩
   ·exact .inr ⟨h1, _, by rw [List.map_append, e]; rfl, h2⟩
  ·rintro e W' ⟨hr, ⟨ys, e1, p', e2, hj⟩ | ⟨pre, hp, p', e2, hj⟩⟩
   ·exact ⟨hr, .inl ⟨p', e2.trans e1, hj⟩⟩
   ·obtain ⟨k, hk, e3⟩ := hp
    exact ⟨hr, .inr ⟨p', ⟨k, hk, e2.trans e3⟩, hj⟩⟩
end Go.Proofs.YtpodmgihlomglaaGreatDoor
