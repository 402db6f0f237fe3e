/- Package rope: each; the iterator of All. -/
import Derived.Test.YtldemoflgahdgaaRp8
import Derived.Test.YtldemoflgahdgaaRangeS
namespace Go.Proofs.Ytldemoflgahdgaa
open Go.RowKit Go.Shelf
set_option maxRecDepth 1000000
set_option linter.unusedSimpArgs false
attribute [local go_sem] Oper.semAt_some

theorem mid_wide {ops : Array Oper} {rest : List Oper} {o : Oper} {a : Act} {w : World} {Q : Exit → Act → World → Prop} {n : Nat} (hgd : o.guard = none) (ty : TypeId) (x : Operand) (ho : o.op = .load ty x)
    (b k : Nat) (hx : a.eval x = .pointer (some ⟨b, k, none⟩)) (cs : List Value) (d : TypeDesc) (hc : w.rangeAt b k cs)
    (hu : Try.prog.underlying ty = some d) (hd : d.isRow = true) (hi : (Try.prog.info? ty).map (·.size) = some cs.length)
    (h : wpListIn Fence.wide n Try.prog ops Q rest (a.put o.dst (.agg cs.toArray)) w) : wpListIn Fence.wide n Try.prog ops Q (o :: rest) a w :=
  wpListIn_plain hgd fun _ hK => wp_in_wide (fun c' hc => by rw [ho] at hc; cases hc) (wp_load_mid ty x ho b k hx cs d hc hu hd hi (hK _ _ h))
theorem st_wide {ops : Array Oper} {rest : List Oper} {o : Oper} {a : Act} {w : World} {Q : Exit → Act → World → Prop} {n : Nat} (hgd : o.guard = none) (ty : TypeId) (x y : Operand) (ho : o.op = .store ty x y)
    (X : Nat) (c' : Array Value) (hx : a.eval x = .pointer (some ⟨X, 0, none⟩)) (hy : a.eval y = .agg c') (T : TypeId) (c : Array Value) (hB : w.heap[X]? = some (.cells c T (0, 0)))
    (hi : (Try.prog.info? ty).map (·.size) = some c'.size) (hs : c.size = c'.size) (h1 : c'.all (·.oneCell') = true)
    (h : ∀ w', w'.heap[X]? = some (.cells c' T (0, 0)) → Only X w w' → wpListIn Fence.wide n Try.prog ops Q rest (a.put o.dst undef) w') : wpListIn Fence.wide n Try.prog ops Q (o :: rest) a w :=
  wpListIn_plain hgd fun _ hK => wp_in_wide (fun c' hc => by rw [ho] at hc; cases hc) (st_agg_wp ty x y ho X c' hx hy T c hB hi hs h1 fun w' h1 h2 => hK _ _ (h w' h1 h2))
/-- What the function that each is handed does: K: between two things; Kx: it has said 'no more'. -/
def StepIn (X Y : Nat) (K Kx : List Int → World → Prop) (N n₀ : Nat) : Prop := ∀ m pre x V, K pre V → pre.length < N →
  CallsIn Fence.wide m Try.prog 34 #[.int .i64 x, .pointer (some ⟨X, 0, none⟩), .pointer (some ⟨Y, 0, none⟩)] V fun e V' =>
    (e = .returned (.bool true) ∧ K (pre ++ [x]) V' ∧ Below n₀ V V' ∧ TK 33 V V') ∨ (e = .returned (.bool false) ∧ Kx (pre ++ [x]) V')
def EachIn (X Y : Nat) (K Kx : List Int → World → Prop) (N n₀ h : Nat) : Prop := ∀ m (p : Kid) pre W, NodeR (fun g => g < n₀) W h p → K pre W → pre.length + p.l.length ≤ N → n₀ ≤ W.heap.size →
  CallsIn Fence.wide m Try.prog 33 #[.agg (kidc h p).toArray, .func (.func 34) #[] #[.pointer (some ⟨X, 0, none⟩), .pointer (some ⟨Y, 0, none⟩)]] W fun e W' =>
    (e = .returned (.bool true) ∧ K (pre ++ p.l) W' ∧ Below n₀ W W' ∧ TK 33 W W') ∨ (e = .returned (.bool false) ∧ ∃ q, q <+: p.l ∧ Kx (pre ++ q) W')
set_option maxHeartbeats 1000000 in
theorem each_leaf {X Y N n₀ : Nat} {K Kx : List Int → World → Prop} (hstep : StepIn X Y K Kx N n₀) (hK : ∀ pre A B, K pre A → Below A.heap.size A B → K pre B) : EachIn X Y K Kx N n₀ 0 := by
  intro m p pre W hp hk hlen hn
  obtain ⟨w1, hw1⟩ : ∃ w1, W.alloc (.cells (kidc 0 p).toArray 33) = w1 := ⟨_, rfl⟩
  obtain ⟨hb1, hx1, hs1⟩ := nodes_new hw1
  obtain ⟨hpa, hpk, hp1, hp16, hph⟩ := hp
  obtain ⟨g, c, cur, fr, hpb, hcap, hS, hg, hcs⟩ := hph.pos hp1
  have ca2 : w1.cell? ⟨W.heap.size, 2, none⟩ = some (.slice none 0 0) := by rw [← hpa]; exact cell_in hx1 rfl
  have ca3 : w1.cell? ⟨W.heap.size, 3, none⟩ = some (.slice (some ⟨g, 0, none⟩) p.k c) := by rw [← hpb]; exact cell_in hx1 rfl
  obtain ⟨n, hn'⟩ : ∃ n, n = p.k := ⟨_, rfl⟩
  rw [← hn'] at ca3 hp16 hp1 hpk hcap
  have HC : Hid (∀ j (hj : j < p.l.length), W.cell? ⟨g, j, none⟩ = some (.int .i64 p.l[j])) := fun j hj => by
    refine cell_in hg (hcs j _ ?_)
    rw [iv, List.getElem?_map, List.getElem?_eq_getElem hj]
    rfl
  have HS : Hid (g < n₀) := hS
  have HK1 := Lib.hid (hK _ _ _ hk hb1)
  have HB1 := Lib.hid (hb1.mono hn)
  have HT1 : Hid (TK 33 W w1) := TK.below hb1
  have HP := Lib.hid (And.intro hpk (And.intro hlen hn))
  have hn16 : (n : Int) ≤ 16 := by omega
  clear hp1 hp16 hph hpb hcap hS hg hcs hpa hb1 hx1 hs1 hk hlen hn hpk hn'
  refine callsIn_of_wp Try.func33 rfl trivial ?_ rfl
  simp only [Try.ntmps33, List.size_toArray, List.length_cons, List.length_nil, Nat.reduceAdd, Nat.reduceSub, Array.replicate_succ, Array.replicate_zero, List.push_toArray, List.append_toArray, List.nil_append, List.cons_append]
  gi_wp2
  gi_loopw [12] (fun iv wr => iv = .int .i64 0 ∧ w1 = wr) (fun _ _ => 0)
  case atStart => exact ⟨rfl, rfl⟩
  case round =>
    obtain ⟨rfl, rfl⟩ := hrel
    gi_wp2
    gi_loopw [24] (fun iv wr => ∃ j : Nat, iv = .int .i64 (j : Int) ∧ j ≤ n ∧ Hid (K (pre ++ p.l.take j) wr) ∧ Hid (Below n₀ W wr) ∧ Hid (TK 33 W wr)) (fun iv _ => n - (intOf iv).toNat)
    case atStart => exact ⟨0, rfl, Nat.zero_le _, (by simpa using HK1), HB1, HT1⟩
    case round =>
      obtain ⟨j, rfl, hj, HKJ, HBJ, HTJ⟩ := hrel
      by_cases hjn : j < n
      · have hpp := HP.out
        have hjl : j < p.l.length := by omega
        have hc := (HBJ.out.cell (p := ⟨g, j, none⟩) HS.out).trans (HC.out j hjl)
        have HTK := Lib.hid (List.take_succ_eq_append_getElem hjl)
        have hst := hstep (m - 1) (pre ++ p.l.take j) p.l[j] wr HKJ.out (by rw [List.length_append, List.length_take]; omega)
        obtain ⟨x, hx⟩ : ∃ x, x = p.l[j] := ⟨_, rfl⟩
        rw [← hx] at hc hst HTK
        have HST := Lib.hid hst
        have hjn' : (j : Int) < n := by omega
        clear hx hpp hst
        gi_wp2
        refine ⟨trivial, fun h => absurd h (by simp [Fence.wide]), ?_⟩
        refine HST.out.mono ?_
        rintro e W3 (⟨rfl, hk3, hb3, ht3⟩ | ⟨rfl, hx3⟩)
        · have HK3 := Lib.hid hk3
          have HB3 := Lib.hid (HBJ.out.trans hb3)
          have HT3 := Lib.hid (HTJ.out.trans ht3)
          clear hk3 hb3 ht3
          gi_wp2
          go_roundw
          case rel =>
            refine ⟨j + 1, by simp, by omega, ?_, HB3, HT3⟩
            rw [HTK.out, ← List.append_assoc]
            exact HK3
          case measure => simp [intOf]; omega
        · have HX3 := Lib.hid hx3
          clear hx3
          gi_wp2
          go_ret
          refine .inr ⟨rfl, p.l.take j ++ [x], ?_, by rw [← List.append_assoc]; exact HX3.out⟩
          rw [← HTK.out]
          exact List.take_prefix _ _
      · have hpp := HP.out
        have e : p.l.take j = p.l := List.take_of_length_le (by omega)
        rw [e] at HKJ
        clear hpp e
        gi_wp2
        go_ret
        exact .inl ⟨rfl, HKJ.out, HBJ.out, HTJ.out⟩
set_option maxHeartbeats 1000000 in
theorem each_inner {X Y N n₀ : Nat} {K Kx : List Int → World → Prop} (hK : ∀ pre A B, K pre A → Below A.heap.size A B → K pre B) (h : Nat) (ih : EachIn X Y K Kx N n₀ h) : EachIn X Y K Kx N n₀ (h + 1) := by
  intro m p pre W hp hk hlen hn
  obtain ⟨w1, hw1⟩ : ∃ w1, W.alloc (.cells (kidc (h + 1) p).toArray 33) = w1 := ⟨_, rfl⟩
  obtain ⟨hb1, hx1, hs1⟩ := nodes_new hw1
  obtain ⟨hpb, hp1, hp16, ks, hph, hkl, hl, hks⟩ := hp
  obtain ⟨g, c, cur, fr, hpa, hcap, hS, hg, hcs⟩ := hph.pos hp1
  have ca2 : w1.cell? ⟨W.heap.size, 2, none⟩ = some (.slice (some ⟨g, 0, none⟩) p.k c) := by rw [← hpa]; exact cell_in hx1 rfl
  have HX1 := Lib.hid hx1
  obtain ⟨n, hn'⟩ : ∃ n, n = p.k := ⟨_, rfl⟩
  rw [← hn'] at ca2 hp16 hp1 hkl hcap
  have HC : Hid (∀ j (hj : j < ks.length), W.rangeAt g (j * 4) (kidc h ks[j])) := fun j hj => en_range (h := h) hg hcs hj
  have HS : Hid (g < n₀) := hS
  have HK1 := Lib.hid (hK _ _ _ hk hb1)
  have HB1 := Lib.hid (hb1.mono hn)
  have HT1 : Hid (TK 33 W w1) := TK.below hb1
  have HP := Lib.hid (And.intro hkl (And.intro hlen (And.intro hn (And.intro hl hpb))))
  have HKS := Lib.hid hks
  have HSZ : Hid (w1.heap.size = W.heap.size + 1) := hs1
  have hn16 : (n : Int) ≤ 16 := by omega
  have HKA := Lib.hid hK
  clear hp1 hp16 hph hcap hS hg hcs hpa hpb hb1 hx1 hs1 hk hlen hn hkl hn' hl hks
  refine callsIn_of_wp Try.func33 rfl trivial ?_ rfl
  simp only [Try.ntmps33, List.size_toArray, List.length_cons, List.length_nil, Nat.reduceAdd, Nat.reduceSub, Array.replicate_succ, Array.replicate_zero, List.push_toArray, List.append_toArray, List.nil_append, List.cons_append]
  gi_wp2
  gi_loopw [12] (fun iv wr => ∃ j : Nat, iv = .int .i64 (j : Int) ∧ j ≤ n ∧ Hid (K (pre ++ catK (ks.take j)) wr) ∧ Hid (Below n₀ W wr) ∧ Hid (TK 33 W wr) ∧ Hid (wr.heap[W.heap.size]? = some (.cells (kidc (h + 1) p).toArray 33 (0, 0)))) (fun iv _ => n - (intOf iv).toNat)
  case atStart => exact ⟨0, rfl, Nat.zero_le _, (by simpa [catK] using HK1), HB1, HT1, HX1⟩
  case round =>
    clear HK1 HB1 HT1 HX1
    obtain ⟨j, rfl, hj, HKJ, HBJ, HTJ, HXJ⟩ := hrel
    by_cases hjn : j < n
    · have hpp := HP.out
      have hjl : j < ks.length := by omega
      have HRG := Lib.hid (fun j v hv => (HBJ.out.cell (p := ⟨g, _ + j, none⟩) HS.out).trans (HC.out _ hjl j v hv))
      have HSUM := Lib.hid (cat_take_succ hjl)
      have hle := cat_take_le (ks := ks) (j + 1)
      have hjn' : (j : Int) < n := by omega
      have HND := Lib.hid ((HKS.out _ (List.getElem_mem hjl)).2.low HBJ.out)
      have hcat : catK (ks.take (j + 1)) = catK (ks.take j) ++ ks[j].l := by rw [List.take_succ_eq_append_getElem hjl, catK_app, catK_one]
      have HCAT := Lib.hid hcat
      have HPRE : Hid (catK (ks.take (j + 1)) <+: p.l) := by
        show _ <+: _
        rw [hpp.2.2.2.1]
        refine ⟨catK (ks.drop (j + 1)), ?_⟩
        rw [← catK_app, List.take_append_drop]
      obtain ⟨y, hy⟩ : ∃ y, y = ks[j] := ⟨_, rfl⟩
      rw [← hy] at HRG HSUM HND HCAT
      have HLY : Hid (pre.length + (catK (ks.take j)).length + y.l.length ≤ N) := by
        show _ ≤ _
        have := HSUM.out
        have := congrArg List.length hpp.2.2.2.1
        omega
      have HYO := Lib.hid (kid_one h y)
      have HRG2 : Hid (wr.rangeAt g (j * 4) (kidc h y)) := fun i v hv => HRG.out i v hv
      have HNW : Hid (n₀ ≤ wr.heap.size) := Nat.le_trans hpp.2.2.1 HBJ.out.size
      clear hpp hle hcat hy HRG
      gi_wp2_with (first
        | (refine mid_wide rfl 33 _ rfl g (j * 4) rfl (kidc h y) _ HRG2.out Try.underlying33 rfl rnode_size ?_)
        | (refine st_wide rfl 33 _ _ rfl wr.heap.size (kidc h y).toArray rfl rfl 33 zeroR (heap_alloc_last _ _) rnode_size rfl HYO.out ?_; intro w5 h5 k5; have HB5 : Hid (Below wr.heap.size wr w5) := (Below.newly' _ _).trans (k5.below (Nat.le_refl _)); have HX5 := Lib.hid h5; clear h5 k5)
        | (refine ld_wide rfl 33 _ rfl wr.heap.size rfl 33 _ _ _ HX5.out Try.underlying33 rfl rnode_size ?_))
      refine ⟨trivial, fun h => absurd h (by simp [Fence.wide]), ?_⟩
      have hk5 := HKA.out _ _ _ HKJ.out HB5.out
      have ht5 : TK 33 wr w5 := TK.below HB5.out
      refine (ih (m - 1) y (pre ++ catK (ks.take j)) w5 (HND.out.low (HB5.out.mono HNW.out)) hk5 (by rw [List.length_append]; exact HLY.out) (Nat.le_trans HNW.out HB5.out.size)).mono ?_
      rintro e W3 (⟨rfl, hk3, hb3, ht3⟩ | ⟨rfl, q, hq, hx3⟩)
      · have HK3 := Lib.hid hk3
        have HB3 := Lib.hid ((HBJ.out.trans (HB5.out.mono HNW.out)).trans hb3)
        have HT3 := Lib.hid ((HTJ.out.trans ht5).trans ht3)
        have HX3 := Lib.hid (ht3 _ _ _ (ht5 _ _ _ HXJ.out))
        clear hk3 hb3 ht3 hk5 ht5
        gi_wp2
        go_roundw
        case rel =>
          refine ⟨j + 1, by simp, by omega, ?_, HB3, HT3, HX3⟩
          rw [HCAT.out, ← List.append_assoc]
          exact HK3
        case measure => simp [intOf]; omega
      · have HX3 := Lib.hid hx3
        have HQ := Lib.hid hq
        clear hx3 hq hk5 ht5
        gi_wp2
        go_ret
        refine .inr ⟨rfl, catK (ks.take j) ++ q, ?_, by rw [← List.append_assoc]; exact HX3.out⟩
        refine List.IsPrefix.trans ?_ HPRE.out
        rw [HCAT.out]
        exact (List.prefix_append_right_inj _).2 HQ.out
    · have hpp := HP.out
      have e : catK (ks.take j) = p.l := by rw [hpp.2.2.2.1, List.take_of_length_le (by omega)]
      rw [e] at HKJ
      have cc3 : wr.cell? ⟨W.heap.size, 3, none⟩ = some (.slice none 0 0) := by rw [← hpp.2.2.2.2]; exact cell_in HXJ.out rfl
      clear hpp e
      obtain ⟨Wo, hWo⟩ : ∃ Wo, Wo = wr := ⟨_, rfl⟩
      subst hWo
      gi_wp2
      gi_loopw [24] (fun iv wr => iv = .int .i64 0 ∧ Wo = wr) (fun _ _ => 0)
      case atStart => exact ⟨rfl, rfl⟩
      case round =>
        obtain ⟨rfl, rfl⟩ := hrel
        gi_wp2
        go_ret
        exact .inl ⟨rfl, HKJ.out, HBJ.out, HTJ.out⟩
theorem rp_each {X Y N n₀ : Nat} {K Kx : List Int → World → Prop} (hstep : StepIn X Y K Kx N n₀) (hK : ∀ pre A B, K pre A → Below A.heap.size A B → K pre B) : ∀ h, EachIn X Y K Kx N n₀ h
  | 0 => each_leaf hstep hK
  | h + 1 => each_inner hK h (rp_each hstep hK h)
set_option maxHeartbeats 1000000 in
theorem each_zero (f : Value) (m : Nat) (W : World) : CallsIn Fence.wide m Try.prog 33 #[.agg zeroR, f] W fun e W' => e = .returned (.bool true) ∧ Below W.heap.size W W' := by
  obtain ⟨w1, hw1⟩ : ∃ w1, W.alloc (.cells #[.int .i64 0, .int .i64 0, .slice none 0 0, .slice none 0 0] 33) = w1 := ⟨_, rfl⟩
  obtain ⟨hb1, hx1, hs1⟩ := nodes_new hw1
  have ca2 : w1.cell? ⟨W.heap.size, 2, none⟩ = some (.slice none 0 0) := cell_in hx1 rfl
  have ca3 : w1.cell? ⟨W.heap.size, 3, none⟩ = some (.slice none 0 0) := cell_in hx1 rfl
  have HB1 := Lib.hid hb1
  clear hb1 hx1 hs1
  unfold zeroR
  refine callsIn_of_wp Try.func33 rfl trivial ?_ rfl
  simp only [Try.ntmps33, List.size_toArray, List.length_cons, List.length_nil, Nat.reduceAdd, Nat.reduceSub, Array.replicate_succ, Array.replicate_zero, List.push_toArray, List.append_toArray, List.nil_append, List.cons_append]
  gi_wp2
  gi_loopw [12] (fun iv wr => iv = .int .i64 0 ∧ w1 = wr) (fun _ _ => 0)
  case atStart => exact ⟨rfl, rfl⟩
  case round =>
    obtain ⟨rfl, rfl⟩ := hrel
    gi_wp2
    gi_loopw [24] (fun iv wr => iv = .int .i64 0 ∧ w1 = wr) (fun _ _ => 0)
    case atStart => exact ⟨rfl, rfl⟩
    case round =>
      obtain ⟨rfl, rfl⟩ := hrel
      gi_wp2
      go_ret
      exact ⟨rfl, HB1.out⟩
/-- Its places, each with its thing. -/
def placesL (l : List Int) : List (Nat × Int) := (List.range l.length).map fun i => (i, l.getD i 0)
theorem placesL_len (l : List Int) : (placesL l).length = l.length := by simp [placesL]
theorem placesL_snd (l : List Int) : (placesL l).map (·.2) = l := by
  unfold placesL
  rw [List.map_map]
  exact lsF_getD l
theorem placesL_snoc (l : List Int) (x : Int) : placesL (l ++ [x]) = placesL l ++ [(l.length, x)] := by
  unfold placesL
  rw [List.length_append, List.length_singleton, List.range_succ, List.map_append, List.map_singleton]
  congr 1
  · refine List.map_congr_left fun i hi => ?_
    rw [List.mem_range] at hi
    rw [List.getD_eq_getElem?_getD, List.getD_eq_getElem?_getD, List.getElem?_append_left hi]
  · rw [List.getD_eq_getElem?_getD, List.getElem?_append_right (Nat.le_refl _), Nat.sub_self]
    rfl
theorem placesL_prefix {q l : List Int} (h : q <+: l) : placesL q <+: placesL l := by
  obtain ⟨r, rfl⟩ := h
  have e : placesL q = (placesL (q ++ r)).take q.length := by
    unfold placesL
    rw [← List.map_take, List.take_range, List.length_append, Nat.min_eq_left (by omega)]
    refine List.map_congr_left fun i hi => ?_
    rw [List.mem_range] at hi
    rw [List.getD_eq_getElem?_getD, List.getD_eq_getElem?_getD, List.getElem?_append_left hi]
  rw [e]
  exact List.take_prefix _ _
abbrev encP (x : Nat × Int) : Array Value := #[Value.int .i64 (x.1 : Int), Value.int .i64 x.2]
set_option maxHeartbeats 1000000 in
theorem all_step (l n₀ Y N : Nat) (hY : n₀ ≤ Y) (hN : N ≤ 100000) (J Jx : List (Nat × Int) → World → Prop) (hS : ∀ s A v, J s A → Y + 1 < A.heap.size → J s (A.setCell ⟨Y + 1, 0, none⟩ v))
    (hYl : ∀ m pre x V, J pre V → Y + 2 ≤ V.heap.size → pre.length < N → YieldAt Fence.wide m Try.prog l (encP x) V fun e V' =>
      (e = .returned (.bool true) ∧ J (pre ++ [x]) V' ∧ KS 33 n₀ Y V V') ∨ (e = .returned (.bool false) ∧ Jx (pre ++ [x]) V')) :
    StepIn (Y + 1) Y (fun pre V => Boxed V (Y + 1) 3 (.int .i64 (pre.length : Int)) ∧ Boxed V Y 40 (.func (.yield l) #[] #[]) ∧ J (placesL pre) V) (fun pre V => Jx (placesL pre) V) N n₀ := by
  intro m pre x V ⟨hX, hYb, hJ⟩ hlen
  obtain ⟨k, hk⟩ : ∃ k, k = pre.length := ⟨_, rfl⟩
  rw [← hk] at hX hlen
  have hlt : Y + 1 < V.heap.size := hX.lt
  have hX1 := hX.set (.int .i64 ((k : Int) + 1))
  have hY1 := hYb.other (B' := Y + 1) (by omega) (.int .i64 ((k : Int) + 1))
  have cX := hX.cell
  have fX := hX.frozen
  have cY1 := hY1.cell
  have cX1 := hX1.cell
  have hgs := grownBy_setCell' V (Y + 1) (.int .i64 ((k : Int) + 1))
  have hb1 : Below n₀ V (V.setCell ⟨Y + 1, 0, none⟩ (.int .i64 ((k : Int) + 1))) := (Below.refl n₀ V).setCell (p := ⟨Y + 1, 0, none⟩) (by show n₀ ≤ Y + 1; omega) _
  have ht1 : TK 33 V (V.setCell ⟨Y + 1, 0, none⟩ (.int .i64 ((k : Int) + 1))) := TK.grown hgs fun X e cs fr h' => by
    obtain rfl := Option.some.inj e
    rw [show V.heap[Y + 1]? = _ from hX] at h'
    simp only [Option.some.injEq, Obj.cells.injEq] at h'
    exact absurd h'.2.1 (by decide)
  have hsz : (V.setCell ⟨Y + 1, 0, none⟩ (.int .i64 ((k : Int) + 1))).heap.size = V.heap.size := by simp [World.setCell]
  obtain ⟨fn, tmps, assign, body, hy, hR⟩ := hYl (m - 1) (placesL pre) (k, x) (V.setCell ⟨Y + 1, 0, none⟩ (.int .i64 ((k : Int) + 1))) (hS _ _ _ hJ hlt) (by rw [hsz]; omega) (by rw [placesL_len, ← hk]; exact hlen)
  dsimp only [encP] at hy
  have HB1 := Lib.hid hb1
  have HT1 := Lib.hid ht1
  have HX1 := Lib.hid hX1
  have HY1 := Lib.hid hY1
  have HKK := Lib.hid hk
  have hk5 : (k : Int) ≤ 100000 := by omega
  clear hX hYb hJ hlen hX1 hY1 hgs hb1 ht1 hsz hk hS hYl
  refine callsIn_of_wp Try.func34 rfl trivial ?_ rfl
  simp only [Try.ntmps34, List.size_toArray, List.length_cons, List.length_nil, Nat.reduceAdd, Nat.reduceSub, Array.replicate_succ, Array.replicate_zero, List.push_toArray, List.append_toArray, List.nil_append, List.cons_append]
  gi_wp2
  refine ⟨fun h => absurd h (by simp [Fence.wide]), ?_⟩
  refine hR.mono ?_
  rintro e W3 (⟨rfl, hj3, hks⟩ | ⟨rfl, hjx⟩)
  · have HJ3 := Lib.hid hj3
    have HKS := Lib.hid hks
    clear hj3 hks
    gi_wp2
    go_ret
    obtain ⟨h1, h2, h3, h4⟩ := HKS.out
    have hk := HKK.out
    refine .inl ⟨rfl, ⟨?_, h2.trans HY1.out, ?_⟩, HB1.out.trans h1, HT1.out.trans h4⟩
    · have e : ((pre ++ [x]).length : Int) = (k : Int) + 1 := by rw [List.length_append, List.length_singleton]; omega
      rw [e]
      exact h3.trans HX1.out
    · rw [placesL_snoc, ← hk]
      exact HJ3.out
  · have HJ3 := Lib.hid hjx
    clear hjx
    gi_wp2
    go_ret
    have hk := HKK.out
    refine .inr ⟨rfl, ?_⟩
    rw [placesL_snoc, ← hk]
    exact HJ3.out
set_option maxHeartbeats 1000000 in
/-- All's iterator goes through the rope's places, all, or as far as one goes, whatever a round does that keeps what lay below n₀, the iterator's boxes and the nodes. -/
theorem rp_all1 (Bs n₀ : Nat) (c : Array Value) (lst : List Int) (w : World) (hn₀ : n₀ ≤ w.heap.size) (hX : w.heap[Bs]? = some (.cells c 35 (0, 0))) (hv : RootR (fun g => g < n₀) w c lst) (hN : lst.length ≤ 100000) :
    IterState 33 Try.prog 32 #[.pointer (some ⟨Bs, 0, none⟩)] encP n₀ (fun ys => ys = placesL lst) (fun pre => pre <+: placesL lst) lst.length w := by
  intro l J Jx W hW hA hS hY h0 m
  have hst := all_step l n₀ W.heap.size lst.length (Nat.le_trans hn₀ hW.size) hN J Jx hS hY
  have hKK : ∀ pre A B, (Boxed A (W.heap.size + 1) 3 (.int .i64 (pre.length : Int)) ∧ Boxed A W.heap.size 40 (.func (.yield l) #[] #[]) ∧ J (placesL pre) A) → Below A.heap.size A B →
      (Boxed B (W.heap.size + 1) 3 (.int .i64 (pre.length : Int)) ∧ Boxed B W.heap.size 40 (.func (.yield l) #[] #[]) ∧ J (placesL pre) B) := fun pre A B ⟨h1, h2, h3⟩ hb =>
    ⟨(hb.block _ h1.lt).trans h1, (hb.block _ h2.lt).trans h2, hA _ _ _ h3 hb⟩
  obtain ⟨W2, hW2⟩ : ∃ W2, (W.alloc (.cells #[.func (.yield l) #[] #[]] 40)).alloc (.cells #[.int .i64 0] 3) = W2 := ⟨_, rfl⟩
  obtain ⟨hb2, hx2, hy2, hs2⟩ := two_new hW2
  have hI2 : Boxed W2 (W.heap.size + 1) 3 (.int .i64 0) := hy2
  have hF2 : Boxed W2 W.heap.size 40 (.func (.yield l) #[] #[]) := hx2
  have cI := hI2.cell
  have fI := hI2.frozen
  obtain ⟨W3, hW3⟩ : ∃ W3, W3 = W2.setCell ⟨W.heap.size + 1, 0, none⟩ (.int .i64 0) := ⟨_, rfl⟩
  have HK3 : Hid (Boxed W3 (W.heap.size + 1) 3 (.int .i64 (([] : List Int).length : Int)) ∧ Boxed W3 W.heap.size 40 (.func (.yield l) #[] #[]) ∧ J (placesL []) W3) := by
    show _ ∧ _ ∧ _
    rw [hW3]
    exact ⟨hI2.set _, hF2.other (by omega) _, hS _ _ _ (hA _ _ _ h0 hb2) (by omega)⟩
  have hBl := (Array.getElem?_eq_some_iff.1 hX).1
  have hX2 := (hb2.block _ (Nat.lt_of_lt_of_le hBl hW.size)).trans ((hW.block _ hBl).trans hX)
  have HX3 : Hid (W3.heap[Bs]? = some (.cells c 35 (0, 0))) := by
    show _ = _
    rw [hW3]
    exact (heap_setCell_other _ _ _ _ (by show Bs ≠ W.heap.size + 1; have := hW.size; omega)).trans hX2
  have hb3 : Below n₀ W W3 := by
    rw [hW3]
    exact (hb2.mono (Nat.le_trans hn₀ hW.size)).setCell (p := ⟨W.heap.size + 1, 0, none⟩) (by show n₀ ≤ W.heap.size + 1; have := hW.size; omega) _
  have HV3 := Lib.hid (hv.low ((hW.mono hn₀).trans hb3))
  have HCS := Lib.hid hv.size
  have HN3 : Hid (n₀ ≤ W3.heap.size) := Nat.le_trans (Nat.le_trans hn₀ hW.size) hb3.size
  have HST := Lib.hid hst
  have HKA := Lib.hid hKK
  clear hb2 hx2 hy2 hs2 hst hKK hX hv hN hA hS hY h0 hI2 hF2 hBl hX2 hb3
  refine callsIn_of_wp Try.func32 rfl trivial ?_ rfl
  simp only [Try.ntmps32, List.size_toArray, List.length_cons, List.length_nil, Nat.reduceAdd, Nat.reduceSub, Array.replicate_succ, Array.replicate_zero, List.push_toArray, List.append_toArray, List.nil_append, List.cons_append]
  gi_wp2_with (first
    | (rw [← hW3]; clear hW3; refine ld_wide rfl 33 _ rfl Bs rfl 35 _ _ _ HX3.out Try.underlying33 rfl (by rw [HCS.out]; exact rnode_size) ?_))
  refine ⟨trivial, fun h => absurd h (by simp [Fence.wide]), ?_⟩
  rcases HV3.out with ⟨rfl, rfl⟩ | ⟨h, p, rfl, rfl, hp, _⟩
  · refine (each_zero _ _ _).mono ?_
    rintro e W4 ⟨rfl, hb4⟩
    have h4 := HKA.out _ _ _ HK3.out hb4
    gi_wp2
    go_end0
    exact ⟨⟨_, rfl⟩, .inl ⟨_, rfl, h4.2.2⟩⟩
  · refine (rp_each HST.out HKA.out h (m - 1) p [] W3 hp HK3.out (by simp) HN3.out).mono ?_
    rintro e W4 (⟨rfl, hk4, _⟩ | ⟨rfl, q, hq, hx4⟩)
    · gi_wp2
      go_end0
      exact ⟨⟨_, rfl⟩, .inl ⟨_, rfl, hk4.2.2⟩⟩
    · gi_wp2
      go_end0
      exact ⟨⟨_, rfl⟩, .inr ⟨_, placesL_prefix hq, hx4⟩⟩
set_option maxHeartbeats 1000000 in
/-- All: the rope is boxed; the function value has the box. -/
theorem rp_All_in (n : Nat) (c : Array Value) (w : World) :
    CallsIn Fence.wide n Try.prog 18 #[.agg c] w fun e w' => e = .returned (.func (.func 32) #[] #[.pointer (some ⟨w.heap.size, 0, none⟩)]) ∧ w' = w.alloc (.cells c 35) := by
  refine callsIn_of_wp Try.func18 rfl trivial ?_ rfl
  simp only [Try.ntmps18, List.size_toArray, List.length_cons, List.length_nil, Nat.reduceAdd, Nat.reduceSub, Array.replicate_succ, Array.replicate_zero, List.push_toArray, List.append_toArray, List.nil_append, List.cons_append]
  gi_wp2
  go_ret
  exact ⟨rfl, rfl⟩
end Go.Proofs.Ytldemoflgahdgaa
