/- Package sparse: Map. -/
import Derived.Test.YtmdfpkklnaekmaaDoorSp6
import Derived.Test.YtmdfpkklnaekmaaDoorSp7
import Derived.Test.YtmdfpkklnaekmaaDoorRoundIn
namespace Go.Proofs.YtmdfpkklnaekmaaDoor
open Go.RowKit Go.Shelf
set_option maxRecDepth 1000000
set_option linter.unusedSimpArgs false
attribute [local go_sem] Oper.semAt_some

/-- A row of what a rule makes of each place and thing. -/
def mapR (R : Rw) (g : Nat → Int → Int) : Rw := fun i => (R i).map (g i)
theorem map_some (R : Rw) (g : Nat → Int → Int) (i : Nat) : (mapR R g i).isSome = (R i).isSome := by unfold mapR; cases R i <;> rfl
theorem map_bits (R : Rw) (g : Nat → Int → Int) : ∀ k, bitsR (mapR R g) k = bitsR R k
  | 0 => rfl
  | k + 1 => by unfold bitsR; rw [map_bits R g k, map_some]
theorem map_all (R : Rw) (g : Nat → Int → Int) : allR (mapR R g) = (allR R).map fun p => (p.1, g p.1 p.2) := by
  unfold allR
  rw [List.map_filterMap]
  congr 1
  funext i
  unfold mapR
  cases R i <;> rfl
theorem map_lis (R : Rw) (g : Nat → Int → Int) : lisR (mapR R g) = (allR R).map fun p => g p.1 p.2 := by
  rw [← all_map, map_all, List.map_map]
  rfl
theorem map_ok {R : Rw} {g : Nat → Int → Int} (h : Ok R) (hg : ∀ i x, -9223372036854775808 ≤ g i x ∧ g i x ≤ 9223372036854775807) : Ok (mapR R g) := by
  refine ⟨fun i hi => ?_, fun i n hn => ?_⟩
  · unfold mapR; rw [h.off i hi]; rfl
  · unfold mapR at hn
    cases hr : R i with
    | none => rw [hr] at hn; cases hn
    | some x => rw [hr] at hn; cases hn; exact hg i x
theorem bits_none {R : Rw} (h : Ok R) (hb : bitsR R 32 = 0) : R = noR := by
  funext i
  by_cases hi : i < 32
  · have := bits_32 R i hi
    rw [hb, bit_test, Nat.zero_testBit] at this
    cases hr : R i with
    | none => rfl
    | some x => rw [hr] at this; cases this
  · exact h.off i (by omega)
theorem cnt_none {R : Rw} (h : Ok R) (h0 : cntR R 32 = 0) : R = noR := by
  funext i
  by_cases hi : i < 32
  · have h1 := cnt_mono R (show i + 1 ≤ 32 by omega)
    rw [h0, cnt_succ] at h1
    cases hr : R i with
    | none => rfl
    | some x => rw [hr] at h1; simp at h1
  · exact h.off i (by omega)
theorem map_none (g : Nat → Int → Int) : mapR noR g = noR := rfl
theorem ints_kept {A B : World} {n : Nat} {v : Value} {l : List Int} {row : Option Nat} (h : Ints n v l A) (hg : A.grownBy B row) (hr : ∀ r, row = some r → ∃ o : Obj, A.heap[r]? = some o ∧ o.isCells = false) : Ints n v l B := by
  refine h.grown hg ?_
  cases hv : v.ownBlock with
  | none => exact .inl rfl
  | some k =>
    refine .inr fun e => ?_
    obtain ⟨o, ho, hc⟩ := hr k e.symm
    obtain ⟨⟨_, h2⟩, _⟩ := h
    rcases h2 with ⟨rfl, _⟩ | ⟨g, cap, cur, fz, rfl, _, hb, _⟩
    · cases hv
    · obtain rfl : g = k := by simpa [Value.ownBlock] using hv
      rw [hb] at ho
      cases ho
      cases hc
theorem lis_kept {A B : World} {v : Value} {l : List Int} {row : Option Nat} (h : LisAt A v l) (hg : A.grownBy B row) (hr : ∀ r, row = some r → ∃ o : Obj, A.heap[r]? = some o ∧ o.isCells = false) : LisAt B v l := by
  rcases h with h | ⟨h0, g, c, cs, fr, h1, h2, h3, h4⟩
  · exact .inl h
  · refine .inr ⟨h0, g, c, cs, fr, h1, h2, (hg.block g (Array.getElem?_eq_some_iff.1 h3).1 fun e => ?_).trans h3, h4⟩
    obtain ⟨o, ho, hc⟩ := hr g e.symm
    rw [h3] at ho
    cases ho
    cases hc
theorem ints_not {w : World} {n L : Nat} {v : Value} {l : List Int} {cs : Array Value} {T : TypeId} {fr : Nat × Nat} (h : Ints n v l w) (hb : w.heap[L]? = some (.cells cs T fr)) (hT : T ≠ 3) : some L ≠ v.ownBlock := by
  intro e
  obtain ⟨⟨_, h2⟩, _⟩ := h
  rcases h2 with ⟨rfl, _⟩ | ⟨g, cap, cur, fz, rfl, _, hg, _⟩
  · cases e
  · obtain rfl : L = g := by simpa [Value.ownBlock] using e
    rw [hb] at hg
    cases hg
    exact hT rfl
theorem ints_cells {w : World} {n : Nat} {v : Value} {l : List Int} (h : Ints n v l w) : ∀ (j : Nat) (o : Obj), v.ownBlock = some j → w.heap[j]? = some o → o.isCells = true := by
  intro j o hj ho
  obtain ⟨⟨_, h2⟩, _⟩ := h
  rcases h2 with ⟨rfl, _⟩ | ⟨g, cap, cur, fz, rfl, _, hg, _⟩
  · cases hj
  · obtain rfl : g = j := by simpa [Value.ownBlock] using hj
    rw [hg] at ho
    cases ho
    rfl
theorem ints_low {w : World} {n : Nat} {v : Value} {l : List Int} (h : Ints n v l w) : ∀ k, some k = v.ownBlock → n ≤ k := by
  intro k hk
  obtain ⟨⟨_, h2⟩, _⟩ := h
  rcases h2 with ⟨rfl, _⟩ | ⟨g, cap, cur, fz, rfl, hB, _⟩
  · cases hk
  · obtain rfl : k = g := by simpa [Value.ownBlock] using hk
    exact hB
theorem ints_lis {w : World} {n : Nat} {v : Value} {l : List Int} (h : Ints n v l w) (h0 : 0 < l.length) : LisAt w v l := by
  obtain ⟨h1, _⟩ := h
  obtain ⟨_, h2⟩ := h1
  rcases h2 with ⟨_, h3⟩ | ⟨g, cap, cur, fz, rfl, hB, hg, h5, h6, h7, h8⟩
  · exact absurd (List.eq_nil_of_length_eq_zero (by simpa using h3)) (by intro e; rw [e] at h0; simp at h0)
  · refine .inr ⟨h0, g, cap, cur, fz, rfl, h6, hg, fun j u hu => ?_⟩
    have hj := (List.getElem?_eq_some_iff.1 hu).1
    rw [iv_len] at hj
    rw [← h8.2, List.getElem?_take_of_lt (by omega), Array.getElem?_toList] at hu
    exact hu
/-- 'make([]int, 0, n)'. -/
theorem ints_make {ops : Array Oper} {rest : List Oper} {o : Oper} {a : Act} {Q : Exit → Act → World → Prop} {w : World} (hgd : o.guard = none) (l c : Operand) (hop : o.op = .makeSlice 25 l c)
    {B : Nat} (kl kc : IntKind) (C : Int) (n : Nat) (hl : a.eval l = .int kl 0) (hc : a.eval c = .int kc C) (hC : C = (n : Int)) (hn : n ≤ 10000000) (hB : B ≤ w.heap.size)
    (h : ∀ w', Ints B (.slice (some ⟨w.heap.size, 0, none⟩) 0 n) [] w' → Below w.heap.size w w' → wpList Tryd.prog ops Q rest (a.put o.dst (.slice (some ⟨w.heap.size, 0, none⟩) 0 n)) w') : wpList Tryd.prog ops Q (o :: rest) a w := by
  obtain ⟨i, hi, hz, h1, h2⟩ := info_parts int_info
  refine wpList_make_own w hgd l c 25 hop B 3 i (.int .i64 0) 1 Tryd.underlying25 hi hz h1 kl kc C n hl hc hC (by rw [h2]; omega) (by unfold maxLen; omega) hB fun w' r1 r2 => ?_
  have hb : Below w.heap.size w w' := (Below.refl _ _).grown r2 (Nat.le_refl _) (fun k hk => by cases hk)
  exact h _ ⟨World.ownsRowF_of r1, Nat.le_trans hB hb.size⟩ hb
theorem row_info2 : (Tryd.prog.info? 27).map (·.size) = some 2 := by kernel_rfl
set_option maxHeartbeats 4000000 in
theorem sp_Map (w : World) (R : Rw) (c : Array Value) (h : At6 w R c) (hT : Tab6 w) (fb : Nat) (g : Nat → Int → Int) (fnum : Nat) (hent : ∀ args w, (callFunc fnum args).run Tryd.prog w = .ok (.enter fnum args) w)
    (hf : ∀ V, Below w.heap.size w V → ∀ (i : Nat) (x : Int), Calls Tryd.prog fnum #[.int .i64 (i : Int), .int .i64 x, .pointer (some ⟨fb, 0, none⟩)] V fun e V' => e = .returned (.int .i64 (g i x)) ∧ V' = V)
    (hg : ∀ i x, -9223372036854775808 ≤ g i x ∧ g i x ≤ 9223372036854775807) :
    Calls Tryd.prog 17 #[.agg c, .func (.func fnum) #[] #[.pointer (some ⟨fb, 0, none⟩)]] w fun e W' => ∃ c', e = .returned (.agg c') ∧ At6 W' (mapR R g) c' ∧ Below w.heap.size w W' := by
  obtain ⟨hok, v, rfl, h2⟩ := h
  obtain ⟨a, n, rfl, _⟩ := h2.shape
  by_cases hb : bitsR R 32 = 0
  · obtain rfl := bits_none hok hb
    have hz : ((bitsR noR 32 : Nat) : Int) = 0 := by rw [hb]; rfl
    rw [map_none]
    clear hok h2 hf hg hb
    go_enter Tryd.func17, Tryd.ntmps17
    go_wp2_with fail
    have hl := heap_alloc_last (((w.alloc (.cells #[.int .u32 0, .slice a (lisR noR).length n] 27)).alloc (.cells #[.func (.func fnum) #[] #[.pointer (some ⟨fb, 0, none⟩)]] 48))) (.cells #[.int .u32 0, .slice none 0 0] 27)
    simp only [World.size_alloc] at hl
    exact bodyPost_ret (results_cell_row rfl _ _ (w.heap.size + 1 + 1) 27 _ (0, 0) _ rfl hl Tryd.underlying27 rfl row_info2) rfl ⟨_, rfl, At6.zero _, Below.more (Below.more (Below.newly' _ _) _) _⟩
  · have hz : ((bitsR R 32 : Nat) == (0 : Int)) = false := beq_eq_false_iff_ne.2 (by omega)
    refine (callsIn_wide (n := 5)).1 ?_
    refine callsIn_of_wp_marks Tryd.func17 rfl trivial ?_ rfl
    refine wpIn_wide.2 ?_
    simp only [Tryd.ntmps17, List.size_toArray, List.length_cons, List.length_nil, Nat.reduceAdd, Nat.reduceSub, Array.replicate_succ, Array.replicate_zero, List.push_toArray, List.append_toArray, List.nil_append, List.cons_append]
    have HALL := Lib.hid (fun b v w => callsIn_wide.1 (sp_All_in 5 b v w))
    have hlen32 : (lisR R).length ≤ 32 := by rw [lisR_len]; exact cnt_le R 32
    obtain ⟨w3, hw3⟩ : ∃ w3, w3 = (((w.alloc (.cells #[.int .u32 (bitsR R 32 : Nat), .slice a (lisR R).length n] 27)).alloc (.cells #[.func (.func fnum) #[] #[.pointer (some ⟨fb, 0, none⟩)]] 48)).alloc (.cells #[.int .u32 0, .slice none 0 0] 27)) := ⟨_, rfl⟩
    have HS3 : Hid (w3.heap.size = w.heap.size + 3) := by show _ = _; rw [hw3]; simp
    have HB3 : Hid (Below w.heap.size w w3) := by show Below _ _ _; rw [hw3]; exact Below.more (Below.more (Below.newly' _ _) _) _
    have HX3 : Hid (w3.heap[w.heap.size]? = some (.cells #[.int .u32 (bitsR R 32 : Nat), .slice a (lisR R).length n] 27 (0, 0))) := by
      show _ = _
      rw [hw3]
      exact ((Below.newly' ((w.alloc (.cells #[.int .u32 (bitsR R 32 : Nat), .slice a (lisR R).length n] 27)).alloc (.cells #[.func (.func fnum) #[] #[.pointer (some ⟨fb, 0, none⟩)]] 48)) _).block _ (by simp; omega)).trans (((Below.newly' (w.alloc (.cells #[.int .u32 (bitsR R 32 : Nat), .slice a (lisR R).length n] 27)) _).block _ (by simp)).trans (heap_alloc_last w _))
    have HF3 : Hid (Boxed w3 (w.heap.size + 1) 48 (.func (.func fnum) #[] #[.pointer (some ⟨fb, 0, none⟩)])) := by
      have h := heap_alloc_last (w.alloc (.cells #[.int .u32 (bitsR R 32 : Nat), .slice a (lisR R).length n] 27)) (.cells #[.func (.func fnum) #[] #[.pointer (some ⟨fb, 0, none⟩)]] 48)
      rw [World.size_alloc] at h
      show _ = _
      rw [hw3]
      exact ((Below.newly' ((w.alloc (.cells #[.int .u32 (bitsR R 32 : Nat), .slice a (lisR R).length n] 27)).alloc (.cells #[.func (.func fnum) #[] #[.pointer (some ⟨fb, 0, none⟩)]] 48)) _).block _ (by simp)).trans h
    have HR3 : Hid (w3.heap[w.heap.size + 1 + 1]? = some (.cells #[.int .u32 0, .slice none 0 0] 27 (0, 0))) := by
      have h := heap_alloc_last ((w.alloc (.cells #[.int .u32 (bitsR R 32 : Nat), .slice a (lisR R).length n] 27)).alloc (.cells #[.func (.func fnum) #[] #[.pointer (some ⟨fb, 0, none⟩)]] 48)) (.cells #[.int .u32 0, .slice none 0 0] 27)
      simp only [World.size_alloc] at h
      show _ = _
      rw [hw3]
      exact h
    go_wp2_with (first
      | (refine ints_make (B := w.heap.size) rfl _ _ rfl .i64 .i64 _ (lisR R).length rfl rfl rfl (by omega) (by simp; omega) ?_; rw [← hw3]; intro w4 hi4 hb4; have HI4 := Lib.hid hi4; have HB4 := Lib.hid hb4; have HX4 := Lib.hid ((hb4.block _ (Array.getElem?_eq_some_iff.1 HX3.out).1).trans HX3.out); clear hi4 hb4)
      | (refine ld_if rfl 27 _ rfl w.heap.size rfl 27 _ _ _ (((Below.newly' w4 _).block _ (Array.getElem?_eq_some_iff.1 HX4.out).1).trans HX4.out) Tryd.underlying27 rfl row_info2 ?_)
      | (go_at_call 15; refine (HALL.out _ _ _).mono ?_; rintro e w' ⟨rfl, rfl⟩))
    obtain ⟨L, hL⟩ : ∃ L, L = w4.heap.size := ⟨_, rfl⟩
    obtain ⟨W0, hW0⟩ : ∃ W0, W0 = (w4.alloc (.cells #[.slice (some ⟨w.heap.size + 1 + 1 + 1, 0, none⟩) 0 (lisR R).length] 25)).alloc (.cells #[.int .u32 (bitsR R 32 : Nat), .slice a (lisR R).length n] 27) := ⟨_, rfl⟩
    have hs3 := HS3.out
    rw [hs3] at HI4
    have hsz4 : w.heap.size + 3 ≤ w4.heap.size := by have := HB4.out.size; omega
    have hw4 : Below w.heap.size w w4 := HB3.out.trans (HB4.out.mono (by omega))
    have hb0 : Below w4.heap.size w4 W0 := by rw [hW0]; exact Below.more (Below.newly' _ _) _
    have hB0 : Below w.heap.size w W0 := hw4.trans (hb0.mono (by omega))
    have hX0 : W0.heap[w.heap.size]? = some (.cells #[.int .u32 (bitsR R 32 : Nat), .slice a (lisR R).length n] 27 (0, 0)) := (hb0.block _ (by omega)).trans HX4.out
    have hF0 : Boxed W0 (w.heap.size + 1) 48 (.func (.func fnum) #[] #[.pointer (some ⟨fb, 0, none⟩)]) := (hb0.block _ (by omega)).trans ((HB4.out.block _ (by omega)).trans HF3.out)
    have hR0 : W0.heap[w.heap.size + 1 + 1]? = some (.cells #[.int .u32 0, .slice none 0 0] 27 (0, 0)) := (hb0.block _ (by omega)).trans ((HB4.out.block _ (by omega)).trans HR3.out)
    have hL0 : Boxed W0 L 25 (.slice (some ⟨w.heap.size + 1 + 1 + 1, 0, none⟩) 0 (lisR R).length) := by
      show _ = _
      rw [hW0, hL]
      exact ((Below.newly' _ _).block _ (by simp)).trans (heap_alloc_last w4 _)
    have hA0 : W0.heap[L + 1]? = some (.cells #[.int .u32 (bitsR R 32 : Nat), .slice a (lisR R).length n] 27 (0, 0)) := by
      have h := heap_alloc_last (w4.alloc (.cells #[.slice (some ⟨w.heap.size + 1 + 1 + 1, 0, none⟩) 0 (lisR R).length] 25)) (.cells #[.int .u32 (bitsR R 32 : Nat), .slice a (lisR R).length n] 27)
      rw [World.size_alloc, ← hL] at h
      rw [hW0]
      exact h
    have hI0 : Ints w.heap.size (.slice (some ⟨w.heap.size + 1 + 1 + 1, 0, none⟩) 0 (lisR R).length) [] W0 := HI4.out.later hb0
    have hLs : w.heap.size + 3 ≤ L := by omega
    have hsz0 : W0.heap.size = L + 2 := by rw [hW0, hL]; simp
    have htl : 0 < w.heap.size := World.block_lt_of_cell? w _ (hT 0 (by decide))
    rw [← hW0, ← hL]
    clear HS3 HB3 HX3 HF3 HR3 HX4 HB4 HI4 hw3 hs3 hsz4 hw4 hb0 hW0 hL
    refine (wpIn_wide (n := 5)).1 ?_
    refine wpIn_rangeFunc_ownG (F := Fence.wide) rfl (by omega) (gf := 34) (lb := #[.pointer (some ⟨L + 1, 0, none⟩)]) rfl trivial (enters_of Tryd.func34 (by kernel_rfl) rfl)
      (sp_all_stops 4 (by omega) (L + 1) w.heap.size R _ W0 (by omega) (by omega) htl (cell_in hA0 rfl) (cell_in hA0 rfl) (h2.in_.below hB0) (hT.below hB0)) belowK_t (belowK_b (by omega)) (Below.refl _ _) (fun _ => rfl)
      (fun pre V => ((∃ a5 m5 c5, Boxed V L 25 (.slice a5 m5 c5) ∧ Ints w.heap.size (.slice a5 m5 c5) (pre.map fun p => g p.1 p.2) V) ∧ Boxed V (w.heap.size + 1) 48 (.func (.func fnum) #[] #[.pointer (some ⟨fb, 0, none⟩)]) ∧ V.heap[w.heap.size + 1 + 1]? = some (.cells #[.int .u32 0, .slice none 0 0] 27 (0, 0)) ∧ V.heap[w.heap.size]? = some (.cells #[.int .u32 (bitsR R 32 : Nat), .slice a (lisR R).length n] 27 (0, 0))) ∧ Below w.heap.size w V)
      (fun _ _ _ => False)
      (OwnFrom.and (Own.from (fun s A B row hs hg' hr => by
        obtain ⟨⟨a5, m5, c5, h1, h2⟩, h3, h4, h5⟩ := hs
        have hne : ∀ k cs T fr, A.heap[k]? = some (.cells cs T fr) → some k ≠ row := fun k cs T fr hk e => by
          obtain ⟨o, ho, hc⟩ := hr k e.symm
          rw [hk] at ho
          cases ho
          cases hc
        exact ⟨⟨a5, m5, c5, bx_kept h1 hg' hr, ints_kept h2 hg' hr⟩, bx_kept h3 hg' hr, (hg'.block _ (Array.getElem?_eq_some_iff.1 h4).1 (hne _ _ _ _ h4)).trans h4, (hg'.block _ (Array.getElem?_eq_some_iff.1 h5).1 (hne _ _ _ _ h5)).trans h5⟩) _) (ownFrom_below (Nat.le_refl _) (by omega)))
      (fun _ _ _ _ _ hs _ _ => hs)
      ⟨⟨⟨_, _, _, hL0, hI0⟩, hF0, hR0, hX0⟩, hB0⟩
      (fun x => { tmps := #[.agg #[.int .u32 (bitsR R 32 : Nat), .slice a (lisR R).length n], (.func (.func fnum) #[] #[.pointer (some ⟨fb, 0, none⟩)]), .pointer (some ⟨w.heap.size, 0, none⟩), .pointer (some ⟨w.heap.size + 1, 0, none⟩), .pointer (some ⟨w.heap.size + 1 + 1, 0, none⟩), .pointer (some ⟨L, 0, none⟩), .int .i64 (x.1 : Int), .int .i64 x.2, .pointer (some ⟨w.heap.size, 0, none⟩), .int .u32 (bitsR R 32 : Nat), .bool false, undef, .pointer (some ⟨w.heap.size, 1, none⟩), .slice a (lisR R).length n, .int .i64 ((lisR R).length : Nat), .slice (some ⟨w.heap.size + 1 + 1 + 1, 0, none⟩) 0 (lisR R).length, .agg #[.int .u32 (bitsR R 32 : Nat), .slice a (lisR R).length n], .func (.func 34) #[] #[.pointer (some ⟨L + 1, 0, none⟩)], .int .i64 (x.1 : Int), .int .i64 x.2, undef, undef, undef, undef, undef, undef, undef, undef, undef, undef, undef], defers := [] }) ?assign ?body ?done ?stop
    case assign =>
      intro l x W K hK
      gi_wp2
      exact hK
    case body =>
      rintro l pre x V ⟨⟨⟨a5, m5, c5, hL, hI⟩, hF, hR, hX⟩, hBV⟩ hpl
      have cL := hL.cell
      have cF := hF.cell
      have HIV := Lib.hid hI
      have HLV := Lib.hid hL
      have hlen5 : (pre.map fun p => g p.1 p.2).length ≤ 1000000 := by rw [List.length_map]; rw [lisR_len, ← all_len] at hlen32; omega
      have HF2 := Lib.hid (fun V' (h : Below w.heap.size w V') => hf V' h x.1 x.2)
      have HBV := Lib.hid hBV
      clear hI
      gi_wp2
      have HK1 : Hid (V.drew.cell? ⟨L, 0, none⟩ = some (.slice a5 m5 c5) ∧ V.drew.cell? ⟨w.heap.size + 1, 0, none⟩ = some (.func (.func fnum) #[] #[.pointer (some ⟨fb, 0, none⟩)])) := ⟨cL, cF⟩
      have HD1 := Lib.hid (Below.drewMany (Below.refl V.heap.size V) 1)
      have HIL := Lib.hid (HIV.out.later HD1.out)
      have HI2 := Lib.hid (HIL.out.alloc (.cells #[.int .i64 (g x.1 x.2)] 3))
      have HK2 : Hid ((V.drew.alloc (.cells #[.int .i64 (g x.1 x.2)] 3)).cell? ⟨L, 0, none⟩ = some (.slice a5 m5 c5) ∧ (V.drew.alloc (.cells #[.int .i64 (g x.1 x.2)] 3)).cell? ⟨w.heap.size + 1, 0, none⟩ = some (.func (.func fnum) #[] #[.pointer (some ⟨fb, 0, none⟩)])) :=
        ⟨((Below.newly' V.drew _).cell (p := ⟨L, 0, none⟩) hL.lt).trans cL, ((Below.newly' V.drew _).cell (p := ⟨w.heap.size + 1, 0, none⟩) hF.lt).trans cF⟩
      have HFR := Lib.hid hF
      have HRR := Lib.hid hR
      have HXR := Lib.hid hX
      clear hL hF hR hX
      refine region_T_in (S := fun V' => V'.cell? ⟨L, 0, none⟩ = some (.slice a5 m5 c5) ∧ V'.cell? ⟨w.heap.size + 1, 0, none⟩ = some (.func (.func fnum) #[] #[.pointer (some ⟨fb, 0, none⟩)])) [7] (by kernel_rfl) (by kernel_rfl) (fun ⟨_, _, h⟩ => h) (by first | exact HK1.out | exact HK2.out | exact HK3.out) (fun hHeld => ?_)
      refine wpAnyT_take (i := 0) (oi := ⟨some 20, _, _, _, _, _⟩) (v := ?vm0) rfl (by kernel_rfl) (by kernel_rfl) (by kernel_rfl) (by kernel_rfl) (fun _ _ _ h => h) (Or.inl ⟨by rfl, ?hm0⟩) (by assumption) ?rm0
      case hm0 => (intro w hSw; (try dsimp only at hSw); first | (go_simp; done) | (go_simp; with_reducible rfl))
      (try simp only [Act.put, List.setIfInBounds_toArray, List.set_cons_zero, List.set_cons_succ])
      refine wpAnyT_take (i := 1) (oi := ⟨some 21, _, _, _, _, _⟩) (v := ?vm1) rfl (by kernel_rfl) (by kernel_rfl) (by kernel_rfl) (by kernel_rfl) (fun _ _ _ h => h) (Or.inl ⟨by rfl, ?hm1⟩) (by assumption) ?rm1
      case hm1 => (intro w hSw; (try dsimp only at hSw); first | (go_simp; done) | (go_simp; with_reducible rfl))
      (try simp only [Act.put, List.setIfInBounds_toArray, List.set_cons_zero, List.set_cons_succ])
      refine wpAnyT_take (i := 2) (oi := ⟨some 22, _, _, _, _, _⟩) (v := ?vm2) rfl (by kernel_rfl) (by kernel_rfl) (by kernel_rfl) (by kernel_rfl) (fun _ _ _ h => h) (Or.inl ⟨by rfl, ?hm2⟩) (by assumption) ?rm2
      case hm2 => (intro w hSw; (try dsimp only at hSw); first | (go_simp; done) | (go_simp; with_reducible rfl))
      (try simp only [Act.put, List.setIfInBounds_toArray, List.set_cons_zero, List.set_cons_succ])
      refine wpAnyT_take (i := 3) (oi := ⟨some 23, _, _, _, _, _⟩) (v := ?vm3) rfl (by kernel_rfl) (by kernel_rfl) (by kernel_rfl) (by kernel_rfl) (fun _ _ _ h => h) (Or.inl ⟨by rfl, ?hm3⟩) (by assumption) ?rm3
      case hm3 => (intro w hSw; (try dsimp only at hSw); first | (go_simp; done) | (go_simp; with_reducible rfl))
      (try simp only [Act.put, List.setIfInBounds_toArray, List.set_cons_zero, List.set_cons_succ])
      refine wpAnyT_one (i := 4) (o := ⟨some 24, _, _, _, _, _⟩) (by kernel_rfl) rfl (fun K hK => ?_)
      go_simp
      refine (HF2.out V.drew (Below.drewMany HBV.out 1)).mono ?_
      rintro e w' ⟨rfl, rfl⟩
      dsimp only
      refine hK.out _ _ (by first | exact HK1.out | exact HK2.out | exact HK3.out) (fun hHeld => ?_)
      clear hK K
      (try simp only [Act.put, List.setIfInBounds_toArray, List.set_cons_zero, List.set_cons_succ])
      refine wpAnyT_one (i := 5) (o := ⟨some 25, _, _, _, _, _⟩) (by kernel_rfl) rfl (fun K hK => ?_)
      go_simp
      refine hK.out _ _ (by first | exact HK1.out | exact HK2.out | exact HK3.out) (fun hHeld => ?_)
      clear hK K
      (try simp only [Act.put, List.setIfInBounds_toArray, List.set_cons_zero, List.set_cons_succ])
      refine wpAnyT_one (i := 6) (o := ⟨some 26, _, _, _, _, _⟩) (by kernel_rfl) rfl (fun K hK => ?_)
      rw [if_pos (by rfl)]
      refine ints_wp (.tmp 20) (.tmp 25) rfl (v := .slice a5 m5 c5) rfl HI2.out [g x.1 x.2] ⟨V.drew.heap.size, 0, none⟩ 1 rfl (new_ints V.drew [g x.1 x.2] _ rfl) (by have : ([g x.1 x.2] : List Int).length = 1 := rfl; omega) ?_
      intro v6 w6 hi6 hg6
      obtain ⟨a6, m6, c6, rfl⟩ : ∃ a m c, v6 = .slice a m c := by obtain ⟨a, c, e⟩ := hi6.len; exact ⟨a, _, c, e⟩
      have hL6 : Boxed w6 L 25 (.slice a5 m5 c5) := by
        have hl : Boxed (V.drew.alloc (.cells #[.int .i64 (g x.1 x.2)] 3)) L 25 (.slice a5 m5 c5) := ((Below.newly' V.drew _).block _ HLV.out.lt).trans HLV.out
        exact hl.kept hg6 (ints_not HI2.out hl (by decide))
      have hF6 : Boxed w6 (w.heap.size + 1) 48 (.func (.func fnum) #[] #[.pointer (some ⟨fb, 0, none⟩)]) := by
        have hl : Boxed (V.drew.alloc (.cells #[.int .i64 (g x.1 x.2)] 3)) (w.heap.size + 1) 48 (.func (.func fnum) #[] #[.pointer (some ⟨fb, 0, none⟩)]) := ((Below.newly' V.drew _).block _ HFR.out.lt).trans HFR.out
        exact hl.kept hg6 (ints_not HI2.out hl (by decide))
      have hR6 : w6.heap[w.heap.size + 1 + 1]? = some (.cells #[.int .u32 0, .slice none 0 0] 27 (0, 0)) := by
        have hl := ((Below.newly' V.drew (.cells #[.int .i64 (g x.1 x.2)] 3)).block _ (Array.getElem?_eq_some_iff.1 HRR.out).1).trans HRR.out
        exact (hg6.block _ (Array.getElem?_eq_some_iff.1 hl).1 (ints_not HI2.out hl (by decide))).trans hl
      have hX6 : w6.heap[w.heap.size]? = some (.cells #[.int .u32 (bitsR R 32 : Nat), .slice a (lisR R).length n] 27 (0, 0)) := by
        have hl := ((Below.newly' V.drew (.cells #[.int .i64 (g x.1 x.2)] 3)).block _ (Array.getElem?_eq_some_iff.1 HXR.out).1).trans HXR.out
        exact (hg6.block _ (Array.getElem?_eq_some_iff.1 hl).1 (ints_not HI2.out hl (by decide))).trans hl
      have hk6 : KeepsOthers V w6 := ((KeepsOthers.drew V).trans (KeepsOthers.alloc V.drew _)).trans (KeepsOthers.of_grownBy hg6 (ints_cells HI2.out))
      have hb6 : Below w.heap.size V w6 := (HD1.out.mono HBV.out.size).trans (((Below.newly' V.drew _).mono HBV.out.size).grown hg6 (by have := HBV.out.size; simp; show w.heap.size ≤ V.heap.size + 1; omega) (fun k e => ints_low HI2.out k e.symm))
      have cL6 := hL6.cell
      have fL6 := hL6.frozen
      have HK3 : Hid (w6.cell? ⟨L, 0, none⟩ = some (.slice a5 m5 c5) ∧ w6.cell? ⟨w.heap.size + 1, 0, none⟩ = some (.func (.func fnum) #[] #[.pointer (some ⟨fb, 0, none⟩)])) := ⟨cL6, hF6.cell⟩
      have HI6 := Lib.hid hi6
      have HL6 := Lib.hid hL6
      have HF6 := Lib.hid hF6
      have HR6 := Lib.hid hR6
      have HX6 := Lib.hid hX6
      clear hi6 hL6 hF6 hR6 hX6 hg6
      refine hK.out _ _ (by first | exact HK1.out | exact HK2.out | exact HK3.out) (fun hHeld => ?_)
      clear hK K
      (try simp only [Act.put, List.setIfInBounds_toArray, List.set_cons_zero, List.set_cons_succ])
      refine wpAnyT_last (i := 7) (o := ⟨none, _, _, _, _, _⟩) (by kernel_rfl) (by decide) rfl (fun K hK => ?_)
      go_simp
      refine hK.out _ _ ?_
      clear hK K
      (try simp only [Act.put, List.setIfInBounds_toArray, List.set_cons_zero, List.set_cons_succ])
      refine wpAnyT_done (by kernel_rfl) ?_ _
      have hgs := grownBy_setCell' w6 L (.slice a6 m6 c6)
      have hbs : Below w.heap.size V (w6.setCell ⟨L, 0, none⟩ (.slice a6 m6 c6)) := hb6.setCell (p := ⟨L, 0, none⟩) (by simp; omega) _
      refine ⟨(hk6.trans (KeepsOthers.setCell _ _ _)).from _, hbs, ⟨⟨_, _, _, HL6.out.set _, ?_⟩, HF6.out.other (by omega) _, (hgs.block _ (Array.getElem?_eq_some_iff.1 HR6.out).1 (fun e => by have := Option.some.inj e; omega)).trans HR6.out, (hgs.block _ (Array.getElem?_eq_some_iff.1 HX6.out).1 (fun e => by have := Option.some.inj e; omega)).trans HX6.out⟩, HBV.out.trans hbs⟩
      rw [List.map_append]
      exact HI6.out.grown hgs (.inr fun e => ints_not HI6.out HL6.out (by decide) e.symm)
    case done =>
      rintro D ys V hD rfl ⟨⟨⟨a5, m5, c5, hL, hI⟩, hF, hR, hX⟩, hBV⟩ hK
      have cL := hL.cell
      have hcX := cell_in hX (j := 0) (v := .int .u32 (bitsR R 32 : Nat)) rfl
      have hlis : LisAt V (.slice a5 m5 c5) (lisR (mapR R g)) := by
        rw [map_lis]
        refine ints_lis hI ?_
        rw [List.length_map, all_len]
        apply Nat.pos_of_ne_zero
        intro h0
        exact hb (by rw [cnt_none hok h0]; rfl)
      have HLI := Lib.hid hlis
      have HR := Lib.hid hR
      have HBV := Lib.hid hBV
      have HK := Lib.hid hK
      clear hL hI hF hR hX hBV hK hlis
      go_wp2_with (refine st_agg rfl 27 _ _ rfl (w.heap.size + 1 + 1) #[.int .u32 (bitsR R 32 : Nat), .slice a5 m5 c5] rfl rfl 27 #[.int .u32 0, .slice none 0 0] HR.out row_info2 rfl (by simp [Value.oneCell']) ?_; intro w6 h6 k6)
      have hK6 : w6.heap[D]? = some (.deferred (some [])) := k6.other HK.out (by omega)
      have hgp := grownBy_putObj' w6 D (.deferred none)
      have hrow : (w6.putObj D (.deferred none)).heap[w.heap.size + 1 + 1]? = some (.cells #[.int .u32 (bitsR R 32 : Nat), .slice a5 m5 c5] 27 (0, 0)) := (hgp.block _ (Array.getElem?_eq_some_iff.1 h6).1 (fun e => by have := Option.some.inj e; omega)).trans h6
      have hl6 : LisAt w6 (.slice a5 m5 c5) (lisR (mapR R g)) := HLI.out.kept k6.by_ (fun Y e => by cases e; exact ⟨_, _, _, HR.out, by decide⟩)
      exact ⟨by simp [Act.put], .inl ⟨_, _, rfl, run_takeDeferred hK6, .agg #[.int .u32 (bitsR R 32 : Nat), .slice a5 m5 c5], results_cell_row rfl _ _ (w.heap.size + 1 + 1) 27 _ (0, 0) _ rfl hrow Tryd.underlying27 rfl row_info2, _, rfl,
        ⟨map_ok hok hg, _, by rw [map_bits], lis_kept hl6 hgp (fun r e => by cases e; exact ⟨_, hK6, rfl⟩)⟩, (HBV.out.trans (k6.below (by omega))).trans (belowK_b (w := w) (Nat.le_refl _) _ D _ _ (by omega) hK6 rfl rfl)⟩⟩
    case stop =>
      rintro D k pre V _ _ h _
      exact h.elim
end Go.Proofs.YtmdfpkklnaekmaaDoor
