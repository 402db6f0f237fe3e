/- Package rope: List. -/
import Derived.Test.YtldemoflgahdgaaRp13
import Derived.Test.YtldemoflgahdgaaOwns
namespace Go.Proofs.Ytldemoflgahdgaa
open Go.RowKit Go.Shelf
set_option maxRecDepth 1000000
set_option linter.unusedSimpArgs false
attribute [local go_sem] Oper.semAt_some

theorem rope_size : (Try.prog.info? 35).map (·.size) = some 4 := by kernel_rfl
theorem owns_nodes {w : World} {n : Nat} {v : Value} {l : List Int} (h : Owns n v l w) {k : Nat} {cs : Array Value} {fr : Nat × Nat} (hk : w.heap[k]? = some (.cells cs 33 fr)) : some k ≠ v.ownBlock := owns_not h hk (by decide)
/-- 'append(own, list..)' where there is room: the list stays where it is. -/
theorem owns_fits {o : Oper} {a : Act} {K : Act → World → Prop} {Q : Exit → Act → World → Prop} {w : World} (s x : Operand)
    (ho : o.op = .call { callee := .builtin .append, args := #[s, x], argTypes := #[31, 31] })
    {B g n cap : Nat} {l : List Int} (hs : a.eval s = .slice (some ⟨g, 0, none⟩) n cap) (hb : Owns B (.slice (some ⟨g, 0, none⟩) n cap) l w) (hn : n = l.length) (r : List Int) (ad : Addr) (c : Nat) (hx : a.eval x = .slice (some ad) r.length c)
    (hc : ∀ j u, (iv r)[j]? = some u → w.cell? (ad.add j) = some u) (hroom : n + r.length ≤ cap)
    (h : ∀ w', Owns B (.slice (some ⟨g, 0, none⟩) (n + r.length) cap) (l ++ r) w' → w.grownBy w' (some g) → K (a.put o.dst (.slice (some ⟨g, 0, none⟩) (n + r.length) cap)) w') : o.wp Try.prog a w K Q := by
  subst hn
  obtain ⟨i, hi, hz, h1, h2⟩ := info_parts int_info
  obtain ⟨w', r1, r2, r3⟩ := run_append_fits (P := Try.prog) w B 31 o.type 3 i 1 Try.underlying31 hi h1 g l.length cap (iv l) hb.1 ad r.length c (iv r) (by rw [iv_len]; omega) hc iv_one hroom
  unfold Oper.wp execOp
  simp only [ho, resolve, invoke, builtin, Sem.run_bind, Sem.run_pure, Result.andThen_ok, List.map_toArray, List.map_cons, List.map_nil, hs, hx, r1]
  exact h w' ⟨by rw [List.length_append, iv_app]; exact r2, Nat.le_trans hb.2 r3.size⟩ r3
set_option maxHeartbeats 1000000 in
theorem rp_Len {S : Nat → Prop} {c : Array Value} {l : List Int} (w : World) (h : RootR S w c l) : Calls Try.prog 21 #[.agg c] w fun e w' => e = .returned (.int .i64 (l.length : Int)) ∧ w' = w.alloc (.cells c 35) := by
  obtain ⟨d, q1, n1, c1, q2, n2, c2, rfl, _⟩ := h.cells
  clear h
  go_enter Try.func21, Try.ntmps21
  go_wp2
  go_ret
  exact ⟨rfl, rfl⟩
set_option maxHeartbeats 4000000 in
theorem rp_List {S : Nat → Prop} (w : World) (c : Array Value) (lst : List Int) (h : RootR S w c lst) (hN : lst.length ≤ 100000) : Calls Try.prog 19 #[.agg c] w fun e W' => ∃ v, e = .returned v ∧ Owns w.heap.size v lst W' ∧ Below w.heap.size w W' := by
  have HV := Lib.hid h
  have HS := Lib.hid h.size
  have HC0 := Lib.hid h.n
  obtain ⟨n, hn⟩ : ∃ n, n = lst.length := ⟨_, rfl⟩
  have HNL := Lib.hid hn
  have hn6 : n ≤ 100000 := by omega
  have HLEN := Lib.hid (fun V (hV : Below w.heap.size w V) => rp_Len V (h.later hV))
  rw [← hn] at HC0 HLEN
  clear h hN hn
  refine (callsIn_wide (n := 5)).1 ?_
  refine callsIn_of_wp_marks Try.func19 rfl trivial ?_ rfl
  refine wpIn_wide.2 ?_
  simp only [Try.ntmps19, List.size_toArray, List.length_cons, List.length_nil, Nat.reduceAdd, Nat.reduceSub, Array.replicate_succ, Array.replicate_zero, List.push_toArray, List.append_toArray, List.nil_append, List.cons_append]
  have HALL := Lib.hid (fun w => callsIn_wide.1 (rp_All_in 5 c w))
  obtain ⟨w1, hw1⟩ : ∃ w1, w1 = w.alloc (.cells c 35) := ⟨_, rfl⟩
  have HB1 : Hid (Below w.heap.size w w1) := by show Below _ _ _; rw [hw1]; exact Below.newly' _ _
  have HX1 : Hid (w1.heap[w.heap.size]? = some (.cells c 35 (0, 0))) := by show _ = _; rw [hw1]; exact heap_alloc_last _ _
  have HZ1 : Hid (w1.heap.size = w.heap.size + 1) := by show _ = _; rw [hw1]; simp
  go_upto_region 1 with fail
  rw [← hw1]
  clear hw1
  go_upto_region 2 with (first
    | (refine ld_if rfl 35 _ rfl w.heap.size rfl 35 _ _ _ HX1.out Try.underlying35 rfl (by rw [HS.out]; exact rope_size) ?_)
    | (go_at_call 21; refine (HLEN.out w1 HB1.out).mono ?_; rintro e w2 ⟨rfl, hw2⟩; have HB2 : Hid (Below w.heap.size w w2) := (by show Below _ _ _; rw [hw2]; exact HB1.out.trans ((Below.newly' _ _).mono HB1.out.size)); have HX2 : Hid (w2.heap[w.heap.size]? = some (.cells c 35 (0, 0))) := (by show _ = _; rw [hw2]; exact ((Below.newly' w1 _).block _ (Array.getElem?_eq_some_iff.1 HX1.out).1).trans HX1.out); have HZ2 : Hid (w2.heap.size = w.heap.size + 2) := (by show _ = _; rw [hw2]; simp; exact HZ1.out); clear hw2)
    | (refine owns_make (B := w.heap.size) rfl _ _ rfl .i64 .i64 _ n rfl rfl rfl (by omega) (by have := HZ2.out; omega) ?_; intro w4 hi4 hb4; have HI4 := Lib.hid hi4; have HB4 := Lib.hid hb4; have HX4 := Lib.hid ((hb4.block _ (Array.getElem?_eq_some_iff.1 HX2.out).1).trans HX2.out); clear hi4 hb4))
  have HX5 := Lib.hid (((Below.newly' w4 (.cells #[.slice (some ⟨w2.heap.size, 0, none⟩) 0 n] 31)).block _ (Array.getElem?_eq_some_iff.1 HX4.out).1).trans HX4.out)
  go_wp2_with (first
    | (refine ld_if rfl 35 _ rfl w.heap.size rfl 35 _ _ _ HX5.out Try.underlying35 rfl (by rw [HS.out]; exact rope_size) ?_)
    | (go_at_call 18; refine (HALL.out _).mono ?_; rintro e w' ⟨rfl, rfl⟩))
  obtain ⟨L, hL⟩ : ∃ L, L = w4.heap.size := ⟨_, rfl⟩
  obtain ⟨G, hG⟩ : ∃ G, G = w2.heap.size := ⟨_, rfl⟩
  obtain ⟨W0, hW0⟩ : ∃ W0, W0 = (w4.alloc (.cells #[.slice (some ⟨w2.heap.size, 0, none⟩) 0 n] 31)).alloc (.cells c 35) := ⟨_, rfl⟩
  have hz2 := HZ2.out
  have hb4 := HB4.out
  have hg4 : G < w4.heap.size := by
    obtain ⟨⟨_, h2⟩, _⟩ := HI4.out
    rcases h2 with ⟨e, _⟩ | ⟨g, cap, cur, e, hB, hg, _⟩
    · cases e
    · simp only [Value.slice.injEq, Option.some.injEq, Addr.mk.injEq] at e
      have := (Array.getElem?_eq_some_iff.1 hg).1
      rw [hG, e.1.1]
      exact this
  have hw4 : Below w.heap.size w w4 := HB2.out.trans (hb4.mono (by omega))
  have hb0 : Below w4.heap.size w4 W0 := by rw [hW0]; exact Below.more (Below.newly' _ _) _
  have hB0 : Below w.heap.size w W0 := hw4.trans (hb0.mono (by omega))
  have hL0 : Boxed W0 L 31 (.slice (some ⟨G, 0, none⟩) 0 n) := by
    show _ = _
    rw [hW0, hL, hG]
    exact ((Below.newly' _ _).block _ (by simp)).trans (heap_alloc_last w4 _)
  have hA0 : W0.heap[L + 1]? = some (.cells c 35 (0, 0)) := by
    have h := heap_alloc_last (w4.alloc (.cells #[.slice (some ⟨w2.heap.size, 0, none⟩) 0 n] 31)) (.cells c 35)
    rw [World.size_alloc, ← hL] at h
    rw [hW0]
    exact h
  have hI0 : Owns w.heap.size (.slice (some ⟨G, 0, none⟩) 0 n) [] W0 := by rw [hG]; exact HI4.out.later hb0
  have hsz0 : W0.heap.size = L + 2 := by rw [hW0, hL]; simp
  have hv0 : RootR (fun g => g < w.heap.size) W0 c lst := (HV.out.old.weak (fun g hg => hg.2)).low hB0
  have hGL : G < L := by omega
  have hwG : w.heap.size < G := by omega
  rw [← hW0, ← hL, ← hG]
  clear HB1 HX1 HZ1 HB2 HX2 HZ2 HX4 HX5 HB4 HI4 hz2 hb4 hg4 hw4 hb0 hW0 hL hG
  refine (wpIn_wide (n := 5)).1 ?_
  refine wpIn_range_state (n₀ := w.heap.size) (by omega) (gf := 32) (lb := #[.pointer (some ⟨L + 1, 0, none⟩)]) rfl (enters_of Try.func32 (by kernel_rfl) rfl)
    (rp_all1 (L + 1) w.heap.size c lst W0 (by omega) hA0 hv0 (by rw [← HNL.out]; exact hn6)) (fun _ => rfl)
    (fun (pre : List (Nat × Int)) V => (Boxed V L 31 (.slice (some ⟨G, 0, none⟩) pre.length n) ∧ Owns w.heap.size (.slice (some ⟨G, 0, none⟩) pre.length n) (pre.map fun p => p.2) V) ∧ Below w.heap.size w V)
    (fun _ _ _ => False)
    (OwnFrom.and (Own.from (fun s A B row hs hg' hr => ⟨bx_kept hs.1 hg' hr, owns_kept hs.2 hg' hr⟩) _) (ownFrom_below (Nat.le_refl _) (by omega)))
    (fun _ _ _ _ _ hs _ _ => hs)
    (fun s A v ⟨⟨h1, h2⟩, h3⟩ _ => ⟨⟨h1.other (by omega) _, h2.grown (grownBy_setCell' A (W0.heap.size + 3) v) (.inr (by simp [Value.ownBlock]; omega))⟩, h3.setCell (p := ⟨W0.heap.size + 3, 0, none⟩) (by show w.heap.size ≤ W0.heap.size + 3; omega) _⟩)
    ⟨⟨hL0, hI0⟩, hB0⟩
    (fun x => { tmps := #[.agg c, .pointer (some ⟨w.heap.size, 0, none⟩), .slice none 0 0, .pointer (some ⟨L, 0, none⟩), undef, .int .i64 x.2, .agg c, .int .i64 (n : Int), .slice (some ⟨G, 0, none⟩) 0 n, .agg c, (.func (.func 32) #[] #[.pointer (some ⟨L + 1, 0, none⟩)]), .int .i64 (x.1 : Int), .int .i64 x.2, undef, undef, undef, undef, undef], defers := [] }) ?assign ?body ?done ?stop
  case assign =>
    intro l x W K hK
    gi_wp2
    exact hK
  case body =>
    rintro l pre x V hVs ⟨⟨hL, hI⟩, hBV⟩ hpl
    have cL := hL.cell
    have HLV := Lib.hid hL
    have HBV := Lib.hid hBV
    have HI2 := Lib.hid (hI.alloc (.cells #[.int .i64 x.2] 3))
    have HRM : Hid (pre.length + 1 ≤ n) := by show _ ≤ _; rw [HNL.out]; omega
    have HVS := Lib.hid hVs
    clear hI hL hVs
    gi_wp2_with (first
      | (refine list_in rfl (fun c' hc => by cases hc) fun K hK => ?_
         refine owns_fits _ _ rfl rfl HI2.out (by rw [List.length_map]) [x.2] ⟨V.heap.size, 0, none⟩ 1 rfl (new_ints V [x.2] _ rfl) HRM.out ?_
         intro w6 hi6 hg6
         have hL6 : Boxed w6 L 31 (.slice (some ⟨G, 0, none⟩) pre.length n) := by
           have hl : Boxed (V.alloc (.cells #[.int .i64 x.2] 3)) L 31 (.slice (some ⟨G, 0, none⟩) pre.length n) := ((Below.newly' V _).block _ HLV.out.lt).trans HLV.out
           exact hl.kept hg6 (by simp; omega)
         have cL6 := hL6.cell
         have fL6 := hL6.frozen
         have HI6 := Lib.hid hi6
         have HL6 := Lib.hid hL6
         have HG6 := Lib.hid hg6
         clear hi6 hL6 hg6
         refine hK _ _ ?_))
    have hvs := HVS.out
    have hgs := grownBy_setCell' w6 L (.slice (some ⟨G, 0, none⟩) (pre.length + 1) n)
    have hsa := Below.newly' V (.cells #[.int .i64 x.2] 3)
    have hb6 : Below w.heap.size V w6 := (hsa.mono HBV.out.size).grown HG6.out (by have := HBV.out.size; simp; omega) (fun k e => by cases e; omega)
    have hbs : Below w.heap.size V (w6.setCell ⟨L, 0, none⟩ (.slice (some ⟨G, 0, none⟩) (pre.length + 1) n)) := hb6.setCell (p := ⟨L, 0, none⟩) (by show w.heap.size ≤ L; omega) _
    have hkeep : ∀ k, k < V.heap.size → k ≠ G → k ≠ L → (w6.setCell ⟨L, 0, none⟩ (.slice (some ⟨G, 0, none⟩) (pre.length + 1) n)).heap[k]? = V.heap[k]? := fun k hk h1 h2 =>
      (heap_setCell_other _ _ _ _ h2).trans ((HG6.out.block k (by simp; omega) (by simpa using h1)).trans (hsa.block k hk))
    have hGc : ∃ cur, V.heap[G]? = some (.cells cur 3 (0, 0)) := by
      obtain ⟨⟨_, h2⟩, _⟩ := HI2.out
      rcases h2 with ⟨e, _⟩ | ⟨g, cap, cur, e, hB, hg, _⟩
      · cases e
      · simp only [Value.slice.injEq, Option.some.injEq, Addr.mk.injEq] at e
        rw [← e.1.1] at hg
        exact ⟨cur, (hsa.block G (by omega)).symm.trans hg⟩
    refine ⟨⟨hbs.size, fun k o hk ho hc => ?_⟩, ⟨hbs, hkeep _ (by omega) (by omega) (by omega), hkeep _ (by omega) (by omega) (by omega), fun k cs fr hk => ?_⟩, ⟨?_, ?_⟩, HBV.out.trans hbs⟩
    · rw [hkeep k (Array.getElem?_eq_some_iff.1 ho).1 (by omega) (by omega)]
      exact ho
    · refine (hkeep k (Array.getElem?_eq_some_iff.1 hk).1 (fun e => ?_) (fun e => ?_)).trans hk
      · obtain ⟨cur, hcur⟩ := hGc
        rw [e, hcur] at hk
        simp only [Option.some.injEq, Obj.cells.injEq] at hk
        exact absurd hk.2.1 (by decide)
      · rw [e, show V.heap[L]? = _ from HLV.out] at hk
        simp only [Option.some.injEq, Obj.cells.injEq] at hk
        exact absurd hk.2.1 (by decide)
    · rw [List.length_append, List.length_singleton]
      exact HL6.out.set _
    · rw [List.map_append, List.length_append, List.length_singleton]
      exact HI6.out.grown hgs (.inr (by simp [Value.ownBlock]; omega))
  case done =>
    rintro ys V rfl ⟨⟨hL, hI⟩, hBV⟩ hK
    have cL := hL.cell
    rw [placesL_snd] at hI
    have HI := Lib.hid hI
    have HBV := Lib.hid hBV
    have HK := Lib.hid hK
    clear hL hI hBV hK
    go_wp2_with fail
    have hgp := grownBy_putObj' V W0.heap.size (.deferred none)
    exact ⟨by simp [Act.put], .inl ⟨_, _, rfl, run_takeDeferred HK.out, .slice (some ⟨G, 0, none⟩) (placesL lst).length n, by simp [results, Try.f19, go_sem], _, rfl,
      owns_kept HI.out hgp (fun r e => by cases e; exact ⟨_, HK.out, rfl⟩), HBV.out.trans (belowK_b (w := w) (Nat.le_refl _) _ W0.heap.size _ _ (by omega) HK.out rfl rfl)⟩⟩
  case stop =>
    rintro c pre V _ h _
    exact h.elim
end Go.Proofs.Ytldemoflgahdgaa
