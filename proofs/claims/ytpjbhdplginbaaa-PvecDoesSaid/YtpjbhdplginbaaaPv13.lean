/- Package pvec: All, List. -/
import Derived.Test.YtpjbhdplginbaaaPv12
import Derived.Test.YtpjbhdplginbaaaRoundIn
import Derived.Test.YtpjbhdplginbaaaOwns
namespace Go.Proofs.Ytpjbhdplginbaaa
open Go.RowKit Go.Shelf
set_option maxRecDepth 1000000
set_option linter.unusedSimpArgs false
attribute [local go_sem] Oper.semAt_some

/-- .. goes through the vector's places, all, or as far as one goes, whatever a round does that keeps what lay below n₀, and the box. -/
theorem pv_all_stops (n : Nat) (hn : 1 ≤ n) (Bs n₀ : Nat) (f : Nat → Int) (N t : Nat) (c : Array Value) (w : World) (hn₀ : n₀ ≤ w.heap.size) (hX : w.heap[Bs]? = some (.cells c 30 (0, 0)))
    (hv : VecG (fun g => g < n₀) w c f N t) :
    SeqStopsK Fence.wide n Try.prog 31 #[.pointer (some ⟨Bs, 0, none⟩)] encV (KB n₀ Bs) (fun ys => ys = placesV f N) (fun pre => ∃ k, k ≤ N ∧ pre = (placesV f N).take k) N w := fun l J Jx W hW hJ _ hY h0 =>
  pv_all1_in n hn l Bs n₀ f N t c J Jx (fun xs A B h hb => hJ xs A B none h ⟨hb.os, hb.tape, hb.output, hb.size, fun k hk _ => hb.block k hk⟩ (fun r e => by cases e)) hY W
    ((hW.block _ (Array.getElem?_eq_some_iff.1 hX).1).trans hX) (hv.low (hW.mono hn₀)) (Nat.le_trans hn₀ hW.size) h0
set_option maxHeartbeats 1000000 in
/-- All: the vector is boxed; the function value has the box. -/
theorem pv_All_in (n : Nat) (c : Array Value) (w : World) :
    CallsIn Fence.wide n Try.prog 16 #[.agg c] w fun e w' => e = .returned (.func (.func 31) #[] #[.pointer (some ⟨w.heap.size, 0, none⟩)]) ∧ w' = w.alloc (.cells c 30) := by
  refine callsIn_of_wp Try.func16 rfl trivial ?_ rfl
  simp only [Try.ntmps16, List.size_toArray, List.length_cons, List.length_nil, Nat.reduceAdd, Nat.reduceSub, Array.replicate_succ, Array.replicate_zero, List.push_toArray, List.append_toArray, List.nil_append, List.cons_append]
  gi_wp2
  go_ret
  exact ⟨rfl, rfl⟩
set_option maxHeartbeats 4000000 in
theorem pv_List (w : World) (c : Array Value) (f : Nat → Int) (n : Nat) (h : VecAt w c f n) : Calls Try.prog 17 #[.agg c] w fun e W' => ∃ v, e = .returned v ∧ Owns w.heap.size v (lsF f n) W' ∧ Below w.heap.size w W' := by
  have HV := Lib.hid h
  have HS := Lib.hid (VecG.size h)
  have HC0 : Hid (c[0]? = some (.int .i64 (n : Int))) := by
    obtain ⟨_, _, _, _, a, b, v, rfl, _⟩ := HV.out
    exact rfl
  have hn6 : n ≤ 1000000 := by obtain ⟨_, _, _, h4, _⟩ := h; exact h4
  clear h
  refine (callsIn_wide (n := 5)).1 ?_
  refine callsIn_of_wp_marks Try.func17 rfl trivial ?_ rfl
  refine wpIn_wide.2 ?_
  simp only [Try.ntmps17, List.size_toArray, List.length_cons, List.length_nil, Nat.reduceAdd, Nat.reduceSub, Array.replicate_succ, Array.replicate_zero, List.push_toArray, List.append_toArray, List.nil_append, List.cons_append]
  have HALL := Lib.hid (fun w => callsIn_wide.1 (pv_All_in 5 c w))
  obtain ⟨w1, hw1⟩ : ∃ w1, w1 = w.alloc (.cells c 30) := ⟨_, rfl⟩
  have HB1 : Hid (Below w.heap.size w w1) := by show Below _ _ _; rw [hw1]; exact Below.newly' _ _
  have HX1 : Hid (w1.heap[w.heap.size]? = some (.cells c 30 (0, 0))) := by show _ = _; rw [hw1]; exact heap_alloc_last _ _
  have HZ1 : Hid (w1.heap.size = w.heap.size + 1) := by show _ = _; rw [hw1]; simp
  have q1 : w1.cell? ⟨w.heap.size, 0, none⟩ = some (.int .i64 (n : Int)) := cell_in HX1.out HC0.out
  rw [hw1] at q1
  go_wp2_with (first
    | (refine owns_make (B := w.heap.size) rfl _ _ rfl .i64 .i64 _ n rfl rfl rfl (by omega) (by simp) ?_; rw [← hw1]; intro w4 hi4 hb4; have HI4 := Lib.hid hi4; have HB4 := Lib.hid hb4; have HX4 := Lib.hid ((hb4.block _ (Array.getElem?_eq_some_iff.1 HX1.out).1).trans HX1.out); clear hi4 hb4)
    | (refine ld_if rfl 30 _ rfl w.heap.size rfl 30 _ _ _ (((Below.newly' w4 _).block _ (Array.getElem?_eq_some_iff.1 HX4.out).1).trans HX4.out) Try.underlying30 rfl (by rw [HS.out]; exact vec_size) ?_)
    | (go_at_call 16; refine (HALL.out _).mono ?_; rintro e w' ⟨rfl, rfl⟩))
  have HSZ1 := HZ1.out
  rw [HSZ1] at HI4
  obtain ⟨L, hL⟩ : ∃ L, L = w4.heap.size := ⟨_, rfl⟩
  obtain ⟨W0, hW0⟩ : ∃ W0, W0 = (w4.alloc (.cells #[.slice (some ⟨w.heap.size + 1, 0, none⟩) 0 n] 26)).alloc (.cells c 30) := ⟨_, rfl⟩
  have hsz4 : w.heap.size + 1 ≤ w4.heap.size := by have := HB4.out.size; omega
  have hw4 : Below w.heap.size w w4 := HB1.out.trans (HB4.out.mono (by omega))
  have hb0 : Below w4.heap.size w4 W0 := by rw [hW0]; exact Below.more (Below.newly' _ _) _
  have hB0 : Below w.heap.size w W0 := hw4.trans (hb0.mono (by omega))
  have hL0 : Boxed W0 L 26 (.slice (some ⟨w.heap.size + 1, 0, none⟩) 0 n) := by
    show _ = _
    rw [hW0, hL]
    exact ((Below.newly' _ _).block _ (by simp)).trans (heap_alloc_last w4 _)
  have hA0 : W0.heap[L + 1]? = some (.cells c 30 (0, 0)) := by
    have h := heap_alloc_last (w4.alloc (.cells #[.slice (some ⟨w.heap.size + 1, 0, none⟩) 0 n] 26)) (.cells c 30)
    rw [World.size_alloc, ← hL] at h
    rw [hW0]
    exact h
  have hI0 : Owns w.heap.size (.slice (some ⟨w.heap.size + 1, 0, none⟩) 0 n) [] W0 := HI4.out.later hb0
  have hLs : w.heap.size + 1 ≤ L := by omega
  have hsz0 : W0.heap.size = L + 2 := by rw [hW0, hL]; simp
  have hv0 : VecG (fun g => g < w.heap.size) W0 c f n (n - othN n) := (VecG.old HV.out).weak (fun g hg => hg.2) |>.low hB0
  rw [← hW0, ← hL]
  clear HB1 HX1 HZ1 HX4 HB4 HI4 hw1 HSZ1 q1 hsz4 hw4 hb0 hW0 hL
  refine (wpIn_wide (n := 5)).1 ?_
  refine wpIn_rangeFunc_ownG (F := Fence.wide) rfl (by omega) (gf := 31) (lb := #[.pointer (some ⟨L + 1, 0, none⟩)]) rfl trivial (enters_of Try.func31 (by kernel_rfl) rfl)
    (pv_all_stops 4 (by omega) (L + 1) w.heap.size f n (n - othN n) c W0 (by omega) hA0 hv0) (fun h k => h.trans k) (kb_b (by omega) (by omega)) (Below.refl _ _) (fun _ => rfl)
    (fun pre V => ((∃ a5 m5 c5, Boxed V L 26 (.slice a5 m5 c5) ∧ Owns w.heap.size (.slice a5 m5 c5) (pre.map fun p => p.2) V ∧ (Value.slice a5 m5 c5).ownBlock ≠ some (L + 1)) ∧ V.heap[L + 1]? = some (.cells c 30 (0, 0))) ∧ Below w.heap.size w V)
    (fun _ _ _ => False)
    (OwnFrom.and (Own.from (fun s A B row hs hg' hr => by
      obtain ⟨⟨a5, m5, c5, h1, h2, h4⟩, h3⟩ := hs
      exact ⟨⟨a5, m5, c5, bx_kept h1 hg' hr, owns_kept h2 hg' hr, h4⟩, row_kept h3 hg' hr⟩) _) (ownFrom_below (Nat.le_refl _) (by omega)))
    (fun _ _ _ _ _ hs _ _ => hs)
    ⟨⟨⟨_, _, _, hL0, hI0, by simp [Value.ownBlock]; omega⟩, hA0⟩, hB0⟩
    (fun x => { tmps := #[.agg c, .pointer (some ⟨w.heap.size, 0, none⟩), .slice none 0 0, .pointer (some ⟨L, 0, none⟩), undef, .int .i64 x.2, .pointer (some ⟨w.heap.size, 0, none⟩), .int .i64 (n : Int), .slice (some ⟨w.heap.size + 1, 0, none⟩) 0 n, .agg c, (.func (.func 31) #[] #[.pointer (some ⟨L + 1, 0, none⟩)]), .int .i64 (x.1 : Int), .int .i64 x.2, undef, undef, undef, undef, undef], defers := [] }) ?assign ?body ?done ?stop
  case assign =>
    intro l x W K hK
    gi_wp2
    exact hK
  case body =>
    rintro l pre x V ⟨⟨⟨a5, m5, c5, hL, hI, hne⟩, hX⟩, hBV⟩ hpl
    have cL := hL.cell
    have HIV := Lib.hid hI
    have HLV := Lib.hid hL
    have HXV := Lib.hid hX
    have hlen5 : (pre.map fun p => p.2).length ≤ 1000000 := by rw [List.length_map]; omega
    have HBV := Lib.hid hBV
    have HNE := Lib.hid hne
    have HI2 := Lib.hid (hI.alloc (.cells #[.int .i64 x.2] 3))
    clear hI hL hX hne
    gi_wp2_with (first
      | (refine list_in rfl (fun c' hc => by cases hc) fun K hK => ?_
         refine owns_wp _ _ rfl (v := .slice a5 m5 c5) rfl HI2.out [x.2] ⟨V.heap.size, 0, none⟩ 1 rfl (new_ints V [x.2] _ rfl) (by have : ([x.2] : List Int).length = 1 := rfl; omega) ?_
         intro v6 w6 hi6 hg6
         obtain ⟨a6, m6, c6, rfl⟩ : ∃ a m c, v6 = .slice a m c := by obtain ⟨a, c, e⟩ := hi6.len; exact ⟨a, _, c, e⟩
         have hL6 : Boxed w6 L 26 (.slice a5 m5 c5) := by
           have hl : Boxed (V.alloc (.cells #[.int .i64 x.2] 3)) L 26 (.slice a5 m5 c5) := ((Below.newly' V _).block _ HLV.out.lt).trans HLV.out
           exact hl.kept hg6 (owns_not HI2.out hl (by decide))
         have hX6 : w6.heap[L + 1]? = some (.cells c 30 (0, 0)) := by
           have hl := ((Below.newly' V (.cells #[.int .i64 x.2] 3)).block _ (Array.getElem?_eq_some_iff.1 HXV.out).1).trans HXV.out
           exact (hg6.block _ (Array.getElem?_eq_some_iff.1 hl).1 (owns_not HI2.out hl (by decide))).trans hl
         have hk6 : KeepsOthers V w6 := (KeepsOthers.alloc V _).trans (KeepsOthers.of_grownBy hg6 (owns_cells HI2.out))
         have hb6 : Below w.heap.size V w6 := ((Below.newly' V _).mono HBV.out.size).grown hg6 (by have := HBV.out.size; simp; omega) (fun k e => owns_low HI2.out k e.symm)
         have cL6 := hL6.cell
         have fL6 := hL6.frozen
         have HI6 := Lib.hid hi6
         have HL6 := Lib.hid hL6
         have HX6 := Lib.hid hX6
         have HK6 := Lib.hid hk6
         have HB6 := Lib.hid hb6
         clear hi6 hL6 hX6 hg6 hk6 hb6
         refine hK _ _ ?_))
    have hgs := grownBy_setCell' w6 L (.slice a6 m6 c6)
    have hbs : Below w.heap.size V (w6.setCell ⟨L, 0, none⟩ (.slice a6 m6 c6)) := HB6.out.setCell (p := ⟨L, 0, none⟩) (by simp; omega) _
    have hXs := row_set HX6.out (by omega) (.slice a6 m6 c6) (B := L)
    refine ⟨(HK6.out.trans (KeepsOthers.setCell _ _ _)).from _, ⟨hbs, hXs.trans HXV.out.symm⟩, ⟨⟨_, _, _, HL6.out.set _, ?_, ?_⟩, hXs⟩, HBV.out.trans hbs⟩
    · rw [List.map_append]
      exact HI6.out.grown hgs (.inr fun e => owns_not HI6.out HL6.out (by decide) e.symm)
    · exact fun e => owns_not HI6.out HX6.out (by decide) e.symm
  case done =>
    rintro D ys V hD rfl ⟨⟨⟨a5, m5, c5, hL, hI, _⟩, hX⟩, hBV⟩ hK
    have cL := hL.cell
    rw [show (placesV f n).map (fun p => p.2) = lsF f n by simp [placesV, lsF]] at hI
    have HI := Lib.hid hI
    have HBV := Lib.hid hBV
    have HK := Lib.hid hK
    clear hL hI hX hBV hK
    go_wp2_with fail
    have hgp := grownBy_putObj' V D (.deferred none)
    exact ⟨by simp [Act.put], .inl ⟨_, _, rfl, run_takeDeferred HK.out, .slice a5 m5 c5, by simp [results, Try.f17, go_sem], _, rfl,
      owns_kept HI.out hgp (fun r e => by cases e; exact ⟨_, HK.out, rfl⟩), HBV.out.trans (belowK_b (w := w) (Nat.le_refl _) _ D _ _ (by omega) HK.out rfl rfl)⟩⟩
  case stop =>
    rintro D k pre V _ _ h _
    exact h.elim
end Go.Proofs.Ytpjbhdplginbaaa
