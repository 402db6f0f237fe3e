/- Layer 7's laws: what an operation does: push; all operations. (written by tools/gen07/does7c.py) -/
import Derived.Test.YtpjbhdplginbaaaLaw07DoB
namespace Go.Proofs.Ytpjbhdplginbaaa
open Go.RowKit
set_option maxRecDepth 1000000
set_option linter.unusedSimpArgs false

/-- 'append(own, list..)'. -/
theorem owns_join {o : Oper} {a : Act} {K : Act → World → Prop} {Q : Exit → Act → World → Prop} {w : World} {S : Nat → Prop} (s x : Operand)
    (ho : o.op = .call { callee := .builtin .append, args := #[s, x], argTypes := #[26, 26] })
    {B : Nat} {v vr : Value} {l r : List Int} (hs : a.eval s = v) (hx : a.eval x = vr) (hb : Owns B v l w) (hr : Lst S w vr r) (hlen : l.length + r.length ≤ 17592186044416)
    (h : ∀ v' w', Owns B v' (l ++ r) w' → w.grownBy w' v.ownBlock → Below B w w' → K (a.put o.dst v') w') : o.wp Try.prog a w K Q := by
  have hbl : ∀ w', w.grownBy w' v.ownBlock → Below B w w' := fun w' hg => (Below.refl _ w).grown hg hb.2 (fun k e => owns_low hb k e.symm)
  obtain ⟨ap, c, rfl, h2, h3⟩ := hr
  rcases h3 with ⟨rfl, rfl, rfl⟩ | ⟨g, cs, fr, rfl, hS, hg, hc⟩
  · obtain ⟨i, hi, hz, h1, h2⟩ := info_parts int_info
    have hrun := run_append_owned_none (P := Try.prog) (w := w) B 26 o.type 3 i 1 Try.underlying26 hi v l.length (iv l) hb.1
    unfold Oper.wp execOp
    simp only [ho, resolve, invoke, builtin, Sem.run_bind, Sem.run_pure, Result.andThen_ok, List.map_toArray, List.map_cons, List.map_nil, hs, hx, List.length_nil, hrun]
    exact h v w (by simpa using hb) ⟨rfl, rfl, rfl, Nat.le_refl _, fun _ _ _ => rfl⟩ (Below.refl _ _)
  · refine owns_wp s x ho hs hb r ⟨g, 0, none⟩ c hx (fun j u hu => ?_) hlen fun v' w' h1 h2 => h v' w' h1 h2 (hbl w' h2)
    have hj := (List.getElem?_eq_some_iff.1 hu).1
    rw [iv_len] at hj
    rw [iv_at _ _ hj] at hu
    rw [add_at, Nat.zero_add, ← hu]
    exact cell_in hg (hc j hj)
set_option maxHeartbeats 2000000 in
theorem does7_push (c : Array Value) (v : Value) (l : List Int) (x2 x3 x4 : Int) (w : World) (hv : VL w c l) (hl : Lst (fun _ => True) w v l) (hx4 : x4 ≤ 1500) (hlen : l.length ≤ 500000) : Done c v l (0, x2, x3, x4) w := by
    unfold Done
    obtain ⟨x1, hx1⟩ : ∃ x1 : Int, x1 = 0 := ⟨_, rfl⟩
    rw [show doL l (0, x2, x3, x4) = l ++ runL x3 x4.toNat by simp [doL]]
    rw [← hx1]
    have HV := Lib.hid (show VecG (fun _ => True) w c (fun i => l.getD i 0) l.length (l.length - othN l.length) from hv)
    have HL := Lib.hid hl
    have HLEN := Lib.hid hlen
    have HS := Lib.hid hv.size
    have t0 : ((x1 : Int) == 0) = true := by rw [hx1]; rfl
    have HRUN := Lib.hid (fun w => ref_Run x3 x4 (by omega) w)
    obtain ⟨r, hr⟩ : ∃ r, r = runL x3 x4.toNat := ⟨_, rfl⟩
    rw [← hr] at HRUN ⊢
    have HRL : Hid (r.length ≤ 1500) := by show _ ≤ _; rw [hr, runL_len]; omega
    obtain ⟨a, cp, rfl, _⟩ := hl.shape
    obtain ⟨w0, hw0⟩ : ∃ w0, ((w.alloc (.cells c 30)).alloc (.cells (op7C (x1, x2, x3, x4)) 34)).alloc (.cells #[.int .i64 0, .slice none 0 0, .slice none 0 0, .slice none 0 0] 30) = w0 := ⟨_, rfl⟩
    obtain ⟨hb0, hx0, ho0, hy0, hs0⟩ := three_new hw0
    have HX0 := Lib.hid hx0
    have HO0 := Lib.hid ho0
    have HY0 := Lib.hid hy0
    have HB0 := Lib.hid hb0
    have HSZ0 := Lib.hid hs0
    have q0 : w0.cell? ⟨w.heap.size + 1, 0, none⟩ = some (.int .i64 x1) := cell_in ho0 rfl
    have q1 : w0.cell? ⟨w.heap.size + 1, 1, none⟩ = some (.int .i64 x2) := cell_in ho0 rfl
    have q2 : w0.cell? ⟨w.heap.size + 1, 2, none⟩ = some (.int .i64 x3) := cell_in ho0 rfl
    have q3 : w0.cell? ⟨w.heap.size + 1, 3, none⟩ = some (.int .i64 x4) := cell_in ho0 rfl
    clear hb0 hx0 ho0 hy0 hs0
    clear hv hl hx1 hx4 hlen hr
    go_enter Try.func10, Try.ntmps10
    go_upto_region 1 with fail
    clear hw0
    go_upto_region 4 with (first
      | (go_at_call 15; with_reducible refine (HRUN.out _).mono ?_; rintro e w1 ⟨v1, rfl, hi1, hb⟩; have HX1 := Lib.hid (((hb).block _ (Array.getElem?_eq_some_iff.1 HX0.out).1).trans HX0.out); have HY1 := Lib.hid (((hb).block _ (Array.getElem?_eq_some_iff.1 HY0.out).1).trans HY0.out); have HB1 := Lib.hid (HB0.out.trans ((hb).mono HB0.out.size)); have HR1 := Lib.hid hi1.lst.old; have HCP := Lib.hid (ref_Copied v1 r w1 hi1.lst (by have := HRL.out; omega)); clear hb hi1))
    go_upto_region 5 with (first
      | (go_at_call 23; with_reducible refine HCP.out.mono ?_; rintro e w2 ⟨v2, rfl, hi2, hb⟩; have HX2 := Lib.hid (((hb).block _ (Array.getElem?_eq_some_iff.1 HX1.out).1).trans HX1.out); have HY2 := Lib.hid (((hb).block _ (Array.getElem?_eq_some_iff.1 HY1.out).1).trans HY1.out); have HB2 := Lib.hid (HB1.out.trans ((hb).mono HB1.out.size)); have HR2 := Lib.hid (HR1.out.later hb); have HO2 := Lib.hid hi2; have HV12 := Lib.hid (HB1.out.size); have HVP := Lib.hid (pv_PushS w2 (VecG.later (VecG.old (VecG.later HV.out HB1.out)) hb) v2 hi2.lst.spot (by have := HRL.out; have := HLEN.out; omega)); clear hb hi2))
    go_upto_region 6 with (first
      | (refine ld_if rfl 30 _ rfl w.heap.size rfl 30 _ _ _ HX2.out Try.underlying30 rfl (by rw [HS.out]; exact vec_size) ?_)
      | (go_at_call 19; with_reducible refine HVP.out.mono ?_; rintro e w3 ⟨c3, rfl, hv3, hb⟩; have HX3 := Lib.hid (((hb).block _ (Array.getElem?_eq_some_iff.1 HX2.out).1).trans HX2.out); have HY3 := Lib.hid (((hb).block _ (Array.getElem?_eq_some_iff.1 HY2.out).1).trans HY2.out); have HB3 := Lib.hid (HB2.out.trans ((hb).mono HB2.out.size)); have HR3 := Lib.hid (HR2.out.later hb); have HO3 := Lib.hid (HO2.out.later hb); have HV3 := Lib.hid hv3; have HW23 := Lib.hid hb.size; clear hb hv3)
      | (refine st_agg rfl 30 _ _ rfl w.heap.size c3 rfl rfl 30 c HX3.out (by rw [VecG.size HV3.out]; exact vec_size) (by rw [VecG.size HV3.out, HS.out]) (VecG.one HV3.out) ?_; intro w4 h4 k4; have HX4 := Lib.hid h4; have HY4 := Lib.hid (k4.other HY3.out (by omega)); have HB4 := Lib.hid (HB3.out.trans (k4.below (Nat.le_refl _))); have HV4 := Lib.hid (VecG.but HV3.out k4 HX3.out (by decide) (by decide)); have HR4 := Lib.hid (HR3.out.but k4 HX3.out (by decide)); have HO4 := Lib.hid (HO3.out.grown k4.by_ (.inr (fun e => owns_not HO3.out HX3.out (by decide) e.symm))); clear h4 k4))
    obtain ⟨ao, co, rfl, _⟩ := HO4.out.lst.shape
    have HGW : Hid (∀ g, (Value.slice ao r.length co).ownBlock = some g → w1.heap.size ≤ g ∧ g < w2.heap.size) := fun g hg => ⟨owns_low HO2.out g hg.symm, by
      obtain ⟨⟨_, h2⟩, _⟩ := HO2.out
      rcases h2 with ⟨e, _⟩ | ⟨g', cap, cur, e, hB, hgg, _⟩
      · rw [e] at hg; cases hg
      · rw [e] at hg
        obtain rfl : g' = g := by simpa [Value.ownBlock] using hg
        exact (Array.getElem?_eq_some_iff.1 hgg).1⟩
    have HXW : Hid (w.heap.size + 1 + 1 < w1.heap.size) := (Array.getElem?_eq_some_iff.1 HY1.out).1
    clear HX3 HY3 HB3 HV3 HR3 HO3 HX2 HY2 HR2 HO2 HVP HX1 HY1 HR1 HCP HX0 HO0 HY0 q0 q1 q2 q3 HSZ0
    go_wp2_with fail
    go_loopw [35] (fun iv wl => ∃ (k : Nat) (ls : List Int), iv = .int .i64 (k : Int) ∧ ls.length = r.length ∧ Owns w1.heap.size (.slice ao r.length co) ls wl ∧ wl.heap[w.heap.size]? = some (.cells c3 30 (0, 0)) ∧ wl.heap[w.heap.size + 1 + 1]? = some (.cells #[.int .i64 0, .slice none 0 0, .slice none 0 0, .slice none 0 0] 30 (0, 0)) ∧
      VecG (fun g => (True ∧ g < w1.heap.size) ∨ w2.heap.size ≤ g) wl c3 (appF (fun i => l.getD i 0) l.length fun i => r.getD i 0) (l.length + r.length) (l.length + r.length - othN (l.length + r.length)) ∧
      Lst (fun g => w0.heap.size ≤ g ∧ g < w1.heap.size) wl v1 r ∧ Below w.heap.size w wl) (fun iv _ => r.length - (intOf iv).toNat)
    case atStart => exact ⟨0, r, rfl, rfl, HO4.out, HX4.out, HY4.out, HV4.out, HR4.out, HB4.out⟩
    case round =>
      clear HX4 HY4 HV4 HR4 HO4 HB4
      obtain ⟨k, ls, rfl, hls, ho, hx, hy, hv, hr, hb⟩ := hrel
      have HX5 := Lib.hid hx
      have HY5 := Lib.hid hy
      have HV5 := Lib.hid hv
      have HR5 := Lib.hid hr
      have HB5 := Lib.hid hb
      have HO5 := Lib.hid ho
      have HLS := Lib.hid hls
      clear hx hy hv hr hb
      by_cases hlt : (k : Int) < (r.length : Int)
      · obtain ⟨g, c5, cs5, ev, hcap, hlow, hg, hsz, hcs⟩ := ho.pos (by omega)
        rw [hls] at ev
        simp only [Value.slice.injEq, true_and] at ev
        obtain ⟨rfl, rfl⟩ := ev
        have hgw := HGW.out g (by simp [Value.ownBlock])
        have hcell : wr.cell? ⟨g, k, none⟩ = some (.int .i64 (ls.getD k 0)) := cell_in hg (hcs k (by omega))
        obtain ⟨z, hz⟩ : ∃ z, z = ls.getD k 0 := ⟨_, rfl⟩
        rw [← hz] at hcell
        have HG := Lib.hid hg
        have HSZ := Lib.hid (show k < cs5.size by omega)
        have HGG := Lib.hid hgw
        have hk0 : 0 ≤ (k : Int) := by omega
        have hr15 : (r.length : Int) ≤ 1500 := by have := HRL.out; omega
        have HKL := Lib.hid (show k < ls.length by omega)
        clear hg hcs hsz hcap hlow hz ho hls hgw
        go_wp2_with (refine st_cell rfl 3 _ _ rfl g k _ rfl rfl rfl 3 cs5 HG.out int_size HSZ.out ?_; intro w6 h6 k6)
        go_roundw
        case rel =>
          have hgg := HGG.out
          have hxw := HXW.out
          refine ⟨k + 1, ls.set k (wrap64 (z + 1)), by simp, by rw [List.length_set]; exact HLS.out, HO5.out.put (c := co) (by rw [HLS.out]) HG.out h6 k6, k6.other HX5.out (by omega), k6.other HY5.out (by omega), HV5.out.kept k6.by_ (fun X e => by cases e; omega), HR5.out.kept k6.by_ (fun X e => by cases e; omega), HB5.out.trans (k6.below (by omega))⟩
        case measure => simp [intOf]; omega
      · clear ho hls
        go_upto_region 11 with fail
        have HX6 : Hid (wr.drew.heap[w.heap.size]? = some (.cells c3 30 (0, 0))) := HX5.out
        have HY6 : Hid (wr.drew.heap[w.heap.size + 1 + 1]? = some (.cells #[.int .i64 0, .slice none 0 0, .slice none 0 0, .slice none 0 0] 30 (0, 0))) := HY5.out
        have HB6 := Lib.hid (HB5.out.trans ((drawn_below wr).mono HB5.out.size))
        have HV6 := Lib.hid (VecG.later HV5.out (drawn_below wr))
        have HR6 := Lib.hid (HR5.out.later (drawn_below wr))
        have HCP := Lib.hid (ref_Copied (.slice a l.length cp) l wr.drew (HL.out.later HB6.out) (by have := HLEN.out; omega))
        have HS3 := Lib.hid (VecG.size HV5.out)
        have HONE3 := Lib.hid (VecG.one HV5.out)
        refine wp_region_T (S := fun V => V.heap[w.heap.size]? = some (.cells c3 30 (0, 0))) [] (by kernel_rfl) (by first | exact HX6.out | exact HX7.out | exact HX8.out | exact HX9.out) (fun hHeld => ?_)
        refine wpAnyT_take (i := 0) (oi := ⟨some 45, _, _, _, _, _⟩) (v := _) rfl (by kernel_rfl) (by kernel_rfl) (by kernel_rfl) (by kernel_rfl) (fun _ _ _ h => h) (yieldsIf_load_row (by rfl) 30 _ rfl w.heap.size rfl c3 30 (0, 0) _ (fun w hw => hw) Try.underlying30 rfl (by rw [HS3.out]; exact vec_size)) (by assumption) ?_
        (try simp only [Act.put, List.setIfInBounds_toArray, List.set_cons_zero, List.set_cons_succ])
        refine wpAnyT_take (i := 1) (oi := ⟨some 46, _, _, _, _, _⟩) (v := ?vg3_1) rfl (by kernel_rfl) (by kernel_rfl) (by kernel_rfl) (by kernel_rfl) (fun _ _ _ h => h) (Or.inl ⟨by rfl, ?hg3_1⟩) (by assumption) ?rg3_1
        case hg3_1 => (intro w hSw; (try dsimp only at hSw); first | (go_simp; done) | (go_simp; with_reducible rfl))
        (try simp only [Act.put, List.setIfInBounds_toArray, List.set_cons_zero, List.set_cons_succ])
        refine wpAnyT_take (i := 3) (oi := ⟨some 48, _, _, _, _, _⟩) (v := ?vg3_3) rfl (by kernel_rfl) (by kernel_rfl) (by kernel_rfl) (by kernel_rfl) (fun _ _ _ h => h) (Or.inl ⟨by rfl, ?hg3_3⟩) (by assumption) ?rg3_3
        case hg3_3 => (intro w hSw; (try dsimp only at hSw); first | (go_simp; done) | (go_simp; with_reducible rfl))
        (try simp only [Act.put, List.setIfInBounds_toArray, List.set_cons_zero, List.set_cons_succ])
        refine wpAnyT_one (i := 2) (o := ⟨some 47, _, _, _, _, _⟩) (by kernel_rfl) rfl (fun K hK => ?_)
        go_simp
        go_at_call 23
        with_reducible refine HCP.out.mono ?_
        rintro e w7 ⟨v7, rfl, hi7, hb⟩
        have HX7 := Lib.hid (((hb).block _ (Array.getElem?_eq_some_iff.1 HX6.out).1).trans HX6.out); have HY7 := Lib.hid (((hb).block _ (Array.getElem?_eq_some_iff.1 HY6.out).1).trans HY6.out); have HB7 := Lib.hid (HB6.out.trans ((hb).mono HB6.out.size))
        have HV78 := Lib.hid (VecG.later (VecG.old HV6.out) hb)
        have HR7 := Lib.hid (HR6.out.later hb)
        have HO7 := Lib.hid hi7
        clear hb hi7
        dsimp only
        refine hK.out _ _ (by first | exact HX6.out | exact HX7.out | exact HX8.out | exact HX9.out) (fun hHeld => ?_)
        clear hK K
        (try simp only [Act.put, List.setIfInBounds_toArray, List.set_cons_zero, List.set_cons_succ])
        refine wpAnyT_one (i := 4) (o := ⟨some 49, _, _, _, _, _⟩) (by kernel_rfl) rfl (fun K hK => ?_)
        rw [if_pos (by rfl)]
        refine owns_join (.tmp 47) (.tmp 48) rfl rfl rfl HO7.out HR7.out (by have := HLEN.out; have := HRL.out; omega) ?_
        intro v8 w8 hi8 hg8 hb8
        have HX8 := Lib.hid ((hg8.block _ (Array.getElem?_eq_some_iff.1 HX7.out).1 (owns_not HO7.out HX7.out (by decide))).trans HX7.out)
        have HY8 := Lib.hid ((hg8.block _ (Array.getElem?_eq_some_iff.1 HY7.out).1 (owns_not HO7.out HY7.out (by decide))).trans HY7.out)
        have HB8 := Lib.hid (HB7.out.trans (hb8.mono HB6.out.size))
        have HO8 := Lib.hid hi8
        clear hi8
        refine hK.out _ _ (by first | exact HX6.out | exact HX7.out | exact HX8.out | exact HX9.out) (fun hHeld => ?_)
        clear hK K
        (try simp only [Act.put, List.setIfInBounds_toArray, List.set_cons_zero, List.set_cons_succ])
        refine wpAnyT_one (i := 5) (o := ⟨none, _, _, _, _, _⟩) (by kernel_rfl) rfl (fun K hK => ?_)
        refine st_agg_wp 30 _ _ rfl (w.heap.size + 1 + 1) c3 rfl rfl 30 #[.int .i64 0, .slice none 0 0, .slice none 0 0, .slice none 0 0] HY8.out (by rw [HS3.out]; exact vec_size) (by rw [HS3.out]; rfl) HONE3.out ?_
        intro w9 h9 k9
        have HX9 := Lib.hid (k9.other HX8.out (by omega))
        refine hK.out _ _ (by first | exact HX6.out | exact HX7.out | exact HX8.out | exact HX9.out) (fun hHeld => ?_)
        clear hK K
        (try simp only [Act.put, List.setIfInBounds_toArray, List.set_cons_zero, List.set_cons_succ])
        refine wpAnyT_one (i := 6) (o := ⟨some 7, _, _, _, _, _⟩) (by kernel_rfl) rfl (fun K hK => ?_)
        go_simp
        refine hK.out _ _ (by first | exact HX6.out | exact HX7.out | exact HX8.out | exact HX9.out) (fun hHeld => ?_)
        clear hK K
        (try simp only [Act.put, List.setIfInBounds_toArray, List.set_cons_zero, List.set_cons_succ])
        refine wpAnyT_one (i := 7) (o := ⟨some 8, _, _, _, _, _⟩) (by kernel_rfl) rfl (fun K hK => ?_)
        go_simp
        refine hK.out _ _ (by first | exact HX6.out | exact HX7.out | exact HX8.out | exact HX9.out) (fun hHeld => ?_)
        clear hK K
        (try simp only [Act.put, List.setIfInBounds_toArray, List.set_cons_zero, List.set_cons_succ])
        refine wpAnyT_done (by kernel_rfl) ?_ _
        go_wp2_with fail
        refine bodyPost_ret (results_cell_row2 rfl _ _ (w.heap.size + 1 + 1) 30 _ (0, 0) _ rfl h9 Try.underlying30 rfl (by rw [HS3.out]; exact vec_size)) rfl ⟨_, _, rfl, ?_, ?_, HB8.out.trans (k9.below (by omega))⟩
        · have h := VL.of (show VecAt w9 c3 _ _ from (VecG.but (HV78.out.kept hg8 (fun X e => by have := owns_low HO7.out X e.symm; omega)) k9 HY8.out (by decide) (by decide)).weak fun _ _ => trivial)
          rwa [lsF_app] at h
        · exact (HO8.out.lst.weak (S' := fun _ => True) fun _ _ => trivial).but k9 HY8.out (by decide)
theorem does7 (c : Array Value) (v : Value) (l : List Int) (o : Op7) (w : World) (hv : VL w c l) (hl : Lst (fun _ => True) w v l) (h4 : o.2.2.2 ≤ 1500) (hlen : l.length ≤ 500000) : Done c v l o w := by
  obtain ⟨x1, x2, x3, x4⟩ := o
  by_cases h0 : x1 = 0
  · subst h0; exact does7_push c v l x2 x3 x4 w hv hl h4 hlen
  · by_cases h1 : x1 = 1
    · subst h1; exact does7_set c v l x2 x3 x4 w hv hl
    · by_cases h2 : x1 = 2
      · subst h2; exact does7_pop c v l x2 x3 x4 w hv hl h4
      · by_cases h3 : x1 = 3
        · subst h3; exact does7_keep c v l x2 x3 x4 w hv hl
        · exact does7_none c v l x1 x2 x3 x4 w hv hl h0 h1 h2 h3
end Go.Proofs.Ytpjbhdplginbaaa
