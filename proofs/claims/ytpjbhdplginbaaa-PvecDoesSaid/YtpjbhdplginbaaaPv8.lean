/- Package pvec: stowed. (written by tools/gen07/pv8.py) -/
import Derived.Test.YtpjbhdplginbaaaPv7
import Derived.Deep.CutRange
namespace Go.Proofs.Ytpjbhdplginbaaa
open Go.RowKit
set_option maxRecDepth 1000000
set_option linter.unusedSimpArgs false

theorem lev_next {M : Nat} (h : M % 32 = 0) (h0 : 0 < M) (hM : M + 32 ≤ 1000000) : levN (M + 32) = levN M ∨ levN (M + 32) = levN M + 1 := by
  unfold levN
  repeat' split
  all_goals omega
theorem node_but {S : Nat → Prop} {w w' : World} {X h n : Nat} {a b : Value} {f : Nat → Int} {cs : Array Value} {T : TypeId} {fr : Nat × Nat} (hn : NodeAt S w h a b f n) (k : Only X w w') (hX : w.heap[X]? = some (.cells cs T fr)) (h1 : T ≠ 3) (h2 : T ≠ 28) : NodeAt S w' h a b f n :=
  hn.keptT k.by_ fun Y e => by
    cases e
    exact ⟨_, hX, fun cs fr => ⟨fun e => (by simp only [Obj.cells.injEq] at e; exact h1 e.2.1), fun e => (by simp only [Obj.cells.injEq] at e; exact h2 e.2.1)⟩⟩
set_option maxHeartbeats 4000000 in
theorem pv_stowed {S : Nat → Prop} {c : Array Value} {f : Nat → Int} {n : Nat} (W : World) (h0 : VecG S W c f n 32) : Calls Try.prog 32 #[.agg c] W fun e W' => ∃ c', e = .returned (.agg c') ∧ VecG (fun g => S g ∨ W.heap.size ≤ g) W' c' f n 0 ∧ Below W.heap.size W W' := by
  obtain ⟨S0, hS0⟩ : ∃ S0 : Nat → Prop, S0 = fun g => S g ∨ W.heap.size ≤ g := ⟨_, rfl⟩
  have HS0 : Hid (∀ g, W.heap.size ≤ g → S0 g) := by intro g hg; rw [hS0]; exact .inr hg
  have h : VecG S0 W c f n 32 := VecG.weak (fun g hg => by rw [hS0]; exact .inl hg) h0
  rw [← hS0]
  clear h0 hS0
  have HV := Lib.hid h
  obtain ⟨a, b, v, cp, rfl, hc, h1, h2, h3, h4, h6, h7⟩ := h.laid
  obtain ⟨w2, hw2⟩ : ∃ w2, (W.alloc (.cells #[.int .i64 (n : Int), a, b, .slice v 32 cp] 30)).alloc (.cells #[.int .i64 0, .slice none 0 0, .slice none 0 0, .slice none 0 0] 30) = w2 := ⟨_, rfl⟩
  obtain ⟨hb2, hx2, hy2, hs2⟩ := pair_new hw2
  have HB2 := Lib.hid hb2
  have HX2 := Lib.hid hx2
  have HY2 := Lib.hid hy2
  have HS2 := Lib.hid hs2
  clear hb2 hx2 hy2 hs2
  have HO := Lib.hid (fun w (hb : Below W.heap.size W w) => pv_others w (HV.out.later hb))
  have HTR := Lib.hid h6
  have HTAIL := Lib.hid h7
  have HONE := Lib.hid h6.one
  have hn32 : n % 32 = 0 := by omega
  have HLN := Lib.hid (pv_levels n hn32 (by omega))
  have HLM := Lib.hid (pv_levels (n - 32) h3 (by omega))
  obtain ⟨M, hMe⟩ : ∃ M, M = n - 32 := ⟨_, rfl⟩
  have hMn : M + 32 = n := by omega
  rw [← hMe] at HO HTR HTAIL HLM h3
  have HM := Lib.hid (And.intro hMn h3)
  have hroom := lev_room (m := n) (by omega)
  have hlp := lev_pos (show 0 < n by omega)
  have HF := Lib.hid (show (n - 0) % 32 = 0 ∧ n ≤ 1000000 ∧ 0 < n - 0 ∧ M + 32 = n - 0 ∧ n ≤ 32 ^ levN n ∧ 1 ≤ levN n ∧ levN n ≤ 4 from ⟨by omega, h4, by omega, by omega, hroom, hlp, lev_le n⟩)
  have HX3 : Hid (w2.drew.heap[W.heap.size]? = some (.cells #[.int .i64 (n : Int), a, b, .slice v 32 cp] 30 (0, 0))) := HX2.out
  have HB3 := Lib.hid (HB2.out.trans ((drawn_below w2).mono HB2.out.size))
  have hM0 : 0 ≤ (M : Int) := by omega
  have hM6 : (M : Int) ≤ 1000000 := by omega
  clear h h1 h2 h3 h4 h6 h7 hc hn32 hMe hMn hroom hlp
  go_enter Try.func32, Try.ntmps32
  go_upto_region 1 with fail
  clear hw2
  go_cut [3, 4] from 6 to 9 (fun p q wx => ∃ Y : Nat, p = .pointer (some ⟨Y, 0, none⟩) ∧ q = .int .i64 (M : Int) ∧ W.heap.size + 1 < Y ∧ wx.heap[Y]? = some (.cells #[a, b] 28 (0, 0)) ∧ Below w2.heap.size w2 wx)
  case first =>
    as_aux_lemma =>
    refine wp_region_T (S := fun V => V.rangeAt W.heap.size 1 [a, b] ∧ V.heap[W.heap.size]? = some (.cells #[.int .i64 (n : Int), a, b, .slice v 32 cp] 30 (0, 0))) [5, 6] (by kernel_rfl) (by first | exact ⟨root_range HX3.out, HX3.out⟩ | exact ⟨root_range HX4.out, HX4.out⟩ | exact ⟨root_range HX5.out, HX5.out⟩) (fun hHeld => ?_)
    refine wpAnyT_take (i := 0) (oi := ⟨some 6, _, _, _, _, _⟩) (v := ?vg2_0) rfl (by kernel_rfl) (by kernel_rfl) (by kernel_rfl) (by kernel_rfl) (fun _ _ _ h => h) (Or.inl ⟨by rfl, ?hg2_0⟩) (by assumption) ?rg2_0
    case hg2_0 => (intro w hSw; (try dsimp only at hSw); first | (go_simp; done) | (go_simp; with_reducible rfl))
    (try simp only [Act.put, List.setIfInBounds_toArray, List.set_cons_zero, List.set_cons_succ])
    refine wpAnyT_take (i := 1) (oi := ⟨some 7, _, _, _, _, _⟩) (v := _) rfl (by kernel_rfl) (by kernel_rfl) (by kernel_rfl) (by kernel_rfl) (fun _ _ _ h => h) (yieldsIf_load_mid (by rfl) 28 _ rfl W.heap.size 1 rfl [a, b] _ (fun w hw => hw.1) Try.underlying28 rfl node_size) (by assumption) ?_
    (try simp only [Act.put, List.setIfInBounds_toArray, List.set_cons_zero, List.set_cons_succ])
    refine wpAnyT_take (i := 2) (oi := ⟨some 8, _, _, _, _, _⟩) (v := _) rfl (by kernel_rfl) (by kernel_rfl) (by kernel_rfl) (by kernel_rfl) (fun _ _ _ h => h) (yieldsIf_load_row (by rfl) 30 _ rfl W.heap.size rfl #[.int .i64 (n : Int), a, b, .slice v 32 cp] 30 (0, 0) _ (fun w hw => hw.2) Try.underlying30 rfl (by exact vec_size)) (by assumption) ?_
    (try simp only [Act.put, List.setIfInBounds_toArray, List.set_cons_zero, List.set_cons_succ])
    refine wpAnyT_ready (rs := [3, 4]) (by kernel_rfl) (by simp) ?_
    refine AllT.cons (i := 3) (o := ⟨some 9, _, _, _, _, _⟩) rfl (fun K hK => ?_) (AllT.cons (i := 4) (o := ⟨some 3, _, _, _, _, _⟩) rfl (fun K hK => ?_) AllT.nil)
    · go_simp
      go_at_call 35
      refine (HO.out _ HB3.out).mono ?_
      rintro e w4 ⟨rfl, hb⟩
      have HX4 := Lib.hid (((hb).block _ (Array.getElem?_eq_some_iff.1 HX3.out).1).trans HX3.out); have HB4 := Lib.hid (HB3.out.trans ((hb).mono HB3.out.size))
      have HL3 := Lib.hid hb
      clear hb
      dsimp only
      refine hK.out _ _ (by first | exact ⟨root_range HX3.out, HX3.out⟩ | exact ⟨root_range HX4.out, HX4.out⟩ | exact ⟨root_range HX5.out, HX5.out⟩) (fun hHeld => ?_)
      clear hK K
      (try simp only [Act.put, List.setIfInBounds_toArray, List.set_cons_zero, List.set_cons_succ])
      refine wpAnyT_one (i := 4) (o := ⟨some 3, _, _, _, _, _⟩) (by kernel_rfl) rfl (fun K hK => ?_)
      go_simp
      have HX5 := Lib.hid (((Below.newly' w4 (.cells #[.slice none 0 0, .slice none 0 0] 28)).block _ (Array.getElem?_eq_some_iff.1 HX4.out).1).trans HX4.out)
      refine hK.out _ _ (by first | exact ⟨root_range HX3.out, HX3.out⟩ | exact ⟨root_range HX4.out, HX4.out⟩ | exact ⟨root_range HX5.out, HX5.out⟩) (fun hHeld => ?_)
      clear hK K
      (try simp only [Act.put, List.setIfInBounds_toArray, List.set_cons_zero, List.set_cons_succ])
      refine wpAnyT_last (i := 5) (o := ⟨none, _, _, _, _, _⟩) (by kernel_rfl) (by decide) rfl (fun K hK => ?_)
      refine st_agg_wp 28 _ _ rfl w4.heap.size #[a, b] rfl rfl 28 #[.slice none 0 0, .slice none 0 0] (heap_alloc_last w4 _) node_size rfl (by simp [HONE.out.1, HONE.out.2]) ?_
      intro w7 h7 k7
      refine hK.out _ _ ?_
      clear hK K
      (try simp only [Act.put, List.setIfInBounds_toArray, List.set_cons_zero, List.set_cons_succ])
      refine wpAnyT_last (i := 6) (o := ⟨some 4, _, _, _, _, _⟩) (by kernel_rfl) (by decide) rfl (fun K hK => ?_)
      go_simp
      refine hK.out _ _ ?_
      clear hK K
      (try simp only [Act.put, List.setIfInBounds_toArray, List.set_cons_zero, List.set_cons_succ])
      refine wpAnyT_done (by kernel_rfl) ?_ _
      go_wp2_with fail
      go_meet
      case rel => exact ⟨w4.heap.size, rfl, rfl, by have := HL3.out.size; have := HS2.out; have : w2.drew.heap.size = w2.heap.size := rfl; omega, h7, (((drawn_below w2).trans HL3.out).trans ((Below.newly' w4 _).mono HL3.out.size)).trans (k7.below HL3.out.size)⟩
    · go_simp
      have HX4 := Lib.hid (((Below.newly' w2.drew (.cells #[.slice none 0 0, .slice none 0 0] 28)).block _ (Array.getElem?_eq_some_iff.1 HX3.out).1).trans HX3.out)
      have HB4 := Lib.hid (HB3.out.alloc HB3.out.size (.cells #[.slice none 0 0, .slice none 0 0] 28))
      refine hK.out _ _ (by first | exact ⟨root_range HX3.out, HX3.out⟩ | exact ⟨root_range HX4.out, HX4.out⟩ | exact ⟨root_range HX5.out, HX5.out⟩) (fun hHeld => ?_)
      clear hK K
      (try simp only [Act.put, List.setIfInBounds_toArray, List.set_cons_zero, List.set_cons_succ])
      refine wpAnyT_one (i := 3) (o := ⟨some 9, _, _, _, _, _⟩) (by kernel_rfl) rfl (fun K hK => ?_)
      go_simp
      go_at_call 35
      refine (HO.out _ HB4.out).mono ?_
      rintro e w5 ⟨rfl, hb⟩
      have HX5 := Lib.hid (((hb).block _ (Array.getElem?_eq_some_iff.1 HX4.out).1).trans HX4.out); have HB5 := Lib.hid (HB4.out.trans ((hb).mono HB4.out.size))
      have HL4 := Lib.hid hb
      clear hb
      dsimp only
      refine hK.out _ _ (by first | exact ⟨root_range HX3.out, HX3.out⟩ | exact ⟨root_range HX4.out, HX4.out⟩ | exact ⟨root_range HX5.out, HX5.out⟩) (fun hHeld => ?_)
      clear hK K
      (try simp only [Act.put, List.setIfInBounds_toArray, List.set_cons_zero, List.set_cons_succ])
      refine wpAnyT_last (i := 5) (o := ⟨none, _, _, _, _, _⟩) (by kernel_rfl) (by decide) rfl (fun K hK => ?_)
      refine st_agg_wp 28 _ _ rfl w2.drew.heap.size #[a, b] rfl rfl 28 #[.slice none 0 0, .slice none 0 0] ((HL4.out.block _ (by simp)).trans (heap_alloc_last w2.drew _)) node_size rfl (by simp [HONE.out.1, HONE.out.2]) ?_
      intro w7 h7 k7
      refine hK.out _ _ ?_
      clear hK K
      (try simp only [Act.put, List.setIfInBounds_toArray, List.set_cons_zero, List.set_cons_succ])
      refine wpAnyT_last (i := 6) (o := ⟨some 4, _, _, _, _, _⟩) (by kernel_rfl) (by decide) rfl (fun K hK => ?_)
      go_simp
      refine hK.out _ _ ?_
      clear hK K
      (try simp only [Act.put, List.setIfInBounds_toArray, List.set_cons_zero, List.set_cons_succ])
      refine wpAnyT_done (by kernel_rfl) ?_ _
      go_wp2_with fail
      go_meet
      case rel => exact ⟨w2.drew.heap.size, rfl, rfl, by have := HS2.out; have : w2.drew.heap.size = w2.heap.size := rfl; omega, h7, (((drawn_below w2).trans (Below.newly' w2.drew _)).trans (HL4.out.mono (by simp))).trans (k7.below (Nat.le_refl _))⟩
  case rest =>
    obtain ⟨Y, rfl, rfl, hY, hz, hb⟩ := hcut
    have HX5 := Lib.hid ((hb.block _ (Array.getElem?_eq_some_iff.1 HX2.out).1).trans HX2.out)
    have HY5 := Lib.hid ((hb.block _ (Array.getElem?_eq_some_iff.1 HY2.out).1).trans HY2.out)
    have HZ5 := Lib.hid hz
    have HB5 := Lib.hid (HB2.out.trans (hb.mono HB2.out.size))
    have HYY := Lib.hid hY
    have c5 : wc.cell? ⟨W.heap.size, 0, none⟩ = some (.int .i64 (n : Int)) := cell_in HX5.out rfl
    have c53 : wc.cell? ⟨W.heap.size, 3, none⟩ = some (.slice v 32 cp) := cell_in HX5.out rfl
    clear hb hz hY HX3 HB3 HX2 HY2 HB2
    obtain ⟨lN, hlN⟩ : ∃ lN, lN = levN n := ⟨_, rfl⟩
    obtain ⟨h, hh⟩ : ∃ h, h = lN - 1 := ⟨_, rfl⟩
    have HLH := Lib.hid (show lN = h + 1 ∧ h ≤ 3 ∧ n ≤ 32 ^ (h + 1) ∧ lN = levN n by have := HF.out; have e : levN n = h + 1 := by omega
                                                                                     rw [e] at this; omega)
    rw [← hlN] at HLN
    have HPUSH := Lib.hid (fun (w : World) (ra rb : Value) (hb : Below W.heap.size W w) (hr : (M = 0 ∧ ra = .slice none 0 0 ∧ rb = .slice none 0 0) ∨ NodeAt S0 w h ra rb f M) =>
      pv_push h (by have := HLH.out; omega) S0 w ra rb (.slice v 32 cp) f M M lN HLH.out.1 (Nat.mod_eq_of_lt (by have := HLH.out; have := HM.out; omega)).symm HM.out.2 hr (HTAIL.out.later hb))
    have hl8 : (lN : Int) ≤ 8 := by have := HLH.out; omega
    clear hh hlN
    by_cases h0 : M = 0
    · have h0' : ¬ (0 : Int) < (M : Int) := by omega
      have hab : a = .slice none 0 0 ∧ b = .slice none 0 0 := by
        rcases HTR.out with ⟨_, h1, h2⟩ | ⟨h1, _⟩
        · exact ⟨h1, h2⟩
        · omega
      have HP := Lib.hid (HPUSH.out wc.drew a b (HB5.out.trans ((drawn_below wc).mono HB5.out.size)) (.inl ⟨h0, hab⟩))
      clear hab h0
      go_upto_region 5 with (first
      | (go_at_call 34; with_reducible refine (HLN.out _).mono ?_; rintro e w5 ⟨rfl, hw⟩; obtain rfl := hw.symm)
      | (go_at_call 34; with_reducible refine (HLM.out _).mono ?_; rintro e w5 ⟨rfl, hw⟩; obtain rfl := hw.symm))
      have HX6 : Hid (wc.drew.heap[W.heap.size]? = some (.cells #[.int .i64 (n : Int), a, b, .slice v 32 cp] 30 (0, 0))) := HX5.out
      have HY6 : Hid (wc.drew.heap[W.heap.size + 1]? = some (.cells #[.int .i64 0, .slice none 0 0, .slice none 0 0, .slice none 0 0] 30 (0, 0))) := HY5.out
      have HZ6 : Hid (wc.drew.heap[Y]? = some (.cells #[a, b] 28 (0, 0))) := HZ5.out
      have HB6 := Lib.hid (HB5.out.trans ((drawn_below wc).mono HB5.out.size))
      refine wp_region_T (S := fun V => V.cell? ⟨W.heap.size, 0, none⟩ = some (.int .i64 (n : Int)) ∧ V.cell? ⟨W.heap.size, 3, none⟩ = some (.slice v 32 cp) ∧ V.heap[Y]? = some (.cells #[a, b] 28 (0, 0))) [9] (by kernel_rfl) (by first | exact ⟨cell_in HX6.out rfl, cell_in HX6.out rfl, HZ6.out⟩ | exact ⟨cell_in HX7.out rfl, cell_in HX7.out rfl, HZ7.out⟩) (fun hHeld => ?_)
      refine wpAnyT_take (i := 0) (oi := ⟨some 24, _, _, _, _, _⟩) (v := ?vg3_0) rfl (by kernel_rfl) (by kernel_rfl) (by kernel_rfl) (by kernel_rfl) (fun _ _ _ h => h) (Or.inl ⟨by rfl, ?hg3_0⟩) (by assumption) ?rg3_0
      case hg3_0 => (intro w hSw; (try dsimp only at hSw); first | (go_simp; done) | (go_simp; with_reducible rfl))
      (try simp only [Act.put, List.setIfInBounds_toArray, List.set_cons_zero, List.set_cons_succ])
      refine wpAnyT_take (i := 1) (oi := ⟨some 25, _, _, _, _, _⟩) (v := ?vg3_1) rfl (by kernel_rfl) (by kernel_rfl) (by kernel_rfl) (by kernel_rfl) (fun _ _ _ h => h) (Or.inl ⟨by rfl, ?hg3_1⟩) (by assumption) ?rg3_1
      case hg3_1 => (intro w hSw; (try dsimp only at hSw); first | (go_simp; done) | (go_simp; with_reducible rfl))
      (try simp only [Act.put, List.setIfInBounds_toArray, List.set_cons_zero, List.set_cons_succ])
      refine wpAnyT_take (i := 2) (oi := ⟨some 26, _, _, _, _, _⟩) (v := _) rfl (by kernel_rfl) (by kernel_rfl) (by kernel_rfl) (by kernel_rfl) (fun _ _ _ h => h) (yieldsIf_load_row (by rfl) 28 _ rfl Y rfl #[a, b] 28 (0, 0) _ (fun w hw => hw.2.2) Try.underlying28 rfl (by exact node_size)) (by assumption) ?_
      (try simp only [Act.put, List.setIfInBounds_toArray, List.set_cons_zero, List.set_cons_succ])
      refine wpAnyT_take (i := 3) (oi := ⟨some 27, _, _, _, _, _⟩) (v := ?vg3_3) rfl (by kernel_rfl) (by kernel_rfl) (by kernel_rfl) (by kernel_rfl) (fun _ _ _ h => h) (Or.inl ⟨by rfl, ?hg3_3⟩) (by assumption) ?rg3_3
      case hg3_3 => (intro w hSw; (try dsimp only at hSw); first | (go_simp; done) | (go_simp; with_reducible rfl))
      (try simp only [Act.put, List.setIfInBounds_toArray, List.set_cons_zero, List.set_cons_succ])
      refine wpAnyT_take (i := 4) (oi := ⟨some 28, _, _, _, _, _⟩) (v := ?vg3_4) rfl (by kernel_rfl) (by kernel_rfl) (by kernel_rfl) (by kernel_rfl) (fun _ _ _ h => h) (Or.inl ⟨by rfl, ?hg3_4⟩) (by assumption) ?rg3_4
      case hg3_4 => (intro w hSw; (try dsimp only at hSw); first | (go_simp; done) | (go_simp; with_reducible rfl))
      (try simp only [Act.put, List.setIfInBounds_toArray, List.set_cons_zero, List.set_cons_succ])
      refine wpAnyT_take (i := 5) (oi := ⟨some 29, _, _, _, _, _⟩) (v := ?vg3_5) rfl (by kernel_rfl) (by kernel_rfl) (by kernel_rfl) (by kernel_rfl) (fun _ _ _ h => h) (Or.inl ⟨by rfl, ?hg3_5⟩) (by assumption) ?rg3_5
      case hg3_5 => (intro w hSw; (try dsimp only at hSw); first | (go_simp; done) | (go_simp; with_reducible rfl))
      (try simp only [Act.put, List.setIfInBounds_toArray, List.set_cons_zero, List.set_cons_succ])
      refine wpAnyT_take (i := 6) (oi := ⟨some 30, _, _, _, _, _⟩) (v := ?vg3_6) rfl (by kernel_rfl) (by kernel_rfl) (by kernel_rfl) (by kernel_rfl) (fun _ _ _ h => h) (Or.inl ⟨by rfl, ?hg3_6⟩) (by assumption) ?rg3_6
      case hg3_6 => (intro w hSw; (try dsimp only at hSw); first | (go_simp; done) | (go_simp; with_reducible rfl))
      (try simp only [Act.put, List.setIfInBounds_toArray, List.set_cons_zero, List.set_cons_succ])
      refine wpAnyT_one (i := 7) (o := ⟨some 31, _, _, _, _, _⟩) (by kernel_rfl) rfl (fun K hK => ?_)
      go_simp
      go_at_call 40
      refine HP.out.mono ?_
      rintro e w7 ⟨a7, b7, rfl, hn7, hb⟩
      have HX7 := Lib.hid ((hb.block _ (Array.getElem?_eq_some_iff.1 HX6.out).1).trans HX6.out)
      have HY7 := Lib.hid ((hb.block _ (Array.getElem?_eq_some_iff.1 HY6.out).1).trans HY6.out)
      have HZ7 := Lib.hid ((hb.block _ (Array.getElem?_eq_some_iff.1 HZ6.out).1).trans HZ6.out)
      have HB7 := Lib.hid (HB6.out.trans (hb.mono HB6.out.size))
      have HN7 := Lib.hid hn7
      have HONE7 := Lib.hid hn7.one
      clear hb hn7
      dsimp only
      refine hK.out _ _ (by first | exact ⟨cell_in HX6.out rfl, cell_in HX6.out rfl, HZ6.out⟩ | exact ⟨cell_in HX7.out rfl, cell_in HX7.out rfl, HZ7.out⟩) (fun hHeld => ?_)
      clear hK K
      (try simp only [Act.put, List.setIfInBounds_toArray, List.set_cons_zero, List.set_cons_succ])
      refine wpAnyT_take (i := 8) (oi := ⟨some 32, _, _, _, _, _⟩) (v := ?vg3_8) rfl (by kernel_rfl) (by kernel_rfl) (by kernel_rfl) (by kernel_rfl) (fun _ _ _ h => h) (Or.inl ⟨by rfl, ?hg3_8⟩) (by assumption) ?rg3_8
      case hg3_8 => (intro w hSw; (try dsimp only at hSw); first | (go_simp; done) | (go_simp; with_reducible rfl))
      (try simp only [Act.put, List.setIfInBounds_toArray, List.set_cons_zero, List.set_cons_succ])
      refine wpAnyT_last (i := 9) (o := ⟨none, _, _, _, _, _⟩) (by kernel_rfl) (by decide) rfl (fun K hK => ?_)
      refine st_agg_wp 30 _ _ rfl (W.heap.size + 1) #[.int .i64 (n : Int), a7, b7, .slice none 0 0] rfl rfl 30 #[.int .i64 0, .slice none 0 0, .slice none 0 0, .slice none 0 0] HY7.out vec_size rfl (by simp [HONE7.out.1, HONE7.out.2]; exact ⟨rfl, rfl⟩) ?_
      intro w8 h8 k8
      refine hK.out _ _ ?_
      clear hK K
      (try simp only [Act.put, List.setIfInBounds_toArray, List.set_cons_zero, List.set_cons_succ])
      refine wpAnyT_done (by kernel_rfl) ?_ _
      go_wp2_with fail
      refine bodyPost_ret (results_cell_row rfl _ _ (W.heap.size + 1) 30 _ (0, 0) _ rfl h8 Try.underlying30 rfl vec_size) rfl ⟨_, rfl, ⟨by omega, by omega, HF.out.1, HF.out.2.1, _, _, _, rfl, .inr ⟨HF.out.2.2.1, ?_⟩, .inl ⟨rfl, rfl⟩⟩, HB7.out.trans (k8.below (by omega))⟩
      have hn := (node_but HN7.out k8 HY7.out (by decide) (by decide)).weak (S' := S0) (fun g hg => hg.elim id (fun h => HS0.out g (Nat.le_trans HB6.out.size h)))
      rw [HF.out.2.2.2.1] at hn
      rw [show levN (n - 0) - 1 = h by rw [Nat.sub_zero]; have := HLH.out; omega]
      exact hn
    · have h0' : (0 : Int) < (M : Int) := by omega
      have hroot : NodeAt S0 W (levN M - 1) a b f M := by
        rcases HTR.out with ⟨h1, _⟩ | ⟨_, h⟩
        · omega
        · exact h
      have hnx := lev_next HM.out.2 (by omega) (by have := HM.out; have := HF.out; omega)
      rw [HM.out.1] at hnx
      obtain ⟨lM, hlM⟩ : ∃ lM, lM = levN M := ⟨_, rfl⟩
      have hlMr := lev_room (m := M) (by omega)
      have hlMp := lev_pos (m := M) (by omega)
      rw [← hlM] at HLM hnx hroot hlMr hlMp
      have hl9 : (lM : Int) ≤ 8 := by have := lev_le M; omega
      have hlh := HLH.out
      rcases hnx with hnx | hnx
      · have hgt : ¬ (lM : Int) < (lN : Int) := by omega
        have hbd : Below W.heap.size W wc.drew := HB5.out.trans ((drawn_below wc).mono HB5.out.size)
        have hr2 := NodeAt.later hroot hbd
        have hhe : lM - 1 = h := by omega
        rw [hhe] at hr2
        have HP := Lib.hid (HPUSH.out wc.drew a b hbd (.inr hr2))
        clear hbd hr2 hhe
        clear hroot hnx hlM hlMr hlMp hlh h0
        go_upto_region 5 with (first
      | (go_at_call 34; with_reducible refine (HLN.out _).mono ?_; rintro e w5 ⟨rfl, hw⟩; obtain rfl := hw.symm)
      | (go_at_call 34; with_reducible refine (HLM.out _).mono ?_; rintro e w5 ⟨rfl, hw⟩; obtain rfl := hw.symm))
        have HX6 : Hid (wc.drew.heap[W.heap.size]? = some (.cells #[.int .i64 (n : Int), a, b, .slice v 32 cp] 30 (0, 0))) := HX5.out
        have HY6 : Hid (wc.drew.heap[W.heap.size + 1]? = some (.cells #[.int .i64 0, .slice none 0 0, .slice none 0 0, .slice none 0 0] 30 (0, 0))) := HY5.out
        have HZ6 : Hid (wc.drew.heap[Y]? = some (.cells #[a, b] 28 (0, 0))) := HZ5.out
        have HB6 := Lib.hid (HB5.out.trans ((drawn_below wc).mono HB5.out.size))
        refine wp_region_T (S := fun V => V.cell? ⟨W.heap.size, 0, none⟩ = some (.int .i64 (n : Int)) ∧ V.cell? ⟨W.heap.size, 3, none⟩ = some (.slice v 32 cp) ∧ V.heap[Y]? = some (.cells #[a, b] 28 (0, 0))) [9] (by kernel_rfl) (by first | exact ⟨cell_in HX6.out rfl, cell_in HX6.out rfl, HZ6.out⟩ | exact ⟨cell_in HX7.out rfl, cell_in HX7.out rfl, HZ7.out⟩) (fun hHeld => ?_)
        refine wpAnyT_take (i := 0) (oi := ⟨some 24, _, _, _, _, _⟩) (v := ?vg4_0) rfl (by kernel_rfl) (by kernel_rfl) (by kernel_rfl) (by kernel_rfl) (fun _ _ _ h => h) (Or.inl ⟨by rfl, ?hg4_0⟩) (by assumption) ?rg4_0
        case hg4_0 => (intro w hSw; (try dsimp only at hSw); first | (go_simp; done) | (go_simp; with_reducible rfl))
        (try simp only [Act.put, List.setIfInBounds_toArray, List.set_cons_zero, List.set_cons_succ])
        refine wpAnyT_take (i := 1) (oi := ⟨some 25, _, _, _, _, _⟩) (v := ?vg4_1) rfl (by kernel_rfl) (by kernel_rfl) (by kernel_rfl) (by kernel_rfl) (fun _ _ _ h => h) (Or.inl ⟨by rfl, ?hg4_1⟩) (by assumption) ?rg4_1
        case hg4_1 => (intro w hSw; (try dsimp only at hSw); first | (go_simp; done) | (go_simp; with_reducible rfl))
        (try simp only [Act.put, List.setIfInBounds_toArray, List.set_cons_zero, List.set_cons_succ])
        refine wpAnyT_take (i := 2) (oi := ⟨some 26, _, _, _, _, _⟩) (v := _) rfl (by kernel_rfl) (by kernel_rfl) (by kernel_rfl) (by kernel_rfl) (fun _ _ _ h => h) (yieldsIf_load_row (by rfl) 28 _ rfl Y rfl #[a, b] 28 (0, 0) _ (fun w hw => hw.2.2) Try.underlying28 rfl (by exact node_size)) (by assumption) ?_
        (try simp only [Act.put, List.setIfInBounds_toArray, List.set_cons_zero, List.set_cons_succ])
        refine wpAnyT_take (i := 3) (oi := ⟨some 27, _, _, _, _, _⟩) (v := ?vg4_3) rfl (by kernel_rfl) (by kernel_rfl) (by kernel_rfl) (by kernel_rfl) (fun _ _ _ h => h) (Or.inl ⟨by rfl, ?hg4_3⟩) (by assumption) ?rg4_3
        case hg4_3 => (intro w hSw; (try dsimp only at hSw); first | (go_simp; done) | (go_simp; with_reducible rfl))
        (try simp only [Act.put, List.setIfInBounds_toArray, List.set_cons_zero, List.set_cons_succ])
        refine wpAnyT_take (i := 4) (oi := ⟨some 28, _, _, _, _, _⟩) (v := ?vg4_4) rfl (by kernel_rfl) (by kernel_rfl) (by kernel_rfl) (by kernel_rfl) (fun _ _ _ h => h) (Or.inl ⟨by rfl, ?hg4_4⟩) (by assumption) ?rg4_4
        case hg4_4 => (intro w hSw; (try dsimp only at hSw); first | (go_simp; done) | (go_simp; with_reducible rfl))
        (try simp only [Act.put, List.setIfInBounds_toArray, List.set_cons_zero, List.set_cons_succ])
        refine wpAnyT_take (i := 5) (oi := ⟨some 29, _, _, _, _, _⟩) (v := ?vg4_5) rfl (by kernel_rfl) (by kernel_rfl) (by kernel_rfl) (by kernel_rfl) (fun _ _ _ h => h) (Or.inl ⟨by rfl, ?hg4_5⟩) (by assumption) ?rg4_5
        case hg4_5 => (intro w hSw; (try dsimp only at hSw); first | (go_simp; done) | (go_simp; with_reducible rfl))
        (try simp only [Act.put, List.setIfInBounds_toArray, List.set_cons_zero, List.set_cons_succ])
        refine wpAnyT_take (i := 6) (oi := ⟨some 30, _, _, _, _, _⟩) (v := ?vg4_6) rfl (by kernel_rfl) (by kernel_rfl) (by kernel_rfl) (by kernel_rfl) (fun _ _ _ h => h) (Or.inl ⟨by rfl, ?hg4_6⟩) (by assumption) ?rg4_6
        case hg4_6 => (intro w hSw; (try dsimp only at hSw); first | (go_simp; done) | (go_simp; with_reducible rfl))
        (try simp only [Act.put, List.setIfInBounds_toArray, List.set_cons_zero, List.set_cons_succ])
        refine wpAnyT_one (i := 7) (o := ⟨some 31, _, _, _, _, _⟩) (by kernel_rfl) rfl (fun K hK => ?_)
        go_simp
        go_at_call 40
        refine HP.out.mono ?_
        rintro e w7 ⟨a7, b7, rfl, hn7, hb⟩
        have HX7 := Lib.hid ((hb.block _ (Array.getElem?_eq_some_iff.1 HX6.out).1).trans HX6.out)
        have HY7 := Lib.hid ((hb.block _ (Array.getElem?_eq_some_iff.1 HY6.out).1).trans HY6.out)
        have HZ7 := Lib.hid ((hb.block _ (Array.getElem?_eq_some_iff.1 HZ6.out).1).trans HZ6.out)
        have HB7 := Lib.hid (HB6.out.trans (hb.mono HB6.out.size))
        have HN7 := Lib.hid hn7
        have HONE7 := Lib.hid hn7.one
        clear hb hn7
        dsimp only
        refine hK.out _ _ (by first | exact ⟨cell_in HX6.out rfl, cell_in HX6.out rfl, HZ6.out⟩ | exact ⟨cell_in HX7.out rfl, cell_in HX7.out rfl, HZ7.out⟩) (fun hHeld => ?_)
        clear hK K
        (try simp only [Act.put, List.setIfInBounds_toArray, List.set_cons_zero, List.set_cons_succ])
        refine wpAnyT_take (i := 8) (oi := ⟨some 32, _, _, _, _, _⟩) (v := ?vg4_8) rfl (by kernel_rfl) (by kernel_rfl) (by kernel_rfl) (by kernel_rfl) (fun _ _ _ h => h) (Or.inl ⟨by rfl, ?hg4_8⟩) (by assumption) ?rg4_8
        case hg4_8 => (intro w hSw; (try dsimp only at hSw); first | (go_simp; done) | (go_simp; with_reducible rfl))
        (try simp only [Act.put, List.setIfInBounds_toArray, List.set_cons_zero, List.set_cons_succ])
        refine wpAnyT_last (i := 9) (o := ⟨none, _, _, _, _, _⟩) (by kernel_rfl) (by decide) rfl (fun K hK => ?_)
        refine st_agg_wp 30 _ _ rfl (W.heap.size + 1) #[.int .i64 (n : Int), a7, b7, .slice none 0 0] rfl rfl 30 #[.int .i64 0, .slice none 0 0, .slice none 0 0, .slice none 0 0] HY7.out vec_size rfl (by simp [HONE7.out.1, HONE7.out.2]; exact ⟨rfl, rfl⟩) ?_
        intro w8 h8 k8
        refine hK.out _ _ ?_
        clear hK K
        (try simp only [Act.put, List.setIfInBounds_toArray, List.set_cons_zero, List.set_cons_succ])
        refine wpAnyT_done (by kernel_rfl) ?_ _
        go_wp2_with fail
        refine bodyPost_ret (results_cell_row rfl _ _ (W.heap.size + 1) 30 _ (0, 0) _ rfl h8 Try.underlying30 rfl vec_size) rfl ⟨_, rfl, ⟨by omega, by omega, HF.out.1, HF.out.2.1, _, _, _, rfl, .inr ⟨HF.out.2.2.1, ?_⟩, .inl ⟨rfl, rfl⟩⟩, HB7.out.trans (k8.below (by omega))⟩
        have hn := (node_but HN7.out k8 HY7.out (by decide) (by decide)).weak (S' := S0) (fun g hg => hg.elim id (fun h => HS0.out g (Nat.le_trans HB6.out.size h)))
        rw [HF.out.2.2.2.1] at hn
        rw [show levN (n - 0) - 1 = h by rw [Nat.sub_zero]; have := HLH.out; omega]
        exact hn
      · have hgt : (lM : Int) < (lN : Int) := by omega
        have hhl : h = (lM - 1) + 1 := by omega
        have HR5 := Lib.hid (hroot.old)
        have HLMR := Lib.hid (show h = (lM - 1) + 1 ∧ M ≤ 32 ^ (lM - 1 + 1) ∧ 0 < M from ⟨hhl, by rw [show lM - 1 + 1 = lM by omega]; exact hlMr, by omega⟩)
        clear hroot hnx hlM hlMr hlMp hlh h0 hhl
        go_upto_region 5 with (first
          | (go_at_call 34; with_reducible refine (HLN.out _).mono ?_; rintro e w5 ⟨rfl, hw⟩; obtain rfl := hw.symm)
          | (go_at_call 34; with_reducible refine (HLM.out _).mono ?_; rintro e w5 ⟨rfl, hw⟩; obtain rfl := hw.symm)
          | (refine ld_if rfl 28 _ rfl Y rfl 28 _ _ _ HZ5.out Try.underlying28 rfl node_size ?_)
          | (refine st_agg rfl 28 _ _ rfl Y #[.slice (some ⟨wc.heap.size, 0, none⟩) 1 1, .slice none 0 0] rfl rfl 28 #[a, b] (((Below.newly' wc _).block _ (Array.getElem?_eq_some_iff.1 HZ5.out).1).trans HZ5.out) node_size rfl (by simp [Value.oneCell']) ?_; intro w6 h6 k6))
        have hYlt := (Array.getElem?_eq_some_iff.1 HZ5.out).1
        have hnew := heap_alloc_last wc (.cells #[a, b] 28)
        have hn6 : NodeAt S0 w6 h (.slice (some ⟨wc.heap.size, 0, none⟩) 1 1) (.slice none 0 0) f M := by
          have hL := HLMR.out
          rw [hL.1]
          have hB := pw_pos (lM - 1 + 1)
          have hcnt : (M + 32 ^ (lM - 1 + 1) - 1) / 32 ^ (lM - 1 + 1) = 1 := by
            have a1 := (cnt_of_lt (n := M) (k := 0) hB).2 (by omega)
            have a2 := mt (cnt_of_lt (n := M) (k := 1) hB).1 (by omega)
            omega
          refine ⟨rfl, hL.2.2, Nat.le_trans hL.2.1 (Nat.pow_le_pow_right (by decide) (by omega)), (fun j => if j = 0 then a else b), ?_, fun j hj => ?_⟩
          · rw [hcnt]
            refine .inr ⟨by omega, wc.heap.size, 1, _, (0, 0), rfl, Nat.le_refl _, HS0.out _ HB5.out.size, k6.other hnew (by omega), fun j hj => ?_⟩
            match j, hj with
            | 0, _ => rfl
            | 1, _ => rfl
          · obtain rfl : j = 0 := by
              rcases Nat.eq_zero_or_pos j with e | e
              · exact e
              · have := Nat.mul_le_mul_right (32 ^ (lM - 1 + 1)) e
                omega
            rw [Nat.zero_mul, Nat.sub_zero, Nat.min_eq_right hL.2.1]
            refine (((HR5.out.later (HB5.out.alloc HB5.out.size (.cells #[a, b] 28))).kept k6.by_ (fun X e => by cases e; have := HYY.out; omega)).weak fun g hg => hg.1).congr fun j _ => by rw [Nat.zero_add]
        have hX6 := k6.other (((Below.newly' wc (.cells #[a, b] 28)).block _ (Array.getElem?_eq_some_iff.1 HX5.out).1).trans HX5.out) (by have := HYY.out; omega)
        have hY6 := k6.other (((Below.newly' wc (.cells #[a, b] 28)).block _ (Array.getElem?_eq_some_iff.1 HY5.out).1).trans HY5.out) (by have := HYY.out; omega)
        have hB6 := (HB5.out.alloc HB5.out.size (.cells #[a, b] 28)).trans (k6.below (by have := HYY.out; omega))
        have HP := Lib.hid (HPUSH.out w6.drew _ _ (hB6.trans ((drawn_below w6).mono hB6.size)) (.inr (hn6.later (drawn_below w6))))
        replace HX5 := Lib.hid hX6
        replace HY5 := Lib.hid hY6
        replace HZ5 := Lib.hid h6
        replace HB5 := Lib.hid hB6
        clear hX6 hY6 hB6 h6 hn6 hnew hYlt k6
        have HX6 : Hid (w6.drew.heap[W.heap.size]? = some (.cells #[.int .i64 (n : Int), a, b, .slice v 32 cp] 30 (0, 0))) := HX5.out
        have HY6 : Hid (w6.drew.heap[W.heap.size + 1]? = some (.cells #[.int .i64 0, .slice none 0 0, .slice none 0 0, .slice none 0 0] 30 (0, 0))) := HY5.out
        have HZ6 : Hid (w6.drew.heap[Y]? = some (.cells #[.slice (some ⟨wc.heap.size, 0, none⟩) 1 1, .slice none 0 0] 28 (0, 0))) := HZ5.out
        have HB6 := Lib.hid (HB5.out.trans ((drawn_below w6).mono HB5.out.size))
        refine wp_region_T (S := fun V => V.cell? ⟨W.heap.size, 0, none⟩ = some (.int .i64 (n : Int)) ∧ V.cell? ⟨W.heap.size, 3, none⟩ = some (.slice v 32 cp) ∧ V.heap[Y]? = some (.cells #[.slice (some ⟨wc.heap.size, 0, none⟩) 1 1, .slice none 0 0] 28 (0, 0))) [9] (by kernel_rfl) (by first | exact ⟨cell_in HX6.out rfl, cell_in HX6.out rfl, HZ6.out⟩ | exact ⟨cell_in HX7.out rfl, cell_in HX7.out rfl, HZ7.out⟩) (fun hHeld => ?_)
        refine wpAnyT_take (i := 0) (oi := ⟨some 24, _, _, _, _, _⟩) (v := ?vg5_0) rfl (by kernel_rfl) (by kernel_rfl) (by kernel_rfl) (by kernel_rfl) (fun _ _ _ h => h) (Or.inl ⟨by rfl, ?hg5_0⟩) (by assumption) ?rg5_0
        case hg5_0 => (intro w hSw; (try dsimp only at hSw); first | (go_simp; done) | (go_simp; with_reducible rfl))
        (try simp only [Act.put, List.setIfInBounds_toArray, List.set_cons_zero, List.set_cons_succ])
        refine wpAnyT_take (i := 1) (oi := ⟨some 25, _, _, _, _, _⟩) (v := ?vg5_1) rfl (by kernel_rfl) (by kernel_rfl) (by kernel_rfl) (by kernel_rfl) (fun _ _ _ h => h) (Or.inl ⟨by rfl, ?hg5_1⟩) (by assumption) ?rg5_1
        case hg5_1 => (intro w hSw; (try dsimp only at hSw); first | (go_simp; done) | (go_simp; with_reducible rfl))
        (try simp only [Act.put, List.setIfInBounds_toArray, List.set_cons_zero, List.set_cons_succ])
        refine wpAnyT_take (i := 2) (oi := ⟨some 26, _, _, _, _, _⟩) (v := _) rfl (by kernel_rfl) (by kernel_rfl) (by kernel_rfl) (by kernel_rfl) (fun _ _ _ h => h) (yieldsIf_load_row (by rfl) 28 _ rfl Y rfl #[.slice (some ⟨wc.heap.size, 0, none⟩) 1 1, .slice none 0 0] 28 (0, 0) _ (fun w hw => hw.2.2) Try.underlying28 rfl (by exact node_size)) (by assumption) ?_
        (try simp only [Act.put, List.setIfInBounds_toArray, List.set_cons_zero, List.set_cons_succ])
        refine wpAnyT_take (i := 3) (oi := ⟨some 27, _, _, _, _, _⟩) (v := ?vg5_3) rfl (by kernel_rfl) (by kernel_rfl) (by kernel_rfl) (by kernel_rfl) (fun _ _ _ h => h) (Or.inl ⟨by rfl, ?hg5_3⟩) (by assumption) ?rg5_3
        case hg5_3 => (intro w hSw; (try dsimp only at hSw); first | (go_simp; done) | (go_simp; with_reducible rfl))
        (try simp only [Act.put, List.setIfInBounds_toArray, List.set_cons_zero, List.set_cons_succ])
        refine wpAnyT_take (i := 4) (oi := ⟨some 28, _, _, _, _, _⟩) (v := ?vg5_4) rfl (by kernel_rfl) (by kernel_rfl) (by kernel_rfl) (by kernel_rfl) (fun _ _ _ h => h) (Or.inl ⟨by rfl, ?hg5_4⟩) (by assumption) ?rg5_4
        case hg5_4 => (intro w hSw; (try dsimp only at hSw); first | (go_simp; done) | (go_simp; with_reducible rfl))
        (try simp only [Act.put, List.setIfInBounds_toArray, List.set_cons_zero, List.set_cons_succ])
        refine wpAnyT_take (i := 5) (oi := ⟨some 29, _, _, _, _, _⟩) (v := ?vg5_5) rfl (by kernel_rfl) (by kernel_rfl) (by kernel_rfl) (by kernel_rfl) (fun _ _ _ h => h) (Or.inl ⟨by rfl, ?hg5_5⟩) (by assumption) ?rg5_5
        case hg5_5 => (intro w hSw; (try dsimp only at hSw); first | (go_simp; done) | (go_simp; with_reducible rfl))
        (try simp only [Act.put, List.setIfInBounds_toArray, List.set_cons_zero, List.set_cons_succ])
        refine wpAnyT_take (i := 6) (oi := ⟨some 30, _, _, _, _, _⟩) (v := ?vg5_6) rfl (by kernel_rfl) (by kernel_rfl) (by kernel_rfl) (by kernel_rfl) (fun _ _ _ h => h) (Or.inl ⟨by rfl, ?hg5_6⟩) (by assumption) ?rg5_6
        case hg5_6 => (intro w hSw; (try dsimp only at hSw); first | (go_simp; done) | (go_simp; with_reducible rfl))
        (try simp only [Act.put, List.setIfInBounds_toArray, List.set_cons_zero, List.set_cons_succ])
        refine wpAnyT_one (i := 7) (o := ⟨some 31, _, _, _, _, _⟩) (by kernel_rfl) rfl (fun K hK => ?_)
        go_simp
        go_at_call 40
        refine HP.out.mono ?_
        rintro e w7 ⟨a7, b7, rfl, hn7, hb⟩
        have HX7 := Lib.hid ((hb.block _ (Array.getElem?_eq_some_iff.1 HX6.out).1).trans HX6.out)
        have HY7 := Lib.hid ((hb.block _ (Array.getElem?_eq_some_iff.1 HY6.out).1).trans HY6.out)
        have HZ7 := Lib.hid ((hb.block _ (Array.getElem?_eq_some_iff.1 HZ6.out).1).trans HZ6.out)
        have HB7 := Lib.hid (HB6.out.trans (hb.mono HB6.out.size))
        have HN7 := Lib.hid hn7
        have HONE7 := Lib.hid hn7.one
        clear hb hn7
        dsimp only
        refine hK.out _ _ (by first | exact ⟨cell_in HX6.out rfl, cell_in HX6.out rfl, HZ6.out⟩ | exact ⟨cell_in HX7.out rfl, cell_in HX7.out rfl, HZ7.out⟩) (fun hHeld => ?_)
        clear hK K
        (try simp only [Act.put, List.setIfInBounds_toArray, List.set_cons_zero, List.set_cons_succ])
        refine wpAnyT_take (i := 8) (oi := ⟨some 32, _, _, _, _, _⟩) (v := ?vg5_8) rfl (by kernel_rfl) (by kernel_rfl) (by kernel_rfl) (by kernel_rfl) (fun _ _ _ h => h) (Or.inl ⟨by rfl, ?hg5_8⟩) (by assumption) ?rg5_8
        case hg5_8 => (intro w hSw; (try dsimp only at hSw); first | (go_simp; done) | (go_simp; with_reducible rfl))
        (try simp only [Act.put, List.setIfInBounds_toArray, List.set_cons_zero, List.set_cons_succ])
        refine wpAnyT_last (i := 9) (o := ⟨none, _, _, _, _, _⟩) (by kernel_rfl) (by decide) rfl (fun K hK => ?_)
        refine st_agg_wp 30 _ _ rfl (W.heap.size + 1) #[.int .i64 (n : Int), a7, b7, .slice none 0 0] rfl rfl 30 #[.int .i64 0, .slice none 0 0, .slice none 0 0, .slice none 0 0] HY7.out vec_size rfl (by simp [HONE7.out.1, HONE7.out.2]; exact ⟨rfl, rfl⟩) ?_
        intro w8 h8 k8
        refine hK.out _ _ ?_
        clear hK K
        (try simp only [Act.put, List.setIfInBounds_toArray, List.set_cons_zero, List.set_cons_succ])
        refine wpAnyT_done (by kernel_rfl) ?_ _
        go_wp2_with fail
        refine bodyPost_ret (results_cell_row rfl _ _ (W.heap.size + 1) 30 _ (0, 0) _ rfl h8 Try.underlying30 rfl vec_size) rfl ⟨_, rfl, ⟨by omega, by omega, HF.out.1, HF.out.2.1, _, _, _, rfl, .inr ⟨HF.out.2.2.1, ?_⟩, .inl ⟨rfl, rfl⟩⟩, HB7.out.trans (k8.below (by omega))⟩
        have hn := (node_but HN7.out k8 HY7.out (by decide) (by decide)).weak (S' := S0) (fun g hg => hg.elim id (fun h => HS0.out g (Nat.le_trans HB6.out.size h)))
        rw [HF.out.2.2.2.1] at hn
        rw [show levN (n - 0) - 1 = h by rw [Nat.sub_zero]; have := HLH.out; omega]
        exact hn
end Go.Proofs.Ytpjbhdplginbaaa
