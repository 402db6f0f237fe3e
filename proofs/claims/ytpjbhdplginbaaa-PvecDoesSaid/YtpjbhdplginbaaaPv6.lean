/- Package pvec: piece, Get. (written by tools/gen07/pv6.py) -/
import Derived.Test.YtpjbhdplginbaaaPv2
import Derived.Test.YtpjbhdplginbaaaPv5
namespace Go.Proofs.Ytpjbhdplginbaaa
open Go.RowKit
set_option maxRecDepth 1000000
set_option linter.unusedSimpArgs false

/-- A vector's four cells lie in a block. -/
theorem root_range {W : World} {X n : Nat} {a b v : Value} {T : TypeId} {fr : Nat × Nat} (h : W.heap[X]? = some (.cells #[.int .i64 (n : Int), a, b, v] T fr)) : W.rangeAt X 1 [a, b] := by
  intro j u hu
  match j, hu with
  | 0, hu => exact cell_in h hu
  | 1, hu => exact cell_in h hu
theorem base_step (h i : Nat) : i / 32 ^ (h + 2) * 32 ^ (h + 2) + i / 32 ^ (h + 1) % 32 * 32 ^ (h + 1) = i / 32 ^ (h + 1) * 32 ^ (h + 1) := by
  have e2 : 32 ^ (h + 2) = 32 ^ (h + 1) * 32 := Nat.pow_succ _ _
  rw [e2, ← Nat.div_div_eq_div_mul, show i / 32 ^ (h + 1) / 32 * (32 ^ (h + 1) * 32) = i / 32 ^ (h + 1) / 32 * 32 * 32 ^ (h + 1) by rw [Nat.mul_assoc, Nat.mul_comm 32], ← Nat.add_mul]
  congr 1
  omega
theorem kid_le (h i : Nat) : i / 32 ^ (h + 1) % 32 * 32 ^ (h + 1) + 32 ^ (h + 1) ≤ 32 ^ (h + 2) := by
  have e2 : 32 ^ (h + 2) = 32 ^ (h + 1) * 32 := Nat.pow_succ _ _
  have hk : i / 32 ^ (h + 1) % 32 + 1 ≤ 32 := Nat.mod_lt _ (by decide)
  have := Nat.mul_le_mul_right (32 ^ (h + 1)) hk
  rw [Nat.add_mul, Nat.one_mul] at this
  rw [e2, Nat.mul_comm _ 32]
  exact this
/-- What a leaf, or the tail, has about a place. -/
theorem base_tail {i n t : Nat} (h : (n - t) % 32 = 0) (h1 : n - t ≤ i) (h2 : i < n) (h3 : t ≤ 32) (h4 : t ≤ n) : i / 32 * 32 = n - t ∧ min 32 (n - i / 32 * 32) = t := by omega
theorem way_next {S : Nat → Prop} {W : World} {h i M : Nat} {a b : Value} {f : Nat → Int} (hi : i < M)
    (hn : NodeAt S W (h + 1) a b (fun j => f (i / 32 ^ (h + 2) * 32 ^ (h + 2) + j)) (min (32 ^ (h + 2)) (M - i / 32 ^ (h + 2) * 32 ^ (h + 2)))) :
    ∃ (g cnt c k : Nat) (F : Nat → Value), k = i / 32 ^ (h + 1) % 32 ∧ a = .slice (some ⟨g, 0, none⟩) cnt c ∧ k < cnt ∧ g < W.heap.size ∧ S g ∧ W.rangeAt g (k * 2) [F (2 * k), F (2 * k + 1)] ∧
      NodeAt S W h (F (2 * k)) (F (2 * k + 1)) (fun j => f (i / 32 ^ (h + 1) * 32 ^ (h + 1) + j)) (min (32 ^ (h + 1)) (M - i / 32 ^ (h + 1) * 32 ^ (h + 1))) := by
  obtain ⟨rfl, h0, hle, F, hr, hkid⟩ := hn
  have hB := pw_pos (h + 1)
  have hbs := base_step h i
  have hkl := kid_le h i
  have hdm := Nat.div_mul_le_self i (32 ^ (h + 1))
  have hlt : i / 32 ^ (h + 1) % 32 * 32 ^ (h + 1) < min (32 ^ (h + 2)) (M - i / 32 ^ (h + 2) * 32 ^ (h + 2)) := Nat.lt_min.2 ⟨by omega, by omega⟩
  obtain ⟨g, c, cs, fr, rfl, hc, hS, hg, hcs⟩ := hr.pos (Nat.lt_of_le_of_lt (Nat.zero_le _) ((cnt_of_lt hB).2 hlt))
  have hk := hkid _ hlt
  refine ⟨g, _, c, _, F, rfl, rfl, (cnt_of_lt hB).2 hlt, (Array.getElem?_eq_some_iff.1 hg).1, hS, kid_range hg hcs ((cnt_of_lt hB).2 hlt), ?_⟩
  have e : min (32 ^ (h + 1)) (min (32 ^ (h + 2)) (M - i / 32 ^ (h + 2) * 32 ^ (h + 2)) - i / 32 ^ (h + 1) % 32 * 32 ^ (h + 1)) = min (32 ^ (h + 1)) (M - i / 32 ^ (h + 1) * 32 ^ (h + 1)) := by omega
  rw [e] at hk
  refine hk.congr fun j _ => ?_
  show f (i / 32 ^ (h + 2) * 32 ^ (h + 2) + (i / 32 ^ (h + 1) % 32 * 32 ^ (h + 1) + j)) = f (i / 32 ^ (h + 1) * 32 ^ (h + 1) + j)
  rw [← Nat.add_assoc, hbs]
section
variable {S : Nat → Prop} {c : Array Value} {f : Nat → Int} {n t : Nat}
set_option maxHeartbeats 2000000 in
theorem pv_piece (W : World) (h : VecG S W c f n t) (i : Nat) (hi : i < n) : Calls Try.prog 29 #[.agg c, .int .i64 (i : Int)] W fun e W' => ∃ v', e = .returned v' ∧ RunAt S W' 3 1 v' (fi fun j => f (i / 32 * 32 + j)) (min 32 (n - i / 32 * 32)) ∧ Below W.heap.size W W' := by
  have HO := Lib.hid (pv_others (W.alloc (.cells c 30)) (h.later (Below.newly' _ _)))
  have HV := Lib.hid h
  obtain ⟨a, b, v, cp, rfl, hc, h1, h2, h3, h4, h6, h7⟩ := h.laid
  have HX1 := Lib.hid (heap_alloc_last W (.cells #[.int .i64 (n : Int), a, b, .slice v t cp] 30))
  have HB1 := Lib.hid (Below.newly' W (.cells #[.int .i64 (n : Int), a, b, .slice v t cp] 30))
  by_cases hM : n - t ≤ i
  · have hM' : (((n - t : Nat) : Int) ≤ (i : Int)) := by omega
    obtain ⟨e1, e2⟩ := base_tail h3 hM hi h2 h1
    have HT : Hid (RunAt S W 3 1 (.slice v t cp) (fi fun j => f (i / 32 * 32 + j)) (min 32 (n - i / 32 * 32))) := by
      show RunAt _ _ _ _ _ _ _
      rw [e2, e1]
      exact h7
    obtain ⟨M, hMe⟩ : ∃ M, M = n - t := ⟨_, rfl⟩
    rw [← hMe] at HO hM'
    clear h h1 h2 h3 h4 h6 h7 hM e1 e2 hMe hi hc
    go_enter Try.func29, Try.ntmps29
    go_wp2_with (first
      | (refine ld_if rfl 30 _ rfl W.heap.size rfl 30 _ _ _ HX1.out Try.underlying30 rfl vec_size ?_)
      | (go_at_call 35; refine HO.out.mono ?_; rintro e w2 ⟨rfl, hb⟩; have HB2 := Lib.hid (HB1.out.trans (hb.mono (by simp))); have c2 : w2.cell? ⟨W.heap.size, 3, none⟩ = some (.slice v t cp) := cell_in ((hb.block _ (by simp)).trans HX1.out) rfl; clear hb))
    go_ret
    exact ⟨_, rfl, HT.out.later HB2.out, HB2.out⟩
  · have hM' : ¬ (((n - t : Nat) : Int) ≤ (i : Int)) := by omega
    have HLEV := Lib.hid (fun w (hb : Below W.heap.size W w) => pv_Levels w (HV.out.later hb))
    obtain ⟨M, hMe⟩ : ∃ M, M = n - t := ⟨_, rfl⟩
    rw [← hMe] at HO hM' HLEV h6 h3
    have hiM : i < M := by omega
    have hM6 : M ≤ 1048576 := by omega
    have hroot : NodeAt S W (levN M - 1) a b f M := by
      rcases h6 with ⟨h0, _⟩ | ⟨_, h⟩
      · omega
      · exact h
    have hlp := lev_pos (show 0 < M by omega)
    obtain ⟨L, hL⟩ : ∃ L, L = levN M - 1 := ⟨_, rfl⟩
    have hL4 : L ≤ 3 := by have := lev_le M; omega
    have hLe : levN M = L + 1 := by omega
    have hroom := lev_room hM6
    rw [hLe] at hroom HLEV
    have hdiv0 : i / 32 ^ (L + 1) = 0 := Nat.div_eq_of_lt (by omega)
    rw [← hL] at hroot
    have HROOT : Hid (NodeAt (fun g => S g ∧ g < W.heap.size) W L a b (fun j => f (i / 32 ^ (L + 1) * 32 ^ (L + 1) + j)) (min (32 ^ (L + 1)) (M - i / 32 ^ (L + 1) * 32 ^ (L + 1)))) := by
      show NodeAt _ _ _ _ _ _ _
      rw [hdiv0, Nat.zero_mul, Nat.sub_zero, Nat.min_eq_right hroom]
      exact hroot.old.congr fun j _ => by rw [Nat.zero_add]
    have HONE := Lib.hid hroot.one
    have HIM := Lib.hid hiM
    have HI := Lib.hid hi
    have HMN : Hid (i / 32 * 32 + 32 ≤ n) := by show _ ≤ _; omega
    obtain ⟨l1, hl1⟩ : ∃ l1, l1 = L + 1 := ⟨_, rfl⟩
    rw [← hl1] at HLEV
    have HL1 := Lib.hid (And.intro hl1 hL4)
    clear h h1 h2 h3 h4 h6 h7 hM hMe hi hc hroot hiM hM6 hlp hL hL4 hLe hroom hdiv0 hl1
    go_enter Try.func29, Try.ntmps29
    go_wp2_with (first
      | (refine ld_if rfl 30 _ rfl W.heap.size rfl 30 _ _ _ HX1.out Try.underlying30 rfl vec_size ?_)
      | (go_at_call 35; refine HO.out.mono ?_; rintro e w2 ⟨rfl, hb⟩; have HX2 := Lib.hid ((hb.block _ (by simp)).trans HX1.out); have HB2 := Lib.hid (HB1.out.trans (hb.mono (by simp))); clear hb)
      | (refine wpList_load_mid rfl 28 _ rfl W.heap.size 1 rfl [a, b] _ (root_range HX2.out) Try.underlying28 rfl node_size ?_)
      | (refine st_agg rfl 28 _ _ rfl w2.heap.size #[a, b] rfl rfl 28 #[.slice none 0 0, .slice none 0 0] (heap_alloc_last w2 _) node_size rfl (by simp [HONE.out.1, HONE.out.2]) ?_; intro w3 h3 k3; have HY3 := Lib.hid h3; have HX3 := Lib.hid (k3.other (((Below.newly' w2 _).block _ (Array.getElem?_eq_some_iff.1 HX2.out).1).trans HX2.out) (by have := (Array.getElem?_eq_some_iff.1 HX2.out).1; omega)); have HB3 := Lib.hid ((HB2.out.alloc HB2.out.size _).trans (k3.below (by have := HB2.out.size; omega))); clear h3 k3)
      | (refine ld_if rfl 30 _ rfl W.heap.size rfl 30 _ _ _ HX3.out Try.underlying30 rfl vec_size ?_)
      | (go_at_call 22; refine (HLEV.out _ HB3.out).mono ?_; rintro e w4 ⟨rfl, hb⟩; have HY4 := Lib.hid ((hb.block _ (Array.getElem?_eq_some_iff.1 HY3.out).1).trans HY3.out); have HB4 := Lib.hid (HB3.out.trans (hb.mono HB3.out.size)); clear hb))
    have HWY : Hid (W.heap.size ≤ w2.heap.size) := HB2.out.size
    obtain ⟨Y, hY⟩ : ∃ Y, Y = w2.heap.size := ⟨_, rfl⟩
    rw [← hY] at HWY HY4 ⊢
    clear hY HY3 HX3 HB3 HX2 HB2
    go_loopw [6] (fun lv wl => ∃ (l h : Nat) (a b : Value), lv = .int .i64 (l : Int) ∧ (l = h + 1 ∧ h ≤ 3) ∧ wl.heap[Y]? = some (.cells #[a, b] 28 (0, 0)) ∧ NodeAt (fun g => S g ∧ g < W.heap.size) wl h a b (fun j => f (i / 32 ^ (h + 1) * 32 ^ (h + 1) + j)) (min (32 ^ (h + 1)) (M - i / 32 ^ (h + 1) * 32 ^ (h + 1))) ∧ Below W.heap.size W wl) (fun lv _ => (intOf lv).toNat)
    case atStart => exact ⟨l1, L, a, b, rfl, HL1.out, HY4.out, HROOT.out.later HB4.out, HB4.out⟩
    case round =>
      clear HROOT HB4 HY4 HONE HL1
      obtain ⟨l, h, a5, b5, rfl, hl, hy, hn, hb⟩ := hrel
      have HY5 := Lib.hid hy
      have HN5 := Lib.hid hn
      have HB5 := Lib.hid hb
      have HL := Lib.hid hl
      clear hy hn hb hl
      by_cases h1 : 1 < (l : Int)
      · cases h with
        | zero => exact absurd h1 (by have := HL.out; omega)
        | succ h =>
          obtain ⟨g, cnt, cc, k, F, hk, rfl, hkc, hgW, hSg, hrg, hkn⟩ := way_next HIM.out HN5.out
          have HWAY := Lib.hid (pv_way (h + 1) i (by have := HL.out; omega))
          rw [← hk, show h + 1 + 1 = l from HL.out.1.symm] at HWAY
          have HR6 : Hid (wr.drew.rangeAt g (k * 2) [F (2 * k), F (2 * k + 1)]) := range_later hrg (drawn_below wr)
          have HK6 : Hid (wr.drew.cell? ⟨Y, 0, none⟩ = some (.slice (some ⟨g, 0, none⟩) cnt cc)) := cell_in (W := wr) HY5.out rfl
          have HY6 : Hid (wr.drew.heap[Y]? = some (.cells #[.slice (some ⟨g, 0, none⟩) cnt cc, b5] 28 (0, 0))) := HY5.out
          have HN6 := Lib.hid (hkn.later (drawn_below wr))
          have HB6 := Lib.hid (HB5.out.trans ((drawn_below wr).mono HB5.out.size))
          have HONE := Lib.hid hkn.one
          have hkc' : (k : Int) < cnt := by omega
          have hk0 : 0 ≤ (k : Int) := by omega
          have hl8 : (l : Int) ≤ 8 := by have := HL.out; omega
          clear hk hkc hgW hSg hrg hkn
          go_upto_region 7 with fail
          refine wp_region_T (S := fun V => V.cell? ⟨Y, 0, none⟩ = some (.slice (some ⟨g, 0, none⟩) cnt cc) ∧ V.rangeAt g (k * 2) [F (2 * k), F (2 * k + 1)]) [7] (by kernel_rfl) (by exact ⟨HK6.out, HR6.out⟩) (fun hHeld => ?_)
          refine wpAnyT_take (i := 0) (oi := ⟨some 21, _, _, _, _, _⟩) (v := ?vg1_0) rfl (by kernel_rfl) (by kernel_rfl) (by kernel_rfl) (by kernel_rfl) (fun _ _ _ h => h) (Or.inl ⟨by rfl, ?hg1_0⟩) (by assumption) ?rg1_0
          case hg1_0 => (intro w hSw; (try dsimp only at hSw); first | (go_simp; done) | (go_simp; with_reducible rfl))
          (try simp only [Act.put, List.setIfInBounds_toArray, List.set_cons_zero, List.set_cons_succ])
          refine wpAnyT_take (i := 1) (oi := ⟨some 22, _, _, _, _, _⟩) (v := ?vg1_1) rfl (by kernel_rfl) (by kernel_rfl) (by kernel_rfl) (by kernel_rfl) (fun _ _ _ h => h) (Or.inl ⟨by rfl, ?hg1_1⟩) (by assumption) ?rg1_1
          case hg1_1 => (intro w hSw; (try dsimp only at hSw); first | (go_simp; done) | (go_simp; with_reducible rfl))
          (try simp only [Act.put, List.setIfInBounds_toArray, List.set_cons_zero, List.set_cons_succ])
          refine wpAnyT_take (i := 2) (oi := ⟨some 23, _, _, _, _, _⟩) (v := ?vg1_2) rfl (by kernel_rfl) (by kernel_rfl) (by kernel_rfl) (by kernel_rfl) (fun _ _ _ h => h) (Or.inl ⟨by rfl, ?hg1_2⟩) (by assumption) ?rg1_2
          case hg1_2 => (intro w hSw; (try dsimp only at hSw); first | (go_simp; done) | (go_simp; with_reducible rfl))
          (try simp only [Act.put, List.setIfInBounds_toArray, List.set_cons_zero, List.set_cons_succ])
          refine wpAnyT_take (i := 3) (oi := ⟨some 24, _, _, _, _, _⟩) (v := ?vg1_3) rfl (by kernel_rfl) (by kernel_rfl) (by kernel_rfl) (by kernel_rfl) (fun _ _ _ h => h) (Or.inl ⟨by rfl, ?hg1_3⟩) (by assumption) ?rg1_3
          case hg1_3 => (intro w hSw; (try dsimp only at hSw); first | (go_simp; done) | (go_simp; with_reducible rfl))
          (try simp only [Act.put, List.setIfInBounds_toArray, List.set_cons_zero, List.set_cons_succ])
          refine wpAnyT_takeC (i := 4) (oi := ⟨some 25, _, _, _, _, _⟩) (v := .int .i64 (k : Int)) rfl (by kernel_rfl) (by kernel_rfl) (by kernel_rfl) (by kernel_rfl) (fun _ _ _ h => h) ⟨by rfl, fun w hSw => ⟨39, #[.int .i64 (l : Int), .int .i64 (i : Int)], ?hg1_4, HWAY.out w⟩⟩ (by assumption) ?rg1_4
          case hg1_4 => go_simp
          (try simp only [Act.put, List.setIfInBounds_toArray, List.set_cons_zero, List.set_cons_succ])
          refine wpAnyT_take (i := 5) (oi := ⟨some 26, _, _, _, _, _⟩) (v := ?vg1_5) rfl (by kernel_rfl) (by kernel_rfl) (by kernel_rfl) (by kernel_rfl) (fun _ _ _ h => h) (Or.inl ⟨by rfl, ?hg1_5⟩) (by assumption) ?rg1_5
          case hg1_5 => (intro w hSw; (try dsimp only at hSw); first | (go_simp; done) | (go_simp; with_reducible rfl))
          (try simp only [Act.put, List.setIfInBounds_toArray, List.set_cons_zero, List.set_cons_succ])
          refine wpAnyT_take (i := 6) (oi := ⟨some 27, _, _, _, _, _⟩) (v := _) rfl (by kernel_rfl) (by kernel_rfl) (by kernel_rfl) (by kernel_rfl) (fun _ _ _ h => h) (yieldsIf_load_mid (by rfl) 28 _ rfl g (k * 2) rfl [F (2 * k), F (2 * k + 1)] _ (fun w hw => hw.2) Try.underlying28 rfl node_size) (by assumption) ?_
          (try simp only [Act.put, List.setIfInBounds_toArray, List.set_cons_zero, List.set_cons_succ])
          refine wpAnyT_last (i := 7) (o := ⟨none, _, _, _, _, _⟩) (by kernel_rfl) (by decide) rfl (fun K hK => ?_)
          refine st_agg_wp 28 _ _ rfl Y #[F (2 * k), F (2 * k + 1)] rfl rfl 28 #[.slice (some ⟨g, 0, none⟩) cnt cc, b5] HY6.out node_size rfl (by simp [HONE.out.1, HONE.out.2]) ?_
          intro w7 h7 k7
          have HY7 := Lib.hid h7
          have HN7 := Lib.hid (HN6.out.kept k7.by_ (fun X e => by cases e; have := HWY.out; omega))
          have HB7 := Lib.hid (HB6.out.trans (k7.below HWY.out))
          clear h7 k7
          refine hK.out _ _ ?_
          clear hK K
          (try simp only [Act.put, List.setIfInBounds_toArray, List.set_cons_zero, List.set_cons_succ])
          refine wpAnyT_done (by kernel_rfl) ?_ _
          go_wp2_with fail
          go_roundw
          case rel => exact ⟨l - 1, h, _, _, by congr 1; omega, by have := HL.out; omega, HY7.out, HN7.out, HB7.out⟩
          case measure => simp [intOf]; omega
      · obtain rfl : h = 0 := by have := HL.out; omega
        obtain ⟨_, hm, hr⟩ := HN5.out
        obtain ⟨av, cv, rfl, _⟩ := hr.shape
        have c5 : wr.cell? ⟨Y, 1, none⟩ = some (.slice av 32 cv) := cell_in HY5.out rfl
        have HR := Lib.hid hr
        clear hr hm
        go_wp2_with fail
        go_ret
        refine ⟨_, rfl, ?_, HB5.out⟩
        have := HMN.out
        rw [Nat.min_eq_left (by omega)]
        have e1 : (32 : Nat) ^ (0 + 1) = 32 := rfl
        have hr := HR.out
        rw [e1] at hr
        exact hr.weak fun g hg => hg.1
/-- What is asked of a vector at a place. -/
def getF (f : Nat → Int) (n : Nat) (i : Int) : Int × Bool := if 0 ≤ i ∧ i < n then (f i.toNat, true) else (0, false)
set_option maxHeartbeats 2000000 in
theorem pv_Get (W : World) (h : VecG S W c f n t) (i : Int) : Calls Try.prog 11 #[.agg c, .int .i64 i] W fun e W' => e = .returned (.tuple #[.int .i64 (getF f n i).1, .bool (getF f n i).2]) ∧ Below W.heap.size W W' := by
  have HV := Lib.hid h
  have HH := Lib.hid (pv_has (W.alloc (.cells c 30)) (h.later (Below.newly' _ _)) i)
  have HX1 := Lib.hid (heap_alloc_last W (.cells c 30))
  have HB1 := Lib.hid (Below.newly' W (.cells c 30))
  have HS := Lib.hid h.size
  clear h
  by_cases hi : 0 ≤ i ∧ i < n
  · rw [show decide (0 ≤ i ∧ i < n) = true by simp [hi]] at HH
    rw [show getF f n i = (f i.toNat, true) by simp [getF, hi]]
    obtain ⟨j, rfl⟩ : ∃ j : Nat, i = (j : Int) := ⟨i.toNat, by omega⟩
    have hj : j < n := by omega
    have HP := Lib.hid (fun w (hb : Below W.heap.size W w) => pv_piece w (HV.out.later hb) j hj)
    have HE : Hid (j / 32 * 32 + j % 32 = j) := by show _ = _; omega
    obtain ⟨r, hr⟩ : ∃ r, r = j % 32 := ⟨_, rfl⟩
    have hr2 : (j : Int) % 32 = (r : Int) := by omega
    have hrm : r < min 32 (n - j / 32 * 32) := by rw [Nat.lt_min]; omega
    rw [← hr] at HE
    obtain ⟨m, hm⟩ : ∃ m, m = min 32 (n - j / 32 * 32) := ⟨_, rfl⟩
    rw [← hm] at HP hrm
    have hrm' : (r : Int) < m := by omega
    have hr0 : (0 : Int) ≤ (r : Int) := by omega
    have HRM := Lib.hid hrm
    clear hi hj hr hm hrm
    go_enter Try.func11, Try.ntmps11
    go_wp2_with (first
      | (refine ld_if rfl 30 _ rfl W.heap.size rfl 30 _ _ _ HX1.out Try.underlying30 rfl (by rw [HS.out]; exact vec_size) ?_)
      | (go_at_call 28; refine HH.out.mono ?_; rintro e w2 ⟨rfl, hb⟩; have HX2 := Lib.hid ((hb.block _ (by simp)).trans HX1.out); have HB2 := Lib.hid (HB1.out.trans (hb.mono (by simp))); clear hb)
      | (refine ld_if rfl 30 _ rfl W.heap.size rfl 30 _ _ _ HX2.out Try.underlying30 rfl (by rw [HS.out]; exact vec_size) ?_)
      | (go_at_call 29; refine (HP.out _ HB2.out).mono ?_; rintro e w3 ⟨v', rfl, hr3, hb⟩; have HB3 := Lib.hid (HB2.out.trans (hb.mono HB2.out.size)); obtain ⟨g3, c3, cs3, fr3, rfl, hc3, _, hg3, hcs3⟩ := hr3.pos (by have := HRM.out; omega); have q3 : w3.cell? ⟨g3, r, none⟩ = some (.int .i64 (f (j / 32 * 32 + r))) := cell_in hg3 (hcs3 r (by have := HRM.out; omega)); clear hb hr3 hg3 hcs3))
    go_ret2
    refine ⟨?_, HB3.out⟩
    rw [HE.out]
    rfl
  · rw [show decide (0 ≤ i ∧ i < n) = false by simp [hi]] at HH
    rw [show getF f n i = (0, false) by simp [getF, hi]]
    clear hi
    go_enter Try.func11, Try.ntmps11
    go_wp2_with (first
      | (refine ld_if rfl 30 _ rfl W.heap.size rfl 30 _ _ _ HX1.out Try.underlying30 rfl (by rw [HS.out]; exact vec_size) ?_)
      | (go_at_call 28; refine HH.out.mono ?_; rintro e w2 ⟨rfl, hb⟩; have HB2 := Lib.hid (HB1.out.trans (hb.mono (by simp))); clear hb))
    go_ret2
    exact ⟨rfl, HB2.out⟩
end
end Go.Proofs.Ytpjbhdplginbaaa
