/- Package pvec: trie. (written by tools/gen07/pv7.py) -/
import Derived.Test.YtpjbhdplginbaaaPv4
import Derived.Test.YtpjbhdplginbaaaPv6
import Derived.Test.YtpjbhdplginbaaaPv3
namespace Go.Proofs.Ytpjbhdplginbaaa
open Go.RowKit
set_option maxRecDepth 1000000
set_option linter.unusedSimpArgs false

section
variable {S : Nat → Prop} {c : Array Value} {f : Nat → Int} {n t : Nat}
theorem TrieAt.one {W : World} {a b : Value} {m : Nat} (h : TrieAt S W a b f m) : a.oneCell' = true ∧ b.oneCell' = true := by
  obtain ⟨⟨_, _, _, rfl⟩, _, _, _, rfl⟩ := h.shape
  exact ⟨rfl, rfl⟩
/-- The first kid of a node. -/
theorem first_kid {W : World} {h m : Nat} {a b : Value} (hn : NodeAt S W (h + 1) a b f m) : ∃ (g cnt c : Nat) (F : Nat → Value), a = .slice (some ⟨g, 0, none⟩) cnt c ∧ 0 < cnt ∧ W.rangeAt g 0 [F 0, F 1] ∧ NodeAt S W h (F 0) (F 1) f (min (32 ^ (h + 1)) m) := by
  obtain ⟨rfl, h0, hle, F, hr, hkid⟩ := hn
  have hB := pw_pos (h + 1)
  have hc0 : 0 < (m + 32 ^ (h + 1) - 1) / 32 ^ (h + 1) := (cnt_of_lt hB).2 (by omega)
  obtain ⟨g, c, cs, fr, rfl, hc, hS, hg, hcs⟩ := hr.pos hc0
  have hk := hkid 0 (by omega)
  rw [Nat.zero_mul, Nat.sub_zero] at hk
  have hrg := kid_range hg hcs hc0
  exact ⟨g, _, c, F, rfl, hc0, by simpa using hrg, hk.congr fun j _ => by simp⟩
set_option maxHeartbeats 2000000 in
theorem pv_trie (W : World) (h : VecG S W c f n t) (m : Nat) (hm : m ≤ n - t) (hm32 : m % 32 = 0) : Calls Try.prog 38 #[.agg c, .int .i64 (m : Int)] W fun e W' => ∃ a' b', e = .returned (.agg #[a', b']) ∧ TrieAt (fun _ => True) W' a' b' f m ∧ Below W.heap.size W W' := by
  have HV := Lib.hid h
  obtain ⟨a, b, v, cp, rfl, hc, h1, h2, h3, h4, h6, h7⟩ := h.laid
  obtain ⟨w2, hw2⟩ : ∃ w2, (W.alloc (.cells #[.int .i64 (n : Int), a, b, .slice v t cp] 30)).alloc (.cells #[.slice none 0 0, .slice none 0 0] 28) = w2 := ⟨_, rfl⟩
  obtain ⟨hb2, hx2, hy2, hs2⟩ := pair_new hw2
  have HB2 := Lib.hid hb2
  have HX2 := Lib.hid hx2
  have HY2 := Lib.hid hy2
  have HS2 := Lib.hid hs2
  clear hb2 hx2 hy2 hs2
  have HO := Lib.hid (pv_others w2 (HV.out.later HB2.out))
  have HTR := Lib.hid h6.old
  have HONE := Lib.hid h6.one
  by_cases hM : m = n - t
  · subst hM
    obtain ⟨M, hMe⟩ : ∃ M, M = n - t := ⟨_, rfl⟩
    rw [← hMe] at HO HTR ⊢
    clear h hm hm32 h1 h2 h3 h4 h6 h7 hMe hc
    go_enter Try.func38, Try.ntmps38
    go_upto_region 1 with fail
    clear hw2
    go_wp2_with (first
      | (refine ld_if rfl 30 _ rfl W.heap.size rfl 30 _ _ _ HX2.out Try.underlying30 rfl vec_size ?_)
      | (go_at_call 35; refine HO.out.mono ?_; rintro e w3 ⟨rfl, hb⟩; have HX3 := Lib.hid ((hb.block _ (Array.getElem?_eq_some_iff.1 HX2.out).1).trans HX2.out); have HY3 := Lib.hid ((hb.block _ (Array.getElem?_eq_some_iff.1 HY2.out).1).trans HY2.out); have HB3 := Lib.hid (HB2.out.trans (hb.mono HB2.out.size)); clear hb)
      | (refine wpList_load_mid rfl 28 _ rfl W.heap.size 1 rfl [a, b] _ (root_range HX3.out) Try.underlying28 rfl node_size ?_)
      | (refine st_agg rfl 28 _ _ rfl (W.heap.size + 1) #[a, b] rfl rfl 28 #[.slice none 0 0, .slice none 0 0] HY3.out node_size rfl (by first | (simp [HONE.out.1, HONE.out.2]; done) | simp [Value.oneCell']) ?_; intro w4 h4 k4))
    refine bodyPost_ret (results_cell_row rfl _ _ (W.heap.size + 1) 28 _ (0, 0) _ rfl h4 Try.underlying28 rfl node_size) rfl ⟨_, _, rfl, ?_, HB3.out.trans (k4.below (by omega))⟩
    exact ((HTR.out.later HB3.out).kept k4.by_ (fun X e => by cases e; omega)).weak fun _ _ => trivial
  · have hM' : ((m : Int) == ((n - t : Nat) : Int)) = false := beq_eq_false_iff_ne.2 (by omega)
    by_cases h0 : m = 0
    · subst h0
      obtain ⟨M, hMe⟩ : ∃ M, M = n - t := ⟨_, rfl⟩
      rw [← hMe] at HO hM'
      clear h hm hm32 h1 h2 h3 h4 h6 h7 hMe hc hM
      go_enter Try.func38, Try.ntmps38
      go_upto_region 1 with fail
      clear hw2
      go_wp2_with (first
        | (refine ld_if rfl 30 _ rfl W.heap.size rfl 30 _ _ _ HX2.out Try.underlying30 rfl vec_size ?_)
        | (go_at_call 35; refine HO.out.mono ?_; rintro e w3 ⟨rfl, hb⟩; have HX3 := Lib.hid ((hb.block _ (Array.getElem?_eq_some_iff.1 HX2.out).1).trans HX2.out); have HY3 := Lib.hid ((hb.block _ (Array.getElem?_eq_some_iff.1 HY2.out).1).trans HY2.out); have HB3 := Lib.hid (HB2.out.trans (hb.mono HB2.out.size)); clear hb)
        | (refine st_agg rfl 28 _ _ rfl (W.heap.size + 1) #[.slice none 0 0, .slice none 0 0] rfl rfl 28 #[.slice none 0 0, .slice none 0 0] HY3.out node_size rfl (by first | (simp [HONE.out.1, HONE.out.2]; done) | simp [Value.oneCell']) ?_; intro w4 h4 k4))
      refine bodyPost_ret (results_cell_row rfl _ _ (W.heap.size + 1) 28 _ (0, 0) _ rfl h4 Try.underlying28 rfl node_size) rfl ⟨_, _, rfl, ?_, HB3.out.trans (k4.below (by omega))⟩
      exact .inl ⟨rfl, rfl, rfl⟩
    · have h0' : ((m : Int) == 0) = false := beq_eq_false_iff_ne.2 (by omega)
      have HLEV := Lib.hid (fun w (hb : Below W.heap.size W w) => pv_Levels w (HV.out.later hb))
      have HLM := Lib.hid (pv_levels m hm32 (by omega))
      obtain ⟨M, hMe⟩ : ∃ M, M = n - t := ⟨_, rfl⟩
      rw [← hMe] at HO hM' HLEV h6 hm hM
      have hM6 : M ≤ 1048576 := by omega
      have hroot : NodeAt S W (levN M - 1) a b f M := by
        rcases h6 with ⟨h0, _⟩ | ⟨_, h⟩
        · omega
        · exact h
      have HROOT := Lib.hid hroot.old
      obtain ⟨L, hL⟩ : ∃ L, L = levN M := ⟨_, rfl⟩
      obtain ⟨l, hl⟩ : ∃ l, l = levN m := ⟨_, rfl⟩
      have hlm : m ≤ 32 ^ l := by rw [hl]; exact lev_room (by omega)
      have hlL : l ≤ L := by rw [hl, hL]; exact lev_mono hm
      have hl1 : 1 ≤ l := by rw [hl]; exact lev_pos (by omega)
      have hL4 : L ≤ 4 := by rw [hL]; exact lev_le M
      rw [← hL] at HLEV HROOT
      rw [← hl] at HLM
      have HF := Lib.hid (show m ≤ 32 ^ l ∧ l ≤ L ∧ 1 ≤ l ∧ L ≤ 4 ∧ l = levN m ∧ 0 < m ∧ m ≤ M from ⟨hlm, hlL, hl1, hL4, hl, by omega, hm⟩)
      have HM32 := Lib.hid hm32
      have hl8 : (l : Int) ≤ 8 := by omega
      have hL8 : (L : Int) ≤ 8 := by omega
      have hlL8 : (l : Int) ≤ (L : Int) := by omega
      have hm1 : 1 ≤ (m : Int) := by omega
      have hm6 : (m : Int) ≤ 1048576 := by omega
      clear h hm hm32 h1 h2 h3 h4 h6 h7 hMe hc hM h0 hM6 hroot hL hl hlm hlL hl1 hL4
      go_enter Try.func38, Try.ntmps38
      go_upto_region 1 with fail
      clear hw2
      go_upto_region 5 with (first
        | (refine ld_if rfl 30 _ rfl W.heap.size rfl 30 _ _ _ HX2.out Try.underlying30 rfl vec_size ?_)
        | (go_at_call 35; refine HO.out.mono ?_; rintro e w3 ⟨rfl, hb⟩; have HX3 := Lib.hid ((hb.block _ (Array.getElem?_eq_some_iff.1 HX2.out).1).trans HX2.out); have HY3 := Lib.hid ((hb.block _ (Array.getElem?_eq_some_iff.1 HY2.out).1).trans HY2.out); have HB3 := Lib.hid (HB2.out.trans (hb.mono HB2.out.size)); clear hb))
      have HX4 : Hid (w3.drew.heap[W.heap.size]? = some (.cells #[.int .i64 (n : Int), a, b, .slice v t cp] 30 (0, 0))) := HX3.out
      have HY4 : Hid (w3.drew.heap[W.heap.size + 1]? = some (.cells #[.slice none 0 0, .slice none 0 0] 28 (0, 0))) := HY3.out
      have HB4 := Lib.hid (HB3.out.trans ((drawn_below w3).mono HB3.out.size))
      refine wp_region_T (S := fun V => V.rangeAt W.heap.size 1 [a, b]) [5, 6] (by kernel_rfl) (by first | exact root_range HX4.out | exact range_later (root_range HX4.out) (Below.newly' _ _)) (fun hHeld => ?_)
      refine wpAnyT_take (i := 0) (oi := ⟨some 16, _, _, _, _, _⟩) (v := ?vg1_0) rfl (by kernel_rfl) (by kernel_rfl) (by kernel_rfl) (by kernel_rfl) (fun _ _ _ h => h) (Or.inl ⟨by rfl, ?hg1_0⟩) (by assumption) ?rg1_0
      case hg1_0 => (intro w hSw; (try dsimp only at hSw); first | (go_simp; done) | (go_simp; with_reducible rfl))
      (try simp only [Act.put, List.setIfInBounds_toArray, List.set_cons_zero, List.set_cons_succ])
      refine wpAnyT_take (i := 1) (oi := ⟨some 17, _, _, _, _, _⟩) (v := _) rfl (by kernel_rfl) (by kernel_rfl) (by kernel_rfl) (by kernel_rfl) (fun _ _ _ h => h) (yieldsIf_load_mid (by rfl) 28 _ rfl W.heap.size 1 rfl [a, b] _ (fun w hw => hw) Try.underlying28 rfl node_size) (by assumption) ?_
      (try simp only [Act.put, List.setIfInBounds_toArray, List.set_cons_zero, List.set_cons_succ])
      refine wpAnyT_take (i := 2) (oi := ⟨some 18, _, _, _, _, _⟩) (v := ?vg1_2) rfl (by kernel_rfl) (by kernel_rfl) (by kernel_rfl) (by kernel_rfl) (fun _ _ _ h => h) (Or.inl ⟨by rfl, ?hg1_2⟩) (by assumption) ?rg1_2
      case hg1_2 => (intro w hSw; (try dsimp only at hSw); first | (go_simp; done) | (go_simp; with_reducible rfl))
      (try simp only [Act.put, List.setIfInBounds_toArray, List.set_cons_zero, List.set_cons_succ])
      refine wpAnyT_takeC (i := 3) (oi := ⟨some 19, _, _, _, _, _⟩) (v := .int .i64 (l : Int)) rfl (by kernel_rfl) (by kernel_rfl) (by kernel_rfl) (by kernel_rfl) (fun _ _ _ h => h) ⟨by rfl, fun w hSw => ⟨34, #[.int .i64 (m : Int)], ?hg1_3, HLM.out w⟩⟩ (by assumption) ?rg1_3
      case hg1_3 => go_simp
      (try simp only [Act.put, List.setIfInBounds_toArray, List.set_cons_zero, List.set_cons_succ])
      refine wpAnyT_one (i := 4) (o := ⟨some 5, _, _, _, _, _⟩) (by kernel_rfl) rfl (fun K hK => ?_)
      go_simp
      refine hK.out _ _ (by first | exact root_range HX4.out | exact range_later (root_range HX4.out) (Below.newly' _ _)) (fun hHeld => ?_)
      clear hK K
      (try simp only [Act.put, List.setIfInBounds_toArray, List.set_cons_zero, List.set_cons_succ])
      refine wpAnyT_last (i := 5) (o := ⟨none, _, _, _, _, _⟩) (by kernel_rfl) (by decide) rfl (fun K hK => ?_)
      refine st_agg_wp 28 _ _ rfl w3.drew.heap.size #[a, b] rfl rfl 28 #[.slice none 0 0, .slice none 0 0] (heap_alloc_last w3.drew _) node_size rfl (by simp [HONE.out.1, HONE.out.2]) ?_
      intro w6 h6 k6
      have hlt := (Array.getElem?_eq_some_iff.1 HX4.out).1
      have hlt2 := (Array.getElem?_eq_some_iff.1 HY4.out).1
      have HZ6 := Lib.hid h6
      have HX6 := Lib.hid (k6.other (((Below.newly' w3.drew _).block _ hlt).trans HX4.out) (by omega))
      have HY6 := Lib.hid (k6.other (((Below.newly' w3.drew _).block _ hlt2).trans HY4.out) (by omega))
      have HB6 := Lib.hid ((HB4.out.alloc HB4.out.size _).trans (k6.below (by omega)))
      have HYZ : Hid (W.heap.size + 1 < w3.drew.heap.size) := hlt2
      clear h6 k6 hlt hlt2
      refine hK.out _ _ ?_
      clear hK K
      (try simp only [Act.put, List.setIfInBounds_toArray, List.set_cons_zero, List.set_cons_succ])
      refine wpAnyT_last (i := 6) (o := ⟨some 6, _, _, _, _, _⟩) (by kernel_rfl) (by decide) rfl (fun K hK => ?_)
      go_simp
      refine hK.out _ _ ?_
      clear hK K
      (try simp only [Act.put, List.setIfInBounds_toArray, List.set_cons_zero, List.set_cons_succ])
      refine wpAnyT_done (by kernel_rfl) ?_ _
      obtain ⟨Z, hZ⟩ : ∃ Z, Z = w3.drew.heap.size := ⟨_, rfl⟩
      rw [← hZ] at HZ6 HYZ
      go_wp2_with (first
        | (refine ld_if rfl 30 _ rfl W.heap.size rfl 30 _ _ _ HX6.out Try.underlying30 rfl vec_size ?_)
        | (go_at_call 22; refine (HLEV.out _ HB6.out).mono ?_; rintro e w7 ⟨rfl, hb⟩; have HY7 := Lib.hid ((hb.block _ (Array.getElem?_eq_some_iff.1 HY6.out).1).trans HY6.out); have HZ7 := Lib.hid ((hb.block _ (Array.getElem?_eq_some_iff.1 HZ6.out).1).trans HZ6.out); have HB7 := Lib.hid (HB6.out.trans (hb.mono HB6.out.size)); clear hb))
      (try rw [← hZ])
      (try rw [show w3.heap.size = Z from hZ.symm])
      clear hZ HB6 HX6 HY6 HZ6 HB4 HX4 HY4 HB3 HX3 HY3 HO HX2 HB2 HY2
      go_loopw [24] (fun iv wl => ∃ (j h m' : Nat) (a b : Value), iv = .int .i64 (j : Int) ∧ (h + 1 + j = L ∧ l ≤ h + 1 ∧ m ≤ m') ∧ wl.heap[Z]? = some (.cells #[a, b] 28 (0, 0)) ∧ wl.heap[W.heap.size + 1]? = some (.cells #[.slice none 0 0, .slice none 0 0] 28 (0, 0)) ∧ NodeAt (fun g => S g ∧ g < W.heap.size) wl h a b f m' ∧ Below W.heap.size W wl) (fun iv _ => L - (intOf iv).toNat)
      case atStart => exact ⟨0, L - 1, M, a, b, rfl, by have := HF.out; omega, HZ7.out, HY7.out, HROOT.out.later HB7.out, HB7.out⟩
      case round =>
        clear HROOT HB7 HY7 HZ7 HONE HTR HV HLEV
        obtain ⟨j, h, m', a5, b5, rfl, hj, hz, hy, hn, hb⟩ := hrel
        have HZ5 := Lib.hid hz
        have HY5 := Lib.hid hy
        have HN5 := Lib.hid hn
        have HB5 := Lib.hid hb
        have HJ := Lib.hid hj
        clear hz hy hn hb hj
        by_cases hlt : (j : Int) < (L : Int) - l
        · cases h with
          | zero => exact absurd hlt (by have := HJ.out; have := HF.out; omega)
          | succ h =>
            obtain ⟨g, cnt, cc, F, rfl, hc0, hrg, hkn⟩ := first_kid HN5.out
            have c5 : wr.cell? ⟨Z, 0, none⟩ = some (.slice (some ⟨g, 0, none⟩) cnt cc) := cell_in HZ5.out rfl
            have hc0' : (0 : Int) < (cnt : Int) := by omega
            have HR5 := Lib.hid hrg
            have HKN := Lib.hid hkn
            have HONE := Lib.hid hkn.one
            have hj8 : (j : Int) ≤ 8 := by have := HJ.out; have := HF.out; omega
            clear hrg hkn hc0
            go_wp2_with (first
              | (refine wpList_load_mid rfl 28 _ rfl g 0 rfl [F 0, F 1] _ HR5.out Try.underlying28 rfl node_size ?_)
              | (refine st_agg rfl 28 _ _ rfl Z #[F 0, F 1] rfl rfl 28 #[.slice (some ⟨g, 0, none⟩) cnt cc, b5] HZ5.out node_size rfl (by simp [HONE.out.1, HONE.out.2]) ?_; intro w6 h6 k6; have HZ6 := Lib.hid h6; have HY6 := Lib.hid (k6.other HY5.out (by have := HYZ.out; omega)); have HN6 := Lib.hid (HKN.out.kept k6.by_ (fun X e => by cases e; have := HYZ.out; omega)); have HB6 := Lib.hid (HB5.out.trans (k6.below (by have := HYZ.out; omega))); clear h6 k6))
            go_roundw
            case rel =>
              have h1 := HJ.out
              have h2 := HF.out
              have h3 : m ≤ 32 ^ (h + 1) := Nat.le_trans h2.1 (Nat.pow_le_pow_right (by decide) (by omega))
              exact ⟨j + 1, h, _, _, _, by go_num, ⟨by omega, by omega, Nat.le_min.2 ⟨h3, h1.2.2⟩⟩, HZ6.out, HY6.out, HN6.out, HB6.out⟩
            case measure => simp [intOf]; omega
        · have h1 := HJ.out
          have h2 := HF.out
          obtain rfl : l = h + 1 := by omega
          have hK := pv_keep h (by omega) (fun g => S g ∧ g < W.heap.size) wr a5 b5 f m' (m - 1) (m - 1) (h + 1) rfl HN5.out (Nat.mod_eq_of_lt (by omega)).symm (by omega) (by have := HM32.out; omega)
          rw [show m - 1 + 1 = m by omega, show ((m - 1 : Nat) : Int) = (m : Int) - 1 by omega] at hK
          have HK := Lib.hid hK
          obtain ⟨l, hl⟩ : ∃ l, l = h + 1 := ⟨_, rfl⟩
          rw [← hl] at HK hlt ⊢
          have HLE : Hid (levN m - 1 = h ∧ 0 < m) := (show _ ∧ _ from ⟨by omega, by omega⟩)
          clear h1 h2 hK hl hl8 hlL8
          go_wp2_with (first
            | (refine ld_if rfl 28 _ rfl Z rfl 28 _ _ _ HZ5.out Try.underlying28 rfl node_size ?_)
            | (go_at_call 43; refine HK.out.mono ?_; rintro e w6 ⟨a6, b6, rfl, hn6, hb⟩; have HN6 := Lib.hid hn6; have HY6 := Lib.hid ((hb.block _ (Array.getElem?_eq_some_iff.1 HY5.out).1).trans HY5.out); have HB6 := Lib.hid (HB5.out.trans (hb.mono HB5.out.size)); have HONE := Lib.hid hn6.one; clear hb hn6)
            | (refine st_agg rfl 28 _ _ rfl (W.heap.size + 1) #[a6, b6] rfl rfl 28 #[.slice none 0 0, .slice none 0 0] HY6.out node_size rfl (by first | (simp [HONE.out.1, HONE.out.2]; done) | simp [Value.oneCell']) ?_; intro w8 h8 k8))
          refine bodyPost_ret (results_cell_row rfl _ _ (W.heap.size + 1) 28 _ (0, 0) _ rfl h8 Try.underlying28 rfl node_size) rfl ⟨_, _, rfl, ?_, HB6.out.trans (k8.below (by omega))⟩
          have hwr := (Array.getElem?_eq_some_iff.1 HY5.out).1
          refine .inr ⟨HLE.out.2, ?_⟩
          rw [HLE.out.1]
          refine (HN6.out.kept k8.by_ (fun X e => ?_)).weak fun _ _ => trivial
          cases e
          rintro (⟨_, h⟩ | h)
          · omega
          · omega
end
end Go.Proofs.Ytpjbhdplginbaaa
