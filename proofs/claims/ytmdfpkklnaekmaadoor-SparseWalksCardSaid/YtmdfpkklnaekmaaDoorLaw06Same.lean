/- Layer 6's laws: are a row and the document's the same; are two rows alike. -/
import Derived.Test.YtmdfpkklnaekmaaDoorLaw06Spec
namespace Go.Proofs.YtmdfpkklnaekmaaDoor
open Go.RowKit
set_option maxRecDepth 1000000
set_option linter.unusedSimpArgs false

/-- Two variables laid one behind the other. -/
theorem pair_laid {w w1 : World} {c z : Array Value} {T T' : TypeId} (hw : (w.alloc (.cells c T)).alloc (.cells z T') = w1) :
    w1.heap[w.heap.size]? = some (.cells c T (0, 0)) ∧ w1.heap[w.heap.size + 1]? = some (.cells z T' (0, 0)) ∧ Below w.heap.size w w1 := by
  subst hw
  refine ⟨?_, ?_, Below.more (Below.newly' _ _) _⟩
  · have h := heap_alloc_last w (.cells c T)
    exact ((Below.newly' (w.alloc (.cells c T)) (.cells z T')).block _ (by simp)).trans h
  · have h := heap_alloc_last (w.alloc (.cells c T)) (.cells z T')
    simpa using h

section
variable {Tb : World → Prop} {At : World → Rw → Array Value → Prop} (S : RSpec Tb At)
include S

set_option maxHeartbeats 4000000 in
theorem same_walk (R : Rw) (c d : Array Value) (w : World) (hc : At w R c) (hd : RC R d) (hT : Tb w) :
    Calls Tryd.prog 14 #[.agg c, .agg d] w fun e w' => e = .returned (.bool true) ∧ Below w.heap.size w w' := by
  have HD := Lib.hid hd
  clear hd
  go_enter Tryd.func14, Tryd.ntmps14
  go_upto_region 1 with fail
  obtain ⟨V, hV⟩ : ∃ V, (w.alloc (.cells c 27)).alloc (.cells d 31) = V := ⟨_, rfl⟩
  rw [hV]
  obtain ⟨hx, hy, hbl⟩ := pair_laid hV
  have HC0 : Hid (At V.drew R c) := S.later (W := w) hc (Below.drewMany hbl 1)
  have HX0 : Hid (V.drew.heap[w.heap.size]? = some (.cells c 27 (0, 0))) := hx
  have HY0 : Hid (V.drew.heap[(w.heap.size + 1)]? = some (.cells d 31 (0, 0))) := hy
  have HB0 : Hid (Below w.heap.size w V.drew) := Below.drewMany hbl 1
  clear hx hy hbl hc hV
  refine wp_region_T (S := fun W => W.heap[w.heap.size]? = some (.cells c 27 (0, 0)) ∧ W.heap[(w.heap.size + 1)]? = some (.cells d 31 (0, 0))) [] (by kernel_rfl) (by first | exact ⟨HX0.out, HY0.out⟩ | exact ⟨HX1.out, HY1.out⟩ | exact ⟨HX2.out, HY2.out⟩ | exact ⟨HX3.out, HY3.out⟩ | exact ⟨HX4.out, HY4.out⟩) (fun hHeld => ?_)
  refine wpAnyT_take (i := 0) (oi := ⟨some 16, _, _, _, _, _⟩) (v := _) rfl (by kernel_rfl) (by kernel_rfl) (by kernel_rfl) (by kernel_rfl) (fun _ _ _ h => h) (yieldsIf_load_row (by rfl) 27 _ rfl w.heap.size rfl c 27 (0, 0) _ (fun w hw => hw.1) Tryd.underlying27 rfl (by rw [S.size HC0.out]; exact srow_info)) (by assumption) ?_
  (try simp only [Act.put, List.setIfInBounds_toArray, List.set_cons_zero, List.set_cons_succ])
  refine wpAnyT_take (i := 2) (oi := ⟨some 18, _, _, _, _, _⟩) (v := _) rfl (by kernel_rfl) (by kernel_rfl) (by kernel_rfl) (by kernel_rfl) (fun _ _ _ h => h) (yieldsIf_load_row (by rfl) 31 _ rfl (w.heap.size + 1) rfl d 31 (0, 0) _ (fun w hw => hw.2) Tryd.underlying31 rfl (by rw [HD.out.size]; exact row_info)) (by assumption) ?_
  (try simp only [Act.put, List.setIfInBounds_toArray, List.set_cons_zero, List.set_cons_succ])
  refine wpAnyT_one (i := 1) (o := ⟨some 17, _, _, _, _, _⟩) (by kernel_rfl) rfl (fun K hK => ?_)
  go_simp
  go_at_call 27
  refine (S.len _ R c HC0.out).mono ?_
  rintro e w1 ⟨rfl, hb⟩
  have HB1 := Lib.hid (HB0.out.trans (hb.mono HB0.out.size))
  have HX1 := Lib.hid ((hb.block _ (Array.getElem?_eq_some_iff.1 HX0.out).1).trans HX0.out)
  have HY1 := Lib.hid ((hb.block _ (Array.getElem?_eq_some_iff.1 HY0.out).1).trans HY0.out)
  have HC1 := Lib.hid (S.later HC0.out hb)
  clear hb
  (try go_wp2_with fail)
  refine hK.out _ _ (by first | exact ⟨HX0.out, HY0.out⟩ | exact ⟨HX1.out, HY1.out⟩ | exact ⟨HX2.out, HY2.out⟩ | exact ⟨HX3.out, HY3.out⟩ | exact ⟨HX4.out, HY4.out⟩) (fun hHeld => ?_)
  clear hK K
  (try simp only [Act.put, List.setIfInBounds_toArray, List.set_cons_zero, List.set_cons_succ])
  refine wpAnyT_one (i := 3) (o := ⟨some 19, _, _, _, _, _⟩) (by kernel_rfl) rfl (fun K hK => ?_)
  go_simp
  go_at_call 16
  refine (ref_Len6 R d HD.out _).mono ?_
  rintro e w2 ⟨rfl, hb⟩
  have HB2 := Lib.hid (HB1.out.trans (hb.mono HB1.out.size))
  have HX2 := Lib.hid ((hb.block _ (Array.getElem?_eq_some_iff.1 HX1.out).1).trans HX1.out)
  have HY2 := Lib.hid ((hb.block _ (Array.getElem?_eq_some_iff.1 HY1.out).1).trans HY1.out)
  have HC2 := Lib.hid (S.later HC1.out hb)
  clear hb
  (try go_wp2_with fail)
  refine hK.out _ _ (by first | exact ⟨HX0.out, HY0.out⟩ | exact ⟨HX1.out, HY1.out⟩ | exact ⟨HX2.out, HY2.out⟩ | exact ⟨HX3.out, HY3.out⟩ | exact ⟨HX4.out, HY4.out⟩) (fun hHeld => ?_)
  clear hK K
  (try simp only [Act.put, List.setIfInBounds_toArray, List.set_cons_zero, List.set_cons_succ])
  refine wpAnyT_take (i := 4) (oi := ⟨some 20, _, _, _, _, _⟩) (v := ?vg1_4) rfl (by kernel_rfl) (by kernel_rfl) (by kernel_rfl) (by kernel_rfl) (fun _ _ _ h => h) (Or.inl ⟨by rfl, ?hg1_4⟩) (by assumption) ?rg1_4
  case hg1_4 => (intro w hSw; (try dsimp only at hSw); first | (go_simp; done) | (go_simp; with_reducible rfl))
  (try simp only [Act.put, List.setIfInBounds_toArray, List.set_cons_zero, List.set_cons_succ])
  refine wpAnyT_take (i := 5) (oi := ⟨some 21, _, _, _, _, _⟩) (v := ?vg1_5) rfl (by kernel_rfl) (by kernel_rfl) (by kernel_rfl) (by kernel_rfl) (fun _ _ _ h => h) (Or.inl ⟨by rfl, ?hg1_5⟩) (by assumption) ?rg1_5
  case hg1_5 => (intro w hSw; (try dsimp only at hSw); first | (go_simp; done) | (go_simp; with_reducible rfl))
  (try simp only [Act.put, List.setIfInBounds_toArray, List.set_cons_zero, List.set_cons_succ])
  refine wpAnyT_take (i := 6) (oi := ⟨some 22, _, _, _, _, _⟩) (v := _) rfl (by kernel_rfl) (by kernel_rfl) (by kernel_rfl) (by kernel_rfl) (fun _ _ _ h => h) (yieldsIf_load_row (by rfl) 27 _ rfl w.heap.size rfl c 27 (0, 0) _ (fun w hw => hw.1) Tryd.underlying27 rfl (by rw [S.size HC0.out]; exact srow_info)) (by assumption) ?_
  (try simp only [Act.put, List.setIfInBounds_toArray, List.set_cons_zero, List.set_cons_succ])
  refine wpAnyT_take (i := 8) (oi := ⟨some 24, _, _, _, _, _⟩) (v := _) rfl (by kernel_rfl) (by kernel_rfl) (by kernel_rfl) (by kernel_rfl) (fun _ _ _ h => h) (yieldsIf_load_row (by rfl) 31 _ rfl (w.heap.size + 1) rfl d 31 (0, 0) _ (fun w hw => hw.2) Tryd.underlying31 rfl (by rw [HD.out.size]; exact row_info)) (by assumption) ?_
  (try simp only [Act.put, List.setIfInBounds_toArray, List.set_cons_zero, List.set_cons_succ])
  refine wpAnyT_one (i := 7) (o := ⟨some 23, _, _, _, _, _⟩) (by kernel_rfl) rfl (fun K hK => ?_)
  go_simp
  go_at_call 19
  refine (S.bits _ R c HC2.out).mono ?_
  rintro e w3 ⟨rfl, hb⟩
  have HB3 := Lib.hid (HB2.out.trans (hb.mono HB2.out.size))
  have HX3 := Lib.hid ((hb.block _ (Array.getElem?_eq_some_iff.1 HX2.out).1).trans HX2.out)
  have HY3 := Lib.hid ((hb.block _ (Array.getElem?_eq_some_iff.1 HY2.out).1).trans HY2.out)
  have HC3 := Lib.hid (S.later HC2.out hb)
  clear hb
  (try go_wp2_with fail)
  refine hK.out _ _ (by first | exact ⟨HX0.out, HY0.out⟩ | exact ⟨HX1.out, HY1.out⟩ | exact ⟨HX2.out, HY2.out⟩ | exact ⟨HX3.out, HY3.out⟩ | exact ⟨HX4.out, HY4.out⟩) (fun hHeld => ?_)
  clear hK K
  (try simp only [Act.put, List.setIfInBounds_toArray, List.set_cons_zero, List.set_cons_succ])
  refine wpAnyT_one (i := 9) (o := ⟨some 25, _, _, _, _, _⟩) (by kernel_rfl) rfl (fun K hK => ?_)
  go_simp
  go_at_call 20
  refine (ref_Bits6 R d HD.out _).mono ?_
  rintro e w4 ⟨rfl, hb⟩
  have HB4 := Lib.hid (HB3.out.trans (hb.mono HB3.out.size))
  have HX4 := Lib.hid ((hb.block _ (Array.getElem?_eq_some_iff.1 HX3.out).1).trans HX3.out)
  have HY4 := Lib.hid ((hb.block _ (Array.getElem?_eq_some_iff.1 HY3.out).1).trans HY3.out)
  have HC4 := Lib.hid (S.later HC3.out hb)
  clear hb
  (try go_wp2_with fail)
  refine hK.out _ _ (by first | exact ⟨HX0.out, HY0.out⟩ | exact ⟨HX1.out, HY1.out⟩ | exact ⟨HX2.out, HY2.out⟩ | exact ⟨HX3.out, HY3.out⟩ | exact ⟨HX4.out, HY4.out⟩) (fun hHeld => ?_)
  clear hK K
  (try simp only [Act.put, List.setIfInBounds_toArray, List.set_cons_zero, List.set_cons_succ])
  refine wpAnyT_take (i := 10) (oi := ⟨some 26, _, _, _, _, _⟩) (v := ?vg1_10) rfl (by kernel_rfl) (by kernel_rfl) (by kernel_rfl) (by kernel_rfl) (fun _ _ _ h => h) (Or.inl ⟨by rfl, ?hg1_10⟩) (by assumption) ?rg1_10
  case hg1_10 => (intro w hSw; (try dsimp only at hSw); first | (go_simp; done) | (go_simp; with_reducible rfl))
  (try simp only [Act.put, List.setIfInBounds_toArray, List.set_cons_zero, List.set_cons_succ])
  refine wpAnyT_take (i := 11) (oi := ⟨some 27, _, _, _, _, _⟩) (v := ?vg1_11) rfl (by kernel_rfl) (by kernel_rfl) (by kernel_rfl) (by kernel_rfl) (fun _ _ _ h => h) (Or.inl ⟨by rfl, ?hg1_11⟩) (by assumption) ?rg1_11
  case hg1_11 => (intro w hSw; (try dsimp only at hSw); first | (go_simp; done) | (go_simp; with_reducible rfl))
  (try simp only [Act.put, List.setIfInBounds_toArray, List.set_cons_zero, List.set_cons_succ])
  refine wpAnyT_done (by kernel_rfl) ?_ _
  clear HX0 HY0 HB0 HC0 HX1 HY1 HB1 HC1 HX2 HY2 HB2 HC2 HX3 HY3 HB3 HC3 hHeld
  go_wp2_with fail
  go_loopw [5] (fun i wl => ∃ n : Int, i = .int .i64 n ∧ -1 ≤ n ∧ n ≤ 34 ∧ Below w4.heap.size w4 wl) (fun i _ => (34 - intOf i).toNat)
  case atStart => exact ⟨-1, rfl, by decide, by decide, Below.refl _ _⟩
  case round =>
    obtain ⟨n, rfl, hn0, hn1, hbl⟩ := hrel
    have HX5 := Lib.hid ((hbl.block _ (Array.getElem?_eq_some_iff.1 HX4.out).1).trans HX4.out)
    have HY5 := Lib.hid ((hbl.block _ (Array.getElem?_eq_some_iff.1 HY4.out).1).trans HY4.out)
    have HC5 := Lib.hid (S.later HC4.out hbl)
    have HB5 := Lib.hid (HB4.out.trans (hbl.mono HB4.out.size))
    have HL5 := Lib.hid hbl
    clear hbl
    by_cases hlt : n < 34
    · have HG := Lib.hid (fun W h => S.get W R c n h ⟨by omega, by omega⟩)
      have HH := Lib.hid (fun W => ref_Get6 R d HD.out n W)
      obtain ⟨⟨x, b⟩, hp⟩ : ∃ p, p = getR R n := ⟨_, rfl⟩
      rw [← hp] at HG HH
      simp only at HG HH
      clear hp
      go_wp2_with (first
        | (refine ld_if rfl 27 _ rfl (w.heap.size) rfl 27 _ _ _ HX5.out Tryd.underlying27 rfl (by first | exact srow_info | (rw [S.size HC5.out]; exact srow_info)) ?_)
        | (go_at_call 12; refine (HG.out _ HC5.out).mono ?_; rintro e w6 ⟨rfl, hb⟩; have HL6 := Lib.hid (HL5.out.trans (hb.mono HL5.out.size)); have HB6 := Lib.hid (HB5.out.trans (hb.mono HB5.out.size)); have HX6 := Lib.hid ((hb.block _ (Array.getElem?_eq_some_iff.1 HX5.out).1).trans HX5.out); have HY6 := Lib.hid ((hb.block _ (Array.getElem?_eq_some_iff.1 HY5.out).1).trans HY5.out); have HC6 := Lib.hid (S.later HC5.out hb); clear hb)
        | (refine ld_if rfl 31 _ rfl ((w.heap.size + 1)) rfl 31 _ _ _ HY6.out Tryd.underlying31 rfl (by first | exact row_info | (rw [HD.out.size]; exact row_info)) ?_)
        | (go_at_call 13; refine (HH.out _).mono ?_; rintro e w7 ⟨rfl, hb⟩; have HL7 := Lib.hid (HL6.out.trans (hb.mono HL6.out.size)); have HB7 := Lib.hid (HB6.out.trans (hb.mono HB6.out.size)); have HX7 := Lib.hid ((hb.block _ (Array.getElem?_eq_some_iff.1 HX6.out).1).trans HX6.out); have HY7 := Lib.hid ((hb.block _ (Array.getElem?_eq_some_iff.1 HY6.out).1).trans HY6.out); have HC7 := Lib.hid (S.later HC6.out hb); clear hb))
      go_roundw
      case rel => exact ⟨n + 1, by go_num, by omega, by omega, HL7.out⟩
      case measure => simp [intOf]; omega
    · have HF := Lib.hid (fun W h ht => S.first W R c h ht)
      have HG := Lib.hid (fun W => ref_First6 R d HD.out W)
      obtain ⟨⟨i, x, b⟩, hp⟩ : ∃ p, p = firstR R := ⟨_, rfl⟩
      rw [← hp] at HF HG
      simp only at HF HG
      clear hp
      go_wp2_with (first
        | (refine ld_if rfl 27 _ rfl (w.heap.size) rfl 27 _ _ _ HX5.out Tryd.underlying27 rfl (by first | exact srow_info | (rw [S.size HC5.out]; exact srow_info)) ?_)
        | (go_at_call 26; refine (HF.out _ HC5.out (S.tab hT HB5.out)).mono ?_; rintro e w6 ⟨rfl, hb⟩; have HB6 := Lib.hid (HB5.out.trans (hb.mono HB5.out.size)); have HX6 := Lib.hid ((hb.block _ (Array.getElem?_eq_some_iff.1 HX5.out).1).trans HX5.out); have HY6 := Lib.hid ((hb.block _ (Array.getElem?_eq_some_iff.1 HY5.out).1).trans HY5.out); have HC6 := Lib.hid (S.later HC5.out hb); clear hb)
        | (refine ld_if rfl 31 _ rfl ((w.heap.size + 1)) rfl 31 _ _ _ HY6.out Tryd.underlying31 rfl (by first | exact row_info | (rw [HD.out.size]; exact row_info)) ?_)
        | (go_at_call 33; refine (HG.out _).mono ?_; rintro e w7 ⟨rfl, hb⟩; have HB7 := Lib.hid (HB6.out.trans (hb.mono HB6.out.size)); have HX7 := Lib.hid ((hb.block _ (Array.getElem?_eq_some_iff.1 HX6.out).1).trans HX6.out); have HY7 := Lib.hid ((hb.block _ (Array.getElem?_eq_some_iff.1 HY6.out).1).trans HY6.out); have HC7 := Lib.hid (S.later HC6.out hb); clear hb))
      go_ret
      exact ⟨rfl, HB7.out⟩
omit S in
theorem get_inj {R T : Rw} {j : Nat} (h1 : (R j).getD 0 = (T j).getD 0) (h2 : (R j).isSome = (T j).isSome) : R j = T j := by
  cases hR : R j <;> cases hT : T j <;> rw [hR, hT] at h1 h2 <;> simp at h1 h2 ⊢
  exact h1
omit S in
theorem ok_ext {R T : Rw} (hR : Ok R) (hT : Ok T) (h : ∀ j, j < 32 → R j = T j) : R = T := by
  funext j
  by_cases hj : j < 32
  · exact h j hj
  · rw [hR.off j (by omega), hT.off j (by omega)]
omit S in
theorem alike_step {R T : Rw} {k : Nat} (h : ∀ j, j < k → R j = T j) (hk : R k = T k) : ∀ j, j < k + 1 → R j = T j := fun j hj => by
  rcases Nat.lt_or_ge j k with h1 | h1
  · exact h j h1
  · obtain rfl : j = k := by omega
    exact hk
set_option maxHeartbeats 4000000 in
theorem alike_walk (R T : Rw) (c d : Array Value) (w : World) (hc : At w R c) (hd : At w T d) :
    Calls Tryd.prog 23 #[.agg c, .agg d] w fun e w' => ∃ b : Bool, e = .returned (.bool b) ∧ (b = true ↔ R = T) ∧ Below w.heap.size w w' := by
  go_enter Tryd.func23, Tryd.ntmps23
  go_upto_region 1 with fail
  obtain ⟨V, hV⟩ : ∃ V, (w.alloc (.cells c 27)).alloc (.cells d 27) = V := ⟨_, rfl⟩
  rw [hV]
  obtain ⟨hx, hy, hbl⟩ := pair_laid hV
  have HC4 := Lib.hid (S.later hc hbl)
  have HE4 := Lib.hid (S.later hd hbl)
  have HX4 := Lib.hid hx
  have HY4 := Lib.hid hy
  have HB4 := Lib.hid hbl
  clear hx hy hbl hc hd hV
  go_wp2_with fail
  go_loopw [10] (fun i wl => ∃ k : Nat, i = .int .i64 k ∧ k ≤ 32 ∧ (∀ j, j < k → R j = T j) ∧ Below V.heap.size V wl) (fun i _ => 32 - (intOf i).toNat)
  case atStart => exact ⟨0, rfl, by omega, fun j hj => absurd hj (by omega), Below.refl _ _⟩
  case round =>
    obtain ⟨k, rfl, hk, hno, hbl⟩ := hrel
    have HX5 := Lib.hid ((hbl.block _ (Array.getElem?_eq_some_iff.1 HX4.out).1).trans HX4.out)
    have HY5 := Lib.hid ((hbl.block _ (Array.getElem?_eq_some_iff.1 HY4.out).1).trans HY4.out)
    have HC5 := Lib.hid (S.later HC4.out hbl)
    have HE5 := Lib.hid (S.later HE4.out hbl)
    have HB5 := Lib.hid (HB4.out.trans (hbl.mono HB4.out.size))
    have HL5 := Lib.hid hbl
    have HN := Lib.hid hno
    clear hbl hno
    by_cases hlt : k < 32
    · have HG := Lib.hid (fun W h => S.get W R c k h ⟨by omega, by omega⟩)
      have HH := Lib.hid (fun W h => S.get W T d k h ⟨by omega, by omega⟩)
      rw [get_on hlt] at HG HH
      have i0 : (0 : Int) ≤ (k : Int) := by omega
      have i1 : (k : Int) < 32 := by omega
      have hI := @get_inj R T k
      obtain ⟨x, hx⟩ : ∃ x, x = (R k).getD 0 := ⟨_, rfl⟩
      obtain ⟨y, hy⟩ : ∃ y, y = (T k).getD 0 := ⟨_, rfl⟩
      obtain ⟨b, hb⟩ : ∃ b, b = (R k).isSome := ⟨_, rfl⟩
      obtain ⟨b', hb'⟩ : ∃ b, b = (T k).isSome := ⟨_, rfl⟩
      rw [← hx, ← hb] at HG
      rw [← hy, ← hb'] at HH
      rw [← hx, ← hy, ← hb, ← hb'] at hI
      simp only at HG HH
      by_cases hxy : x = y
      · subst hxy
        by_cases hbb : b = b'
        · subst hbb
          have HI := Lib.hid (alike_step HN.out (hI rfl rfl))
          clear hI hx hy hb hb'
          go_wp2_with (first
        | (refine ld_if rfl 27 _ rfl (w.heap.size) rfl 27 _ _ _ HX5.out Tryd.underlying27 rfl (by first | exact srow_info | (rw [S.size HC5.out]; exact srow_info)) ?_)
        | (go_at_call 12; with_reducible refine (HG.out _ HC5.out).mono ?_; rintro e w6 ⟨rfl, hb⟩; have HL6 := Lib.hid (HL5.out.trans (hb.mono HL5.out.size)); have HB6 := Lib.hid (HB5.out.trans (hb.mono HB5.out.size)); have HX6 := Lib.hid ((hb.block _ (Array.getElem?_eq_some_iff.1 HX5.out).1).trans HX5.out); have HY6 := Lib.hid ((hb.block _ (Array.getElem?_eq_some_iff.1 HY5.out).1).trans HY5.out); have HC6 := Lib.hid (S.later HC5.out hb); have HE6 := Lib.hid (S.later HE5.out hb); clear hb)
        | (refine ld_if rfl 27 _ rfl ((w.heap.size + 1)) rfl 27 _ _ _ HY6.out Tryd.underlying27 rfl (by first | exact srow_info | (rw [S.size HE6.out]; exact srow_info)) ?_)
        | (go_at_call 12; with_reducible refine (HH.out _ HE6.out).mono ?_; rintro e w7 ⟨rfl, hb⟩; have HL7 := Lib.hid (HL6.out.trans (hb.mono HL6.out.size)); have HB7 := Lib.hid (HB6.out.trans (hb.mono HB6.out.size)); have HX7 := Lib.hid ((hb.block _ (Array.getElem?_eq_some_iff.1 HX6.out).1).trans HX6.out); have HY7 := Lib.hid ((hb.block _ (Array.getElem?_eq_some_iff.1 HY6.out).1).trans HY6.out); have HC7 := Lib.hid (S.later HC6.out hb); have HE7 := Lib.hid (S.later HE6.out hb); clear hb))
          case roundEnd => exact ⟨⟨k + 1, by go_num, by omega, HI.out, HL7.out⟩, by simp [intOf]; omega⟩
        · have HF : Hid (¬ R = T) := fun e => hbb (by rw [hb, hb', e])
          have hbb' : (b == b') = false := beq_eq_false_iff_ne.2 hbb
          clear hI hx hy hb hb' hbb
          go_wp2_with (first
        | (refine ld_if rfl 27 _ rfl (w.heap.size) rfl 27 _ _ _ HX5.out Tryd.underlying27 rfl (by first | exact srow_info | (rw [S.size HC5.out]; exact srow_info)) ?_)
        | (go_at_call 12; with_reducible refine (HG.out _ HC5.out).mono ?_; rintro e w6 ⟨rfl, hb⟩; have HL6 := Lib.hid (HL5.out.trans (hb.mono HL5.out.size)); have HB6 := Lib.hid (HB5.out.trans (hb.mono HB5.out.size)); have HX6 := Lib.hid ((hb.block _ (Array.getElem?_eq_some_iff.1 HX5.out).1).trans HX5.out); have HY6 := Lib.hid ((hb.block _ (Array.getElem?_eq_some_iff.1 HY5.out).1).trans HY5.out); have HC6 := Lib.hid (S.later HC5.out hb); have HE6 := Lib.hid (S.later HE5.out hb); clear hb)
        | (refine ld_if rfl 27 _ rfl ((w.heap.size + 1)) rfl 27 _ _ _ HY6.out Tryd.underlying27 rfl (by first | exact srow_info | (rw [S.size HE6.out]; exact srow_info)) ?_)
        | (go_at_call 12; with_reducible refine (HH.out _ HE6.out).mono ?_; rintro e w7 ⟨rfl, hb⟩; have HL7 := Lib.hid (HL6.out.trans (hb.mono HL6.out.size)); have HB7 := Lib.hid (HB6.out.trans (hb.mono HB6.out.size)); have HX7 := Lib.hid ((hb.block _ (Array.getElem?_eq_some_iff.1 HX6.out).1).trans HX6.out); have HY7 := Lib.hid ((hb.block _ (Array.getElem?_eq_some_iff.1 HY6.out).1).trans HY6.out); have HC7 := Lib.hid (S.later HC6.out hb); have HE7 := Lib.hid (S.later HE6.out hb); clear hb))
          go_ret
          exact ⟨false, rfl, by simp [HF.out], HB7.out⟩
      · have HF : Hid (¬ R = T) := fun e => hxy (by rw [hx, hy, e])
        have hxy' : (x != y) = true := bne_iff_ne.2 hxy
        clear hI hx hy hb hb' hxy
        go_wp2_with (first
        | (refine ld_if rfl 27 _ rfl (w.heap.size) rfl 27 _ _ _ HX5.out Tryd.underlying27 rfl (by first | exact srow_info | (rw [S.size HC5.out]; exact srow_info)) ?_)
        | (go_at_call 12; with_reducible refine (HG.out _ HC5.out).mono ?_; rintro e w6 ⟨rfl, hb⟩; have HL6 := Lib.hid (HL5.out.trans (hb.mono HL5.out.size)); have HB6 := Lib.hid (HB5.out.trans (hb.mono HB5.out.size)); have HX6 := Lib.hid ((hb.block _ (Array.getElem?_eq_some_iff.1 HX5.out).1).trans HX5.out); have HY6 := Lib.hid ((hb.block _ (Array.getElem?_eq_some_iff.1 HY5.out).1).trans HY5.out); have HC6 := Lib.hid (S.later HC5.out hb); have HE6 := Lib.hid (S.later HE5.out hb); clear hb)
        | (refine ld_if rfl 27 _ rfl ((w.heap.size + 1)) rfl 27 _ _ _ HY6.out Tryd.underlying27 rfl (by first | exact srow_info | (rw [S.size HE6.out]; exact srow_info)) ?_)
        | (go_at_call 12; with_reducible refine (HH.out _ HE6.out).mono ?_; rintro e w7 ⟨rfl, hb⟩; have HL7 := Lib.hid (HL6.out.trans (hb.mono HL6.out.size)); have HB7 := Lib.hid (HB6.out.trans (hb.mono HB6.out.size)); have HX7 := Lib.hid ((hb.block _ (Array.getElem?_eq_some_iff.1 HX6.out).1).trans HX6.out); have HY7 := Lib.hid ((hb.block _ (Array.getElem?_eq_some_iff.1 HY6.out).1).trans HY6.out); have HC7 := Lib.hid (S.later HC6.out hb); have HE7 := Lib.hid (S.later HE6.out hb); clear hb))
        go_ret
        exact ⟨false, rfl, by simp [HF.out], HB7.out⟩
    · obtain rfl : k = 32 := by omega
      obtain rfl : R = T := ok_ext (S.ok HC5.out) (S.ok HE5.out) HN.out
      have HX8 : Hid (wr.drew.heap[w.heap.size]? = some (.cells c 27 (0, 0))) := HX5.out
      have HY8 : Hid (wr.drew.heap[(w.heap.size + 1)]? = some (.cells d 27 (0, 0))) := HY5.out
      have HB8 : Hid (Below w.heap.size w wr.drew) := Below.drewMany HB5.out 1
      have HC8 : Hid (At wr.drew R c) := S.later (W := wr) HC5.out (Below.drewMany (Below.refl _ wr) 1)
      have HE8 : Hid (At wr.drew R d) := S.later (W := wr) HE5.out (Below.drewMany (Below.refl _ wr) 1)
      go_wp2_with fail
      refine wp_region_T (S := fun W => W.heap[w.heap.size]? = some (.cells c 27 (0, 0)) ∧ W.heap[(w.heap.size + 1)]? = some (.cells d 27 (0, 0))) [] (by kernel_rfl) (by first | exact ⟨HX8.out, HY8.out⟩ | exact ⟨HX9.out, HY9.out⟩ | exact ⟨HX10.out, HY10.out⟩) (fun hHeld => ?_)
      refine wpAnyT_take (i := 0) (oi := ⟨some 34, _, _, _, _, _⟩) (v := _) rfl (by kernel_rfl) (by kernel_rfl) (by kernel_rfl) (by kernel_rfl) (fun _ _ _ h => h) (yieldsIf_load_row (by rfl) 27 _ rfl w.heap.size rfl c 27 (0, 0) _ (fun w hw => hw.1) Tryd.underlying27 rfl (by rw [S.size HC8.out]; exact srow_info)) (by assumption) ?_
      (try simp only [Act.put, List.setIfInBounds_toArray, List.set_cons_zero, List.set_cons_succ])
      refine wpAnyT_take (i := 2) (oi := ⟨some 36, _, _, _, _, _⟩) (v := _) rfl (by kernel_rfl) (by kernel_rfl) (by kernel_rfl) (by kernel_rfl) (fun _ _ _ h => h) (yieldsIf_load_row (by rfl) 27 _ rfl (w.heap.size + 1) rfl d 27 (0, 0) _ (fun w hw => hw.2) Tryd.underlying27 rfl (by rw [S.size HE8.out]; exact srow_info)) (by assumption) ?_
      (try simp only [Act.put, List.setIfInBounds_toArray, List.set_cons_zero, List.set_cons_succ])
      refine wpAnyT_one (i := 1) (o := ⟨some 35, _, _, _, _, _⟩) (by kernel_rfl) rfl (fun K hK => ?_)
      go_simp
      go_at_call 19
      refine (S.bits _ R c HC8.out).mono ?_
      rintro e w9 ⟨rfl, hb⟩
      have HB9 := Lib.hid (HB8.out.trans (hb.mono HB8.out.size))
      have HX9 := Lib.hid ((hb.block _ (Array.getElem?_eq_some_iff.1 HX8.out).1).trans HX8.out)
      have HY9 := Lib.hid ((hb.block _ (Array.getElem?_eq_some_iff.1 HY8.out).1).trans HY8.out)
      have HC9 := Lib.hid (S.later HC8.out hb)
      have HE9 := Lib.hid (S.later HE8.out hb)
      clear hb
      (try go_wp2_with fail)
      refine hK.out _ _ (by first | exact ⟨HX8.out, HY8.out⟩ | exact ⟨HX9.out, HY9.out⟩ | exact ⟨HX10.out, HY10.out⟩) (fun hHeld => ?_)
      clear hK K
      (try simp only [Act.put, List.setIfInBounds_toArray, List.set_cons_zero, List.set_cons_succ])
      refine wpAnyT_one (i := 3) (o := ⟨some 37, _, _, _, _, _⟩) (by kernel_rfl) rfl (fun K hK => ?_)
      go_simp
      go_at_call 19
      refine (S.bits _ R d HE9.out).mono ?_
      rintro e w10 ⟨rfl, hb⟩
      have HB10 := Lib.hid (HB9.out.trans (hb.mono HB9.out.size))
      have HX10 := Lib.hid ((hb.block _ (Array.getElem?_eq_some_iff.1 HX9.out).1).trans HX9.out)
      have HY10 := Lib.hid ((hb.block _ (Array.getElem?_eq_some_iff.1 HY9.out).1).trans HY9.out)
      have HC10 := Lib.hid (S.later HC9.out hb)
      have HE10 := Lib.hid (S.later HE9.out hb)
      clear hb
      (try go_wp2_with fail)
      refine hK.out _ _ (by first | exact ⟨HX8.out, HY8.out⟩ | exact ⟨HX9.out, HY9.out⟩ | exact ⟨HX10.out, HY10.out⟩) (fun hHeld => ?_)
      clear hK K
      (try simp only [Act.put, List.setIfInBounds_toArray, List.set_cons_zero, List.set_cons_succ])
      refine wpAnyT_take (i := 4) (oi := ⟨some 38, _, _, _, _, _⟩) (v := ?vg2_4) rfl (by kernel_rfl) (by kernel_rfl) (by kernel_rfl) (by kernel_rfl) (fun _ _ _ h => h) (Or.inl ⟨by rfl, ?hg2_4⟩) (by assumption) ?rg2_4
      case hg2_4 => (intro w hSw; (try dsimp only at hSw); first | (go_simp; done) | (go_simp; with_reducible rfl))
      (try simp only [Act.put, List.setIfInBounds_toArray, List.set_cons_zero, List.set_cons_succ])
      refine wpAnyT_take (i := 5) (oi := ⟨some 4, _, _, _, _, _⟩) (v := ?vg2_5) rfl (by kernel_rfl) (by kernel_rfl) (by kernel_rfl) (by kernel_rfl) (fun _ _ _ h => h) (Or.inl ⟨by rfl, ?hg2_5⟩) (by assumption) ?rg2_5
      case hg2_5 => (intro w hSw; (try dsimp only at hSw); first | (go_simp; done) | (go_simp; with_reducible rfl))
      (try simp only [Act.put, List.setIfInBounds_toArray, List.set_cons_zero, List.set_cons_succ])
      refine wpAnyT_done (by kernel_rfl) ?_ _
      go_wp2_with fail
      go_ret
      first | exact ⟨rfl, HB10.out⟩ | exact ⟨true, by simp, by simp, HB10.out⟩
end
end Go.Proofs.YtmdfpkklnaekmaaDoor
