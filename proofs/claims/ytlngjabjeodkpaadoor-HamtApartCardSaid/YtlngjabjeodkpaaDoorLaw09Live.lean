/- Layer 9's laws: the chapter's examples. (written by tools/gen09/live9.py) -/
import Derived.Test.YtlngjabjeodkpaaDoorLaw09A
namespace Go.Proofs.YtlngjabjeodkpaaDoor
open Go.RowKit
set_option maxRecDepth 1000000
set_option linter.unusedSimpArgs false

abbrev kA : ByteArray := ⟨#[97]⟩
abbrev kB : ByteArray := ⟨#[98]⟩
abbrev kX : ByteArray := ⟨#[120]⟩
theorem live_two : insE (insE [] kB 2) kA 1 = [(kA, 1), (kB, 2)] := by decide
theorem live_get : getE [(kA, (1 : Int)), (kB, 2)] kB = some 2 := by decide
theorem live_none (hs : ByteArray → Nat) : shapeF hs 13 (keysE []) = [40, 41] := by
  rw [shape_succ]
  have e : ((List.range 32).flatMap fun i => pieceF hs 12 i (kch hs (12 - 12) i (keysE []))) = [] := by
    rw [List.flatMap_eq_nil_iff]
    intro i _
    rfl
  rw [e]
  rfl
theorem live_hs : hsN 0 0 kX = 0 := by
  unfold hsN narrowN
  rw [show (min (max (0 : Int) 0) 64).toNat = 0 from by decide, Nat.pow_zero, Nat.mod_one]
theorem itS_zero : itS 0 = [48] := by
  unfold itS
  first | rfl | decide | kernel_rfl
theorem live_one : shapeF (hsN 0 0) 13 (keysE (insE [] kX 1)) = [40, 48, 46, 41] := by
  rw [shape_succ]
  have e : ∀ i ∈ List.range 32, pieceF (hsN 0 0) 12 i (kch (hsN 0 0) (12 - 12) i (keysE (insE [] kX 1))) = if i = 0 then [48, 46] else [] := fun i _ => by
    have hk : keysE (insE [] kX 1) = [kX] := rfl
    have hc : kch (hsN 0 0) (12 - 12) i [kX] = if i = 0 then [kX] else [] := by
      unfold kch
      by_cases h : i = 0
      · subst h
        simp [live_hs, chunkN]
      · have h' : ¬ 0 = i := fun e => h e.symm
        simp [live_hs, chunkN, h, h']
    rw [hk, hc]
    by_cases h : i = 0
    · subst h
      rw [if_pos rfl, if_pos rfl]
      show itS 0 ++ [46] = [48, 46]
      rw [itS_zero]
      rfl
    · simp [h, pieceF]
  rw [fm_congr e]
  decide
set_option maxHeartbeats 4000000 in
theorem live9 (w : World) (hT : Tabs w) : Calls Tryd.prog 7 #[] w fun e w' => e = .returned (.bool true) ∧ Below w.heap.size w w' := by
  have HT := Lib.hid hT
  have HNEW := Lib.hid (fun n W => hm_New W 0 n (fun _ => True))
  clear hT
  go_enter Tryd.func7, Tryd.ntmps7
  go_wp2_with fail
  refine (HNEW.out 2 _).mono ?_
  rintro e w1 ⟨c0, rfl, hm, hb⟩
  have HM0 := Lib.hid hm.ml
  have HW := Lib.hid hb
  have HZ0 := Lib.hid hm.size
  clear hm hb
  go_wp2_with (first
    | (refine st_agg rfl 36 _ _ rfl w1.heap.size c0 rfl rfl 36 #[.int .u64 0, .int .i64 0, .int .i64 0, .int .u32 0, .slice none 0 0, .slice none 0 0] (heap_alloc_last w1 _) (by rw [HZ0.out]; exact map_size) (by rw [HZ0.out]; rfl) HM0.out.one ?_
       intro w2 h2 k2
       have hb2 : Below w1.heap.size w1 w2 := (Below.newly' w1 _).trans (k2.below (Nat.le_refl _))
       have HX1 := Lib.hid h2
       replace HM0 := Lib.hid (HM0.out.later hb2)
       replace HW := Lib.hid (HW.out.trans (hb2.mono HW.out.size))
       clear h2 k2 hb2)
    | (refine ld_if (by rfl) 36 _ rfl w1.heap.size rfl 36 _ _ _ HX1.out Tryd.underlying36 rfl (by rw [HZ0.out]; exact map_size) ?_))
  refine (hm_Set w2 0 (by decide) 2 [] c0 kB 2 (by decide) HM0.out Rise.nil (by simp) (HT.out.later HW.out).1).mono ?_
  rintro e w3 ⟨c1, rfl, hm, hb⟩
  replace HM0 := Lib.hid ((HM0.out).later hb)
  replace HX1 := Lib.hid (((hb).block _ (Array.getElem?_eq_some_iff.1 HX1.out).1).trans HX1.out)
  replace HW := Lib.hid (HW.out.trans ((hb).mono HW.out.size))
  have HM1 := Lib.hid hm.ml
  clear hm hb
  go_wp2_with fail
  refine (hm_Set w3 0 (by decide) 2 _ c1 kA 1 (by decide) HM1.out (Rise.nil.ins _ _) (by decide) (HT.out.later HW.out).1).mono ?_
  rintro e w4 ⟨c2, rfl, hm, hb⟩
  rw [live_two] at hm
  replace HM0 := Lib.hid ((HM0.out).later hb)
  replace HX1 := Lib.hid (((hb).block _ (Array.getElem?_eq_some_iff.1 HX1.out).1).trans HX1.out)
  replace HW := Lib.hid (HW.out.trans ((hb).mono HW.out.size))
  have HM2 := Lib.hid hm.ml
  have HZ2 := Lib.hid hm.size
  clear hm hb HM1
  go_wp2_with (first
    | (refine st_agg rfl 36 _ _ rfl w4.heap.size c2 rfl rfl 36 #[.int .u64 0, .int .i64 0, .int .i64 0, .int .u32 0, .slice none 0 0, .slice none 0 0] (heap_alloc_last w4 _) (by rw [HZ2.out]; exact map_size) (by rw [HZ2.out]; rfl) HM2.out.one ?_
       intro w5 h5 k5
       have hb5 : Below w4.heap.size w4 w5 := (Below.newly' w4 _).trans (k5.below (Nat.le_refl _))
       have HX2 := Lib.hid h5
       replace HM0 := Lib.hid (HM0.out.later hb5)
       replace HM2 := Lib.hid (HM2.out.later hb5)
       replace HX1 := Lib.hid ((hb5.block _ (Array.getElem?_eq_some_iff.1 HX1.out).1).trans HX1.out)
       replace HW := Lib.hid (HW.out.trans (hb5.mono HW.out.size))
       clear h5 k5 hb5)
    | (refine ld_if (by rfl) 36 _ rfl w4.heap.size rfl 36 _ _ _ HX2.out Tryd.underlying36 rfl (by rw [HZ2.out]; exact map_size) ?_))
  have hr2 : Rise [(kA, (1 : Int)), (kB, 2)] := by rw [← live_two]; exact (Rise.nil.ins _ _).ins _ _
  have HR2 := Lib.hid hr2
  clear hr2
  have hg := hm_Get w5 0 (by decide) 2 _ c2 kB (by decide) HM2.out HR2.out (by decide)
  rw [live_get] at hg
  refine hg.mono ?_
  rintro e w6 ⟨rfl, hb⟩
  replace HM2 := Lib.hid ((HM2.out).later hb)
  replace HM0 := Lib.hid ((HM0.out).later hb)
  replace HX2 := Lib.hid (((hb).block _ (Array.getElem?_eq_some_iff.1 HX2.out).1).trans HX2.out)
  replace HX1 := Lib.hid (((hb).block _ (Array.getElem?_eq_some_iff.1 HX1.out).1).trans HX1.out)
  replace HW := Lib.hid (HW.out.trans ((hb).mono HW.out.size))
  clear hg hb
  go_wp2_with (refine ld_if (by rfl) 36 _ rfl w1.heap.size rfl 36 _ _ _ HX1.out Tryd.underlying36 rfl (by rw [HZ0.out]; exact map_size) ?_)
  have hs := hm_Shape w6 0 2 [] c0 HM0.out (by simp) (HT.out.later HW.out).1 (HT.out.later HW.out).2
  rw [live_none] at hs
  refine hs.mono ?_
  rintro e w7 ⟨rfl, hb⟩
  replace HM2 := Lib.hid ((HM2.out).later hb)
  replace HM0 := Lib.hid ((HM0.out).later hb)
  replace HX2 := Lib.hid (((hb).block _ (Array.getElem?_eq_some_iff.1 HX2.out).1).trans HX2.out)
  replace HX1 := Lib.hid (((hb).block _ (Array.getElem?_eq_some_iff.1 HX1.out).1).trans HX1.out)
  replace HW := Lib.hid (HW.out.trans ((hb).mono HW.out.size))
  clear hs hb
  have hlen : ∀ W, Calls Tryd.prog 19 #[.agg c2] W fun r w' => r = .returned (.int .i64 2) ∧ Below W.heap.size W w' := fun W => by
    obtain ⟨bb, p1, q1, r1, p2, q2, r2, e, _⟩ := HM2.out
    rw [e]
    exact hm_Len W 0 2 2 bb p1 q1 r1 p2 q2 r2
  have HLEN := Lib.hid hlen
  clear hlen
  go_wp2_with (refine ld_if (by rfl) 36 _ rfl w4.heap.size rfl 36 _ _ _ HX2.out Tryd.underlying36 rfl (by rw [HZ2.out]; exact map_size) ?_)
  refine (HLEN.out _).mono ?_
  rintro e w8 ⟨rfl, hb⟩
  replace HM2 := Lib.hid ((HM2.out).later hb)
  replace HM0 := Lib.hid ((HM0.out).later hb)
  replace HX2 := Lib.hid (((hb).block _ (Array.getElem?_eq_some_iff.1 HX2.out).1).trans HX2.out)
  replace HX1 := Lib.hid (((hb).block _ (Array.getElem?_eq_some_iff.1 HX1.out).1).trans HX1.out)
  replace HW := Lib.hid (HW.out.trans ((hb).mono HW.out.size))
  clear hb
  go_wp2_with (refine ld_if (by rfl) 36 _ rfl w4.heap.size rfl 36 _ _ _ HX2.out Tryd.underlying36 rfl (by rw [HZ2.out]; exact map_size) ?_)
  refine (hm_Keys w8 0 2 _ c2 HM2.out HR2.out (by decide) (HT.out.later HW.out).1).mono ?_
  rintro e w9 ⟨v9, rfl, hk9, hb⟩
  replace HM2 := Lib.hid ((HM2.out).later hb)
  replace HW := Lib.hid (HW.out.trans ((hb).mono HW.out.size))
  have HK9 := Lib.hid hk9
  clear hb hk9 HX1 HX2 HM0
  go_wp2_with fail
  have HB10 : Hid (Below w9.heap.size w9 (w9.alloc (.cells #[.string kA, .string kB] 9))) := Below.newly' _ _
  have HC10 : Hid (CutS (fun g => w9.heap.size ≤ g) (w9.alloc (.cells #[.string kA, .string kB] 9)) (.slice (some ⟨w9.heap.size, 0, none⟩) 2 2) [kA, kB]) := cutS_new rfl rfl
  refine (ref_Words9 v9 _ [kA, kB] _ (HK9.out.later HB10.out).cutS HC10.out (by decide)).mono ?_
  rintro e w11 ⟨rfl, hb⟩
  replace HW := Lib.hid (HW.out.trans ((HB10.out.trans (hb.mono HB10.out.size)).mono HW.out.size))
  clear hb HK9 HC10 HB10 HM2
  go_wp2_with fail
  refine (HNEW.out 0 _).mono ?_
  rintro e w12 ⟨c12, rfl, hm, hb⟩
  have HM3 := Lib.hid hm.ml
  replace HW := Lib.hid (HW.out.trans (hb.mono HW.out.size))
  clear hm hb
  go_wp2_with fail
  refine (hm_Set w12 0 (by decide) 0 [] c12 kX 1 (by decide) HM3.out Rise.nil (by simp) (HT.out.later HW.out).1).mono ?_
  rintro e w13 ⟨c13, rfl, hm, hb⟩
  replace HW := Lib.hid (HW.out.trans (hb.mono HW.out.size))
  have HM4 := Lib.hid hm.ml
  clear hm hb HM3
  go_wp2_with fail
  have hs := hm_Shape w13 0 0 _ c13 HM4.out (by decide) (HT.out.later HW.out).1 (HT.out.later HW.out).2
  rw [live_one] at hs
  refine hs.mono ?_
  rintro e w14 ⟨rfl, hb⟩
  replace HW := Lib.hid (HW.out.trans (hb.mono HW.out.size))
  clear hs hb
  go_wp2_with fail
  go_ret
  exact ⟨rfl, HW.out⟩
end Go.Proofs.YtlngjabjeodkpaaDoor
