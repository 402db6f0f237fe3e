import Derived.Test.YtpodmgihlomglaaGreatDoorQ34
namespace Go.Proofs.YtpodmgihlomglaaGreatDoor
open Go.RowKit
set_option maxRecDepth 1000000
set_option linter.unusedSimpArgs false
def noneT (k : Int) : Tr := .nd k 0 ⟨#[]⟩ [] []
theorem chk_none {k : Int} (hk : k = 4 ∨ k = 5 ∨ k = 6) : chkT (noneT k) = 0 := by
 refine chkT_ok.2 ⟨?_, ?_, ?_⟩
 ·unfold noneT
  rw [OkT, OkL]
  refine ⟨own_ok.2 (.inr ⟨rfl, rfl, ?_⟩), trivial, fun _ => by rw [canL]; simp⟩
  rcases hk with rfl | rfl | rfl
  ·exact .inl ⟨rfl, rfl⟩
  ·exact .inr (.inl ⟨rfl, rfl, List.nodup_nil⟩)
  ·exact .inr (.inr ⟨rfl, rfl⟩)
 ·unfold noneT
  simp [depT, depL]
 ·unfold noneT
  simp [nodT, nodL]
theorem can_none {k : Int} (hk : k = 4 ∨ k = 5 ∨ k = 6) : canT (noneT k) = noneT k := by
 unfold noneT
 rcases hk with rfl | rfl | rfl
 ·rw [canT, if_neg (by decide), if_neg (by decide), canL]
 ·rw [canT, if_pos rfl, canL]
  rfl
 ·rw [canT, if_neg (by decide), if_pos rfl, canL]
  rfl
theorem val_none {k : Int} (hk : k = 4 ∨ k = 5 ∨ k = 6) : ValB (noneT k) := by
 have h1 := chkT_ok.1 (chk_none hk)
 have hr : RngT (noneT k) := by
  unfold noneT
  rw [RngT, RngL]
  exact ⟨by decide, trivial⟩
 have h2 := can_good (noneT k) h1.1 hr
 rw [can_none hk] at h2
 refine ⟨⟨h2, h1.2⟩, ?_⟩
 unfold noneT
 rw [TxtT, TxtL]
 exact ⟨Nat.zero_le _, by simp, trivial⟩
set_option maxHeartbeats 8000000 in
theorem lw_empty (w : World) (k : Int) (hk : k = 4 ∨ k = 5 ∨ k = 6) (hT : Tab6 w) : Calls Tryz.prog 33 #[.int .i64 k] w fun e w' => ∃ y, e = .returned (.agg (celC y)) ∧ VAt (fun g => w.heap.size ≤ g) w' (noneT k) y ∧ Below w.heap.size w w' := by
 obtain ⟨w1, hw1⟩ : ∃ w1, w.alloc (.cells #[.int .i64 0, .int .i64 0, .string ⟨#[]⟩, .pointer none] 35) = w1 := ⟨_, rfl⟩
 obtain ⟨hb1, hr1, hs1⟩ := new_below hw1
 have HOF : Hid (Calls Tryz.prog 13 #[.agg #[.int .u64 0, .int .i64 8], .agg (trC k 0 ⟨#[]⟩ (.slice none 0 0) (.slice none 0 0))] w1 fun e w' => ∃ y, e = .returned (.tuple #[.agg (celC y), .int .i64 0]) ∧ VAt (fun g => w1.heap.size ≤ g) w' (noneT k) y ∧ Below w1.heap.size w1 w') := by
  have hv : TrV w1 (noneT k) (.agg (trC k 0 ⟨#[]⟩ (.slice none 0 0) (.slice none 0 0))) := trV_leaf w1 (by rcases hk with rfl | rfl | rfl <;> decide) (by decide)
  have h := va_Of (noneT k) _ w1 0 8 hv (by unfold noneT; rw [FewT, FewL]; exact ⟨Nat.zero_le _, trivial⟩) (val_none hk).2 (by unfold noneT; simp [nodT, nodL]) (by decide) (hT.below hb1)
  rw [chk_none hk, if_pos rfl, can_none hk] at h
  exact h
 have HR1 := Lib.hid hr1
 have HB1 := Lib.hid hb1
 have HS1 := Lib.hid hs1
 clear hr1 hb1 hs1 hT hk
 go_enter Tryz.func33, Tryz.ntmps33
 go_upto_region 1 with fail
 clear hw1
 go_upto_region 2 with (first
  | (go_at_call 13; (with_reducible refine HOF.out.mono ?_); rintro r w2 ⟨y, rfl, hy, hb⟩; have HY := Lib.hid hy; have HB2 := Lib.hid hb; have HR2 := Lib.hid ((hb.block _ (Array.getElem?_eq_some_iff.1 HR1.out).1).trans HR1.out); clear hy hb)
  | (refine st_agg rfl 35 _ _ rfl w2.heap.size (celC y) rfl rfl 35 #[.int .i64 0, .int .i64 0, .string ⟨#[]⟩, .pointer none] (heap_alloc_last _ _) val_size rfl (celC_one y) ?_; intro w3 h3 k3))
 have hb3 : Below w2.heap.size w2 w3 := (Below.newly' _ _).trans (k3.below (Nat.le_refl _))
 have HX3 := Lib.hid h3
 have HR3 := Lib.hid ((hb3.block _ (Array.getElem?_eq_some_iff.1 HR2.out).1).trans HR2.out)
 have HY3 := Lib.hid (HY.out.later hb3)
 have HB3 := Lib.hid (HB1.out.trans ((HB2.out.trans (hb3.mono HB2.out.size)).mono HB1.out.size))
 clear hb3 h3 k3 HY
 go_wp2_with (first
  | (refine ld_if rfl 35 _ rfl w2.heap.size rfl 35 _ _ _ HX3.out Tryz.underlying35 rfl val_size ?_)
  | (refine st_agg rfl 35 _ _ rfl w.heap.size (celC y) rfl rfl 35 _ HR3.out val_size rfl (celC_one y) ?_; intro w9 h9 k9))
 have hs1 := HS1.out
 exact bodyPost_ret (results_cell_row rfl _ _ (w.heap.size) 35 _ (0, 0) _ rfl h9 Tryz.underlying35 rfl val_size) rfl ⟨y, rfl, HY3.out.imp (Kq.only k9 (by omega)) (fun g h _ => by omega), HB3.out.trans (k9.below (by omega))⟩
end Go.Proofs.YtpodmgihlomglaaGreatDoor
