import Derived.Test.YtpodmgihlomglaaGreatDoorP34
namespace Go.Proofs.YtpodmgihlomglaaGreatDoor
open Go.RowKit
set_option maxRecDepth 1000000
set_option linter.unusedSimpArgs false
set_option maxHeartbeats 8000000 in
theorem live11 (w : World) (hT : Tab6 w) : Calls Tryz.prog 11 #[] w fun e w' => e = .returned (.bool true) ∧ Below w.heap.size w w' := by
 have HPR := Lib.hid (fun W => lw_pair W)
 have HOF : Hid (∀ W c, Below w.heap.size w W → TrV W pairT (.agg c) → Calls Tryz.prog 13 #[.agg #[.int .u64 0, .int .i64 0], .agg c] W fun e w' => ∃ y, e = .returned (.tuple #[.agg (celC y), .int .i64 0]) ∧ VAt (fun _ => True) w' pairT y ∧ Below W.heap.size W w') := fun W c hb hv => by
  have h := va_Of pairT _ W 0 0 hv (few_pair _) (txt_pair _) (by rw [nod_pair]; decide) (by decide) (hT.below hb)
  rw [chk_pair, if_pos rfl, can_pair] at h
  exact h.mono fun e w' ⟨y, h1, h2, h3⟩ => ⟨y, h1, h2.weak fun _ _ => trivial, h3⟩
 have HT := Lib.hid (fun W (hb : Below w.heap.size w W) => hT.below hb)
 clear hT
 go_enter Tryz.func11, Tryz.ntmps11
 go_upto_region 1 with fail
 go_upto_region 2 with (first
  | (go_at_call 39; (with_reducible refine (HPR.out _).mono ?_); rintro r w1 ⟨c, rfl, hv, hb⟩; have HV := Lib.hid hv; have HB1 := Lib.hid hb; clear hv hb)
  | (go_at_call 13; (with_reducible refine (HOF.out _ _ HB1.out HV.out).mono ?_); rintro r w2 ⟨y, rfl, hy, hb⟩; have HY := Lib.hid hy; have HB2 := Lib.hid (tW HB1.out hb); clear hy hb)
  | (refine st_agg rfl 35 _ _ rfl w2.heap.size (celC y) rfl rfl 35 #[.int .i64 0, .int .i64 0, .string ⟨#[]⟩, .pointer none] (heap_alloc_last _ _) val_size rfl (celC_one y) ?_; intro w3 h3 k3))
 have hb3 : Below w2.heap.size w2 w3 := (Below.newly' _ _).trans (k3.below (Nat.le_refl _))
 have HX3 := Lib.hid h3
 have HY3 := Lib.hid (HY.out.later hb3)
 have HB3 := Lib.hid (tW HB2.out hb3)
 obtain ⟨X, hX⟩ : ∃ X, X = w2.heap.size := ⟨_, rfl⟩
 rw [← hX] at HX3 ⊢
 clear hb3 h3 k3 hX HY HB2 HV HB1 HOF
 have HGE : Hid (Calls Tryz.prog 19 #[.agg (celC y), .agg #[.int .i64 0, .int .i64 1, .string ⟨#[]⟩]] w3 fun r w' => ∃ z, r = .returned (.tuple #[.agg (celC z), .int .i64 0]) ∧ VAt (fun _ => True) w' trueT z ∧ Below w3.heap.size w3 w') := by
  have h := va_Get w3 pairT y val_pair HY3.out 0 1 ⟨#[]⟩ (by decide)
  rw [get_pair] at h
  exact h
 go_upto_region 3 with (first
  | (refine ld_if rfl 35 _ rfl X rfl 35 _ _ _ HX3.out Tryz.underlying35 rfl val_size ?_)
  | (go_at_call 19; (with_reducible refine HGE.out.mono ?_); rintro r w4 ⟨z, rfl, hz, hb⟩; have HZ := Lib.hid hz; have HX4 := Lib.hid (kW hb HX3.out); have HY4 := Lib.hid (HY3.out.later hb); have HB4 := Lib.hid (tW HB3.out hb); clear hz hb)
  | (refine st_agg rfl 35 _ _ rfl w4.heap.size (celC z) rfl rfl 35 #[.int .i64 0, .int .i64 0, .string ⟨#[]⟩, .pointer none] (heap_alloc_last _ _) val_size rfl (celC_one z) ?_; intro w5 h5 k5))
 have hb5 : Below w4.heap.size w4 w5 := (Below.newly' _ _).trans (k5.below (Nat.le_refl _))
 have HZ5 := Lib.hid h5
 have hX5 := kW hb5 HX4.out
 have hY5 := HY4.out.later hb5
 have hB5 := tW HB4.out hb5
 have hzk : z.k = 1 := HZ.out.k
 obtain ⟨Z, hZ⟩ : ∃ Z, Z = w4.heap.size := ⟨_, rfl⟩
 rw [← hZ] at HZ5 ⊢
 have HBX := Lib.hid (fun W (hb : Below w5.heap.size w5 W) => kW hb hX5)
 have HBZ := Lib.hid (fun W (hb : Below w5.heap.size w5 W) => kW hb HZ5.out)
 have HKEY : Hid (∀ W, Below w5.heap.size w5 W → Calls Tryz.prog 28 #[.agg (celC y)] W fun r w' => r = .returned (.string ⟨#[5, 1, 2, 1, 0]⟩) ∧ Below W.heap.size W w') := fun W hb => by
  have h := va_Key W pairT y val_pair (hY5.later hb) (HT.out W (tW hB5 hb))
  rw [kB_pair] at h
  exact h
 have HDEP : Hid (∀ W, Below w5.heap.size w5 W → Calls Tryz.prog 31 #[.agg (celC y)] W fun r w' => r = .returned (.int .i64 2) ∧ Below W.heap.size W w') := fun W hb => by
  have h := va_Depth W pairT y val_pair (hY5.later hb)
  rw [dep_pair] at h
  exact h
 have HNOD : Hid (∀ W, Below w5.heap.size w5 W → Calls Tryz.prog 30 #[.agg (celC y)] W fun r w' => r = .returned (.int .i64 3) ∧ Below W.heap.size W w') := fun W hb => by
  have h := va_Nodes W pairT y val_pair (hY5.later hb)
  rw [nod_pair] at h
  exact h
 have HLEN : Hid (∀ W, Below w5.heap.size w5 W → Calls Tryz.prog 32 #[.agg (celC y)] W fun r w' => r = .returned (.int .i64 2) ∧ Below W.heap.size W w') := fun W hb => va_Len W pairT y val_pair (hY5.later hb)
 have HKND : Hid (∀ W, Calls Tryz.prog 37 #[.agg (celC z)] W fun r w' => r = .returned (.int .i64 1) ∧ Below W.heap.size W w') := fun W => by
  have h := va_Kind W z
  rw [hzk] at h
  exact h
 have HTRE : Hid (∀ W, Below w5.heap.size w5 W → Calls Tryz.prog 21 #[.agg (celC y)] W fun r w' => ∃ c, r = .returned (.agg c) ∧ TrV w' pairT (.agg c) ∧ Below W.heap.size W w') := fun W hb =>
  (va_Tree pairT W y val_pair (hY5.later hb) (HT.out W (tW hB5 hb))).mono fun r w' ⟨c, h1, _, h2, h3⟩ => ⟨c, h1, h2.trv, h3⟩
 have HSAM : Hid (∀ W c d, TrV W pairT (.agg c) → TrV W pairT (.agg d) → Calls Tryz.prog 20 #[.agg c, .agg d] W fun r w' => r = .returned (.bool true) ∧ Below W.heap.size W w') := fun W c d hc hd => by
  have h := rf_Same pairT pairT _ _ W hc hd
  rw [(same_iff pairT pairT).2 rfl] at h
  exact h
 have HB5 := Lib.hid hB5
 have HW := Lib.hid (Below.refl w5.heap.size w5)
 clear hb5 h5 k5 hX5 hY5 hB5 hzk hZ HZ HX4 HY4 HB4 HX3 HY3 HB3 HGE HZ5 HT
 go_wp2_with (first
  | (refine ld_if rfl 35 _ rfl X rfl 35 _ _ _ (HBX.out _ HW.out) Tryz.underlying35 rfl val_size ?_)
  | (refine ld_if rfl 35 _ rfl Z rfl 35 _ _ _ (HBZ.out _ HW.out) Tryz.underlying35 rfl val_size ?_)
  | (go_at_call 28; (with_reducible refine (HKEY.out _ HW.out).mono ?_); rintro r V ⟨rfl, hb⟩; replace HW := Lib.hid (tW HW.out hb); clear hb)
  | (go_at_call 31; (with_reducible refine (HDEP.out _ HW.out).mono ?_); rintro r V ⟨rfl, hb⟩; replace HW := Lib.hid (tW HW.out hb); clear hb)
  | (go_at_call 30; (with_reducible refine (HNOD.out _ HW.out).mono ?_); rintro r V ⟨rfl, hb⟩; replace HW := Lib.hid (tW HW.out hb); clear hb)
  | (go_at_call 32; (with_reducible refine (HLEN.out _ HW.out).mono ?_); rintro r V ⟨rfl, hb⟩; replace HW := Lib.hid (tW HW.out hb); clear hb)
  | (go_at_call 37; (with_reducible refine (HKND.out _).mono ?_); rintro r V ⟨rfl, hb⟩; replace HW := Lib.hid (tW HW.out hb); clear hb)
  | (go_at_call 21; (with_reducible refine (HTRE.out _ HW.out).mono ?_); rintro r V ⟨c1, rfl, hv, hb⟩; replace HW := Lib.hid (tW HW.out hb); have HC1 := Lib.hid hv; clear hv; clear hb)
  | (go_at_call 39; (with_reducible refine (HPR.out _).mono ?_); rintro r V ⟨c2, rfl, hv, hb⟩; replace HW := Lib.hid (tW HW.out hb); have HC2 := Lib.hid hv; replace HC1 := Lib.hid (HC1.out.later hb); clear hv; clear hb)
  | (go_at_call 20; (with_reducible refine (HSAM.out _ _ _ HC1.out HC2.out).mono ?_); rintro r V ⟨rfl, hb⟩; replace HW := Lib.hid (tW HW.out hb); clear hb))
 have hb := tW HB5.out HW.out
 go_ret
 exact ⟨rfl, hb⟩
end Go.Proofs.YtpodmgihlomglaaGreatDoor
