import Derived.Test.YtpodmgihlomglaaGreatDoorP24
import Derived.Test.YtpodmgihlomglaaGreatDoorP26
namespace Go.Proofs.YtpodmgihlomglaaGreatDoor
open Go.RowKit
set_option maxRecDepth 1000000
set_option linter.unusedSimpArgs false
set_option maxHeartbeats 4000000 in
theorem hm_Set {S : Nat → Prop} (w : World) (s : Nat) (hss : s < 18446744073709551616) (n : Int) (L : List Ent) (c : Array Value) (k : ByteArray) (x : Cel) (hk : k.size ≤ 9223372036854775800) (h : MapAt S w s n L c) (hL : Rise L) (hn : L.length ≤ 50000) (hT : Tab6 w) :
  Calls Tryz.prog 102 #[.agg c, .string k, .agg (celC x)] w fun r w' => ∃ c', r = .returned (.agg c') ∧ MapAt (fun g => S g ∨ w.heap.size ≤ g) w' s n (insE L k x) c' ∧ Below w.heap.size w w' := by
 obtain ⟨bb, a1, n1, c1, a2, n2, c2, rfl, hnd⟩ := h
 obtain ⟨l, hl⟩ : ∃ l, l = L.length := ⟨_, rfl⟩
 rw [← hl]
 have HSUM := Lib.hid (fun W => hm_Sum W s hss n l bb a1 n1 c1 a2 n2 c2 k hk)
 have hfi := (fun W (hb : Below w.heap.size w W) => hm_find (hsN s n) (hsN_lt s n) 13 (Nat.le_refl _) (fun g => S g ∧ g < w.heap.size) W L _ k (hnd.old.later hb) hL (Nat.le_trans hn (by omega)))
 rw [show (((13 - 13 : Nat) : Nat) : Int) = 0 from rfl] at hfi
 have HWI := Lib.hid (fun W (hb' : Below w.heap.size w W) b (he : EntAt (hsN s n) (fun g => (S g ∧ g < w.heap.size) ∨ w.heap.size + 3 ≤ g) W b (k, x)) => hm_with (hsN s n) (hsN_lt s n) 13 (Nat.le_refl _) (fun g => (S g ∧ g < w.heap.size) ∨ w.heap.size + 3 ≤ g) W L _ b k x ((hnd.old.later hb').weak fun _ h => .inl h) hL hn he (hT.below hb'))
 rw [show (((13 - 13 : Nat) : Nat) : Int) = 0 from rfl] at HWI
 obtain ⟨sm, hsm⟩ : ∃ sm, sm = hsN s n k := ⟨_, rfl⟩
 rw [← hsm] at HSUM hfi
 have hent : entC (hsN s n) (k, x) = #[.string k, .int .u64 (sm : Int), .int .i64 x.k, .int .i64 x.n, .string x.t, .pointer x.p] := by rw [hsm]; rfl
 unfold EntAt at HWI
 rw [hent] at HWI
 obtain ⟨w1, hw1⟩ : ∃ w1, ((w.alloc (.cells #[.int .u64 (s : Int), .int .i64 n, .int .i64 ((l : Nat) : Int), .int .u32 (bb : Int), .slice a1 n1 c1, .slice a2 n2 c2] 121)).alloc (.cells (celC x) 35)).alloc (.cells #[.int .u64 0, .int .i64 0, .int .i64 0, .int .u32 0, .slice none 0 0, .slice none 0 0] 121) = w1 := ⟨_, rfl⟩
 obtain ⟨hb1, hx1, hv1, hy1, hs1⟩ := three_newV hw1
 have HV1 := Lib.hid hv1
 have HX1 := Lib.hid hx1
 have HY1 := Lib.hid hy1
 have HB1 := Lib.hid hb1
 have HS1 := Lib.hid hs1
 have HHL := Lib.hid (And.intro hL hn)
 have HLL := Lib.hid hl
 cases hg : getE L k with
 | none =>
  have HFI : Hid (∀ W, Below w.heap.size w W → Calls Tryz.prog 116 #[.agg #[.int .u32 (bb : Int), .slice a1 n1 c1, .slice a2 n2 c2], .int .i64 0, .int .u64 (sm : Int), .string k] W fun r w' => r = .returned (.pointer none) ∧ Below W.heap.size W w') := fun W hb => (hfi W hb).mono fun _ _ h => by
   obtain ⟨p, h1, h2, h3⟩ := h
   unfold Found at h2
   rw [hg] at h2
   have h2 : p = none := h2
   subst h2
   exact ⟨h1, h3⟩
  have HGG := Lib.hid hg
  clear hx1 hs1 hv1 hy1 hb1 hsm hss hk hnd hL hn hl hT hfi hent hg
  unfold pv at HWI
  go_enter Tryz.func102, Tryz.ntmps102
  go_upto_region 1 with fail
  clear hw1
  refine wp_region_T (S := (fun V => V.heap[w.heap.size]? = some (.cells #[.int .u64 (s : Int), .int .i64 n, .int .i64 ((l : Nat) : Int), .int .u32 (bb : Int), .slice a1 n1 c1, .slice a2 n2 c2] 121 (0, 0)) ∧ V.heap[w.heap.size + 1]? = some (.cells (celC x) 35 (0, 0)))) [7] (by kernel_rfl) (by first | exact ⟨HXV.out, HVV.out⟩ | exact ⟨HX2.out, HV2.out⟩ | exact ⟨HX1.out, HV1.out⟩) (fun hHeld => ?_)
  refine tkA 0 8 (h := ?_)
  refine tyA 1 9 (hy := yieldsIf_load_row (by rfl) 121 _ rfl w.heap.size rfl #[.int .u64 (s : Int), .int .i64 n, .int .i64 ((l : Nat) : Int), .int .u32 (bb : Int), .slice a1 n1 c1, .slice a2 n2 c2] 121 (0, 0) _ (fun w hw => hw.1) Tryz.underlying121 rfl map_size) (h := ?_)
  refine tkA 2 10 (h := ?_)
  refine tyA 4 12 (hy := yieldsIf_load_row (by rfl) 35 _ rfl (w.heap.size + 1) rfl (celC x) 35 (0, 0) _ (fun w hw => hw.2) Tryz.underlying35 rfl val_size) (h := ?_)
  (try simp only [pq])
  refine tkO 3 (some 11) (h := fun K hK => ?_)
  go_simp
  go_at_call 117
  refine (HSUM.out _).mono ?_
  rintro r w2 ⟨rfl, hb⟩
  replace hb : Below w1.heap.size w1 w2 := (drawn_below w1).trans hb
  have HX2 := Lib.hid ((hb.block _ (by have := HS1.out; omega)).trans HX1.out)
  have HV2 := Lib.hid ((hb.block _ (by have := HS1.out; omega)).trans HV1.out)
  have HY2 := Lib.hid ((hb.block _ (by have := HS1.out; omega)).trans HY1.out)
  have HB2' := Lib.hid (tW HB1.out hb)
  have HS2 : Hid (w.heap.size + 3 ≤ w2.heap.size) := by show _ ≤ _; have := hb.size; have := HS1.out; omega
  clear hb
  dsimp only
  refine hK.out _ _ (by first | exact ⟨HXV.out, HVV.out⟩ | exact ⟨HX2.out, HV2.out⟩ | exact ⟨HX1.out, HV1.out⟩) (fun hHeld => ?_)
  clear hK K
  (try simp only [pq])
  refine tkA 5 13 (h := ?_)
  (try simp only [pq])
  refine tkO 6 (some 14) (h := fun K hK => ?_)
  go_simp
  obtain ⟨X, hX⟩ : ∃ X, X = w2.heap.size := ⟨_, rfl⟩
  obtain ⟨V2, hV2⟩ : ∃ V2, w2.alloc (.cells #[.string k, .int .u64 (sm : Int), .int .i64 x.k, .int .i64 x.n, .string x.t, .pointer x.p] 168) = V2 := ⟨_, rfl⟩
  rw [hV2, ← hX]
  obtain ⟨hb2, he2, hs2⟩ := new_below hV2
  rw [← hX] at he2 hs2
  have HXX : Hid (w.heap.size + 3 ≤ X) := by show _ ≤ _; rw [hX]; exact HS2.out
  have HB2 := Lib.hid (tW HB2'.out hb2)
  have HE2 := Lib.hid he2
  have HXV := Lib.hid ((hb2.block _ (by have := HS2.out; omega)).trans HX2.out)
  have HYV := Lib.hid ((hb2.block _ (by have := HS2.out; omega)).trans HY2.out)
  have HSV := Lib.hid hs2
  have HVV := Lib.hid ((hb2.block _ (by have := HS2.out; omega)).trans HV2.out)
  clear hX hV2 hb2 he2 hs2
  refine hK.out _ _ (by first | exact ⟨HXV.out, HVV.out⟩ | exact ⟨HX2.out, HV2.out⟩ | exact ⟨HX1.out, HV1.out⟩) (fun hHeld => ?_)
  clear hK K
  (try simp only [pq])
  refine tkU 7 (some 7) (h := fun K hK => ?_)
  go_simp
  refine hK.out _ _ ?_
  clear hK K
  (try simp only [pq])
  refine wpAnyT_done (by kernel_rfl) ?_ _
  go_upto_region 2 with fail
  have HKS : Hid (∀ V, Below V2.heap.size V2 V → (V.heap[w.heap.size]? = some (.cells #[.int .u64 (s : Int), .int .i64 n, .int .i64 ((l : Nat) : Int), .int .u32 (bb : Int), .slice a1 n1 c1, .slice a2 n2 c2] 121 (0, 0)) ∧ V.cell? ⟨X, 1, none⟩ = some (.int .u64 (sm : Int)))) := fun V hV =>
   ⟨(hV.block _ (by have := HSV.out; have := HXX.out; omega)).trans HXV.out, cell_in ((hV.block _ (by have := HSV.out; omega)).trans HE2.out) rfl⟩
  have HW : Hid (Below V2.heap.size V2 V2.drew) := drawn_below V2
  refine wp_region_T (S := (fun V => V.heap[w.heap.size]? = some (.cells #[.int .u64 (s : Int), .int .i64 n, .int .i64 ((l : Nat) : Int), .int .u32 (bb : Int), .slice a1 n1 c1, .slice a2 n2 c2] 121 (0, 0)) ∧ V.cell? ⟨X, 1, none⟩ = some (.int .u64 (sm : Int)))) [] (by kernel_rfl) (by exact HKS.out _ HW.out) (fun hHeld => ?_)
  refine tkA 0 15 (h := ?_)
  refine tyA 1 16 (hy := yieldsIf_arr (by rfl) 119 _ rfl w.heap.size 3 rfl #[.int .u32 (bb : Int), .slice a1 n1 c1, .slice a2 n2 c2] _ (fun w hw => (map_range hw.1)) Tryz.underlying119 rfl (by exact nd_size)) (h := ?_)
  refine tkA 2 17 (h := ?_)
  refine tkA 3 18 (h := ?_)
  refine tkA 4 19 (h := ?_)
  refine tkA 5 20 (h := ?_)
  refine tkA 6 21 (h := ?_)
  (try simp only [pq])
  refine tkO 7 (some 22) (h := fun K hK => ?_)
  go_simp
  go_at_call 116
  refine (HFI.out _ (tW HB2.out HW.out)).mono ?_
  rintro r w3 ⟨rfl, hb⟩
  replace HW := Lib.hid (tW HW.out hb)
  clear hb
  dsimp only
  refine hK.out _ _ (by exact HKS.out _ HW.out) (fun hHeld => ?_)
  clear hK K
  (try simp only [pq])
  refine tkA 8 23 (h := ?_)
  (try simp only [pq])
  refine wpAnyT_done (by kernel_rfl) ?_ _
  clear hHeld
  have HX3 := Lib.hid (HKS.out _ HW.out).1
  have HY3 := Lib.hid ((HW.out.block _ (by have := HSV.out; have := HXX.out; omega)).trans HYV.out)
  have HE3 := Lib.hid ((HW.out.block _ (by have := HSV.out; omega)).trans HE2.out)
  have HWW := Lib.hid (tW HB2.out HW.out)
  have HSL : Hid (X < w3.heap.size) := by show _ < _; have := HW.out.size; have := HSV.out; omega
  clear HKS HW
  have cx2 : w3.cell? ⟨w.heap.size, 2, none⟩ = some (.int .i64 (l : Int)) := cell_in HX3.out rfl
  obtain ⟨l5, hl5⟩ : ∃ l5, l5 = l + 1 := ⟨_, rfl⟩
  have HL5 := Lib.hid hl5
  have hwr2 : wrap64 ((l : Int) + 1) = (l5 : Int) := by
   have := HHL.out.2
   have := HLL.out
   unfold wrap64
   omega
  have hwr : IntKind.i64.wrap ((l : Int) + 1) = (l5 : Int) := by
   have := HHL.out.2
   have := HLL.out
   rw [IntKind.wrap_i64]
   omega
  clear hl5
  go_wp2_with (first
   | (refine st_cell rfl 3 _ _ rfl w.heap.size 2 (.int .i64 (l5 : Int)) rfl rfl rfl 121 _ HX3.out int_sz (by simp) ?_; intro w4 h4 k4; have HX4 : Hid (w4.heap[w.heap.size]? = some (.cells #[.int .u64 (s : Int), .int .i64 n, .int .i64 ((l5 : Nat) : Int), .int .u32 (bb : Int), .slice a1 n1 c1, .slice a2 n2 c2] 121 (0, 0))) := h4; have HY4 := Lib.hid (k4.other HY3.out (by omega)); have HE4 := Lib.hid (k4.other HE3.out (by have := HXX.out; omega)); have HB4 := Lib.hid (HWW.out.trans (k4.below (Nat.le_refl _))); have HSL4 := Lib.hid k4.size; have HC4 := Lib.hid (HWI.out w4 HB4.out X ⟨.inr HXX.out, _, HE4.out⟩); clear h4 k4 cx2)
   | (refine wpList_load_mid rfl 119 _ rfl w.heap.size 3 rfl [.int .u32 (bb : Int), .slice a1 n1 c1, .slice a2 n2 c2] _ (map_range HX4.out) Tryz.underlying119 rfl nd_size ?_)
   | (go_at_call 128; (with_reducible refine HC4.out.mono ?_); rintro r w5 ⟨c5, rfl, hn5, hb5⟩; have HN5 := Lib.hid hn5; obtain ⟨bb5, b1, m1, d1, b2, m2, d2, rfl⟩ := hn5.three; have HX5 := Lib.hid ((hb5.block _ (by have := HSL.out; have := HSL4.out; have := HXX.out; omega)).trans HX4.out); have HY5 := Lib.hid ((hb5.block _ (by have := HSL.out; have := HSL4.out; have := HXX.out; omega)).trans HY4.out); have HB5 := Lib.hid (tW HB4.out hb5); clear hn5 hb5)
   | (refine st_mid rfl 119 _ _ rfl w.heap.size 3 #[.int .u32 (bb5 : Int), .slice b1 m1 d1, .slice b2 m2 d2] rfl rfl 121 _ HX5.out nd_size (by simp) (by simp [Value.oneCell']) _ (map_mid _ _ _ _ _ _ _ _ _) ?_; intro w6 h6 k6; have HX6 := Lib.hid h6; have HK6 := Lib.hid k6; have HY6 := Lib.hid (k6.other HY5.out (by omega)); have HB6 := Lib.hid (HB5.out.trans (k6.below (Nat.le_refl _))); clear h6 k6)
   | (refine ld_if (by rfl) 121 _ rfl w.heap.size rfl 121 _ _ _ HX6.out Tryz.underlying121 rfl map_size ?_)
   | (refine st_agg rfl 121 _ _ rfl (w.heap.size + 2) #[.int .u64 (s : Int), .int .i64 n, .int .i64 ((l5 : Nat) : Int), .int .u32 (bb5 : Int), .slice b1 m1 d1, .slice b2 m2 d2] rfl rfl 121 _ HY6.out map_size rfl (by simp [Value.oneCell']) ?_; intro w7 h7 k7))
  refine bodyPost_ret (results_cell_row rfl _ _ (w.heap.size + 2) 121 _ (0, 0) _ rfl h7 Tryz.underlying121 rfl map_size) rfl ⟨_, rfl, ?_, HB6.out.trans (k7.below (by omega))⟩
  have h1 := HSL.out
  have h2 := HSL4.out
  have h3 := HXX.out
  refine ⟨bb5, b1, m1, d1, b2, m2, d2, ?_, ?_⟩
  ·rw [len_ins HHL.out.1, HGG.out, ← HLL.out]
   first | rfl | rw [HL5.out]; rfl
  ·exact ((HN5.out.kp (Kp.only HK6.out (fun h => by omega))).kp (Kp.only k7 (fun h => by omega))).weak fun g hg => by
    rcases hg with (hg | hg) | hg
    ·exact .inl hg.1
    ·exact .inr (by omega)
    ·exact .inr (by omega)
 | some y =>
  have HFI : Hid (∀ W, Below w.heap.size w W → Calls Tryz.prog 116 #[.agg #[.int .u32 (bb : Int), .slice a1 n1 c1, .slice a2 n2 c2], .int .i64 0, .int .u64 (sm : Int), .string k] W fun r w' => ∃ b : Nat, r = .returned (.pointer (some ⟨b, 0, none⟩)) ∧ Below W.heap.size W w') := fun W hb => (hfi W hb).mono fun _ _ h => by
   obtain ⟨p, h1, h2, h3⟩ := h
   unfold Found at h2
   rw [hg] at h2
   obtain ⟨b, rfl, _⟩ := h2
   exact ⟨b, h1, h3⟩
  have HGG := Lib.hid hg
  clear hx1 hs1 hv1 hy1 hb1 hsm hss hk hnd hL hn hl hT hfi hent hg
  unfold pv at HWI
  go_enter Tryz.func102, Tryz.ntmps102
  go_upto_region 1 with fail
  clear hw1
  refine wp_region_T (S := (fun V => V.heap[w.heap.size]? = some (.cells #[.int .u64 (s : Int), .int .i64 n, .int .i64 ((l : Nat) : Int), .int .u32 (bb : Int), .slice a1 n1 c1, .slice a2 n2 c2] 121 (0, 0)) ∧ V.heap[w.heap.size + 1]? = some (.cells (celC x) 35 (0, 0)))) [7] (by kernel_rfl) (by first | exact ⟨HXV.out, HVV.out⟩ | exact ⟨HX2.out, HV2.out⟩ | exact ⟨HX1.out, HV1.out⟩) (fun hHeld => ?_)
  refine tkA 0 8 (h := ?_)
  refine tyA 1 9 (hy := yieldsIf_load_row (by rfl) 121 _ rfl w.heap.size rfl #[.int .u64 (s : Int), .int .i64 n, .int .i64 ((l : Nat) : Int), .int .u32 (bb : Int), .slice a1 n1 c1, .slice a2 n2 c2] 121 (0, 0) _ (fun w hw => hw.1) Tryz.underlying121 rfl map_size) (h := ?_)
  refine tkA 2 10 (h := ?_)
  refine tyA 4 12 (hy := yieldsIf_load_row (by rfl) 35 _ rfl (w.heap.size + 1) rfl (celC x) 35 (0, 0) _ (fun w hw => hw.2) Tryz.underlying35 rfl val_size) (h := ?_)
  (try simp only [pq])
  refine tkO 3 (some 11) (h := fun K hK => ?_)
  go_simp
  go_at_call 117
  refine (HSUM.out _).mono ?_
  rintro r w2 ⟨rfl, hb⟩
  replace hb : Below w1.heap.size w1 w2 := (drawn_below w1).trans hb
  have HX2 := Lib.hid ((hb.block _ (by have := HS1.out; omega)).trans HX1.out)
  have HV2 := Lib.hid ((hb.block _ (by have := HS1.out; omega)).trans HV1.out)
  have HY2 := Lib.hid ((hb.block _ (by have := HS1.out; omega)).trans HY1.out)
  have HB2' := Lib.hid (tW HB1.out hb)
  have HS2 : Hid (w.heap.size + 3 ≤ w2.heap.size) := by show _ ≤ _; have := hb.size; have := HS1.out; omega
  clear hb
  dsimp only
  refine hK.out _ _ (by first | exact ⟨HXV.out, HVV.out⟩ | exact ⟨HX2.out, HV2.out⟩ | exact ⟨HX1.out, HV1.out⟩) (fun hHeld => ?_)
  clear hK K
  (try simp only [pq])
  refine tkA 5 13 (h := ?_)
  (try simp only [pq])
  refine tkO 6 (some 14) (h := fun K hK => ?_)
  go_simp
  obtain ⟨X, hX⟩ : ∃ X, X = w2.heap.size := ⟨_, rfl⟩
  obtain ⟨V2, hV2⟩ : ∃ V2, w2.alloc (.cells #[.string k, .int .u64 (sm : Int), .int .i64 x.k, .int .i64 x.n, .string x.t, .pointer x.p] 168) = V2 := ⟨_, rfl⟩
  rw [hV2, ← hX]
  obtain ⟨hb2, he2, hs2⟩ := new_below hV2
  rw [← hX] at he2 hs2
  have HXX : Hid (w.heap.size + 3 ≤ X) := by show _ ≤ _; rw [hX]; exact HS2.out
  have HB2 := Lib.hid (tW HB2'.out hb2)
  have HE2 := Lib.hid he2
  have HXV := Lib.hid ((hb2.block _ (by have := HS2.out; omega)).trans HX2.out)
  have HYV := Lib.hid ((hb2.block _ (by have := HS2.out; omega)).trans HY2.out)
  have HSV := Lib.hid hs2
  have HVV := Lib.hid ((hb2.block _ (by have := HS2.out; omega)).trans HV2.out)
  clear hX hV2 hb2 he2 hs2
  refine hK.out _ _ (by first | exact ⟨HXV.out, HVV.out⟩ | exact ⟨HX2.out, HV2.out⟩ | exact ⟨HX1.out, HV1.out⟩) (fun hHeld => ?_)
  clear hK K
  (try simp only [pq])
  refine tkU 7 (some 7) (h := fun K hK => ?_)
  go_simp
  refine hK.out _ _ ?_
  clear hK K
  (try simp only [pq])
  refine wpAnyT_done (by kernel_rfl) ?_ _
  go_upto_region 2 with fail
  have HKS : Hid (∀ V, Below V2.heap.size V2 V → (V.heap[w.heap.size]? = some (.cells #[.int .u64 (s : Int), .int .i64 n, .int .i64 ((l : Nat) : Int), .int .u32 (bb : Int), .slice a1 n1 c1, .slice a2 n2 c2] 121 (0, 0)) ∧ V.cell? ⟨X, 1, none⟩ = some (.int .u64 (sm : Int)))) := fun V hV =>
   ⟨(hV.block _ (by have := HSV.out; have := HXX.out; omega)).trans HXV.out, cell_in ((hV.block _ (by have := HSV.out; omega)).trans HE2.out) rfl⟩
  have HW : Hid (Below V2.heap.size V2 V2.drew) := drawn_below V2
  refine wp_region_T (S := (fun V => V.heap[w.heap.size]? = some (.cells #[.int .u64 (s : Int), .int .i64 n, .int .i64 ((l : Nat) : Int), .int .u32 (bb : Int), .slice a1 n1 c1, .slice a2 n2 c2] 121 (0, 0)) ∧ V.cell? ⟨X, 1, none⟩ = some (.int .u64 (sm : Int)))) [] (by kernel_rfl) (by exact HKS.out _ HW.out) (fun hHeld => ?_)
  refine tkA 0 15 (h := ?_)
  refine tyA 1 16 (hy := yieldsIf_arr (by rfl) 119 _ rfl w.heap.size 3 rfl #[.int .u32 (bb : Int), .slice a1 n1 c1, .slice a2 n2 c2] _ (fun w hw => (map_range hw.1)) Tryz.underlying119 rfl (by exact nd_size)) (h := ?_)
  refine tkA 2 17 (h := ?_)
  refine tkA 3 18 (h := ?_)
  refine tkA 4 19 (h := ?_)
  refine tkA 5 20 (h := ?_)
  refine tkA 6 21 (h := ?_)
  (try simp only [pq])
  refine tkO 7 (some 22) (h := fun K hK => ?_)
  go_simp
  go_at_call 116
  refine (HFI.out _ (tW HB2.out HW.out)).mono ?_
  rintro r w3 ⟨b0, rfl, hb⟩
  replace HW := Lib.hid (tW HW.out hb)
  clear hb
  dsimp only
  refine hK.out _ _ (by exact HKS.out _ HW.out) (fun hHeld => ?_)
  clear hK K
  (try simp only [pq])
  refine tkA 8 23 (h := ?_)
  (try simp only [pq])
  refine wpAnyT_done (by kernel_rfl) ?_ _
  clear hHeld
  have HX3 := Lib.hid (HKS.out _ HW.out).1
  have HY3 := Lib.hid ((HW.out.block _ (by have := HSV.out; have := HXX.out; omega)).trans HYV.out)
  have HE3 := Lib.hid ((HW.out.block _ (by have := HSV.out; omega)).trans HE2.out)
  have HWW := Lib.hid (tW HB2.out HW.out)
  have HSL : Hid (X < w3.heap.size) := by show _ < _; have := HW.out.size; have := HSV.out; omega
  clear HKS HW
  obtain ⟨w4, hw4⟩ : ∃ w4, w3 = w4 := ⟨_, rfl⟩
  subst hw4
  have HX4 := HX3
  have HY4 := HY3
  have HB4 := HWW
  have HSL4 : Hid (w3.heap.size ≤ w3.heap.size) := Nat.le_refl _
  have HC4 := Lib.hid (HWI.out w3 HB4.out X ⟨.inr HXX.out, _, HE3.out⟩)
  go_wp2_with (first
   | (refine wpList_load_mid rfl 119 _ rfl w.heap.size 3 rfl [.int .u32 (bb : Int), .slice a1 n1 c1, .slice a2 n2 c2] _ (map_range HX4.out) Tryz.underlying119 rfl nd_size ?_)
   | (go_at_call 128; (with_reducible refine HC4.out.mono ?_); rintro r w5 ⟨c5, rfl, hn5, hb5⟩; have HN5 := Lib.hid hn5; obtain ⟨bb5, b1, m1, d1, b2, m2, d2, rfl⟩ := hn5.three; have HX5 := Lib.hid ((hb5.block _ (by have := HSL.out; have := HSL4.out; have := HXX.out; omega)).trans HX4.out); have HY5 := Lib.hid ((hb5.block _ (by have := HSL.out; have := HSL4.out; have := HXX.out; omega)).trans HY4.out); have HB5 := Lib.hid (tW HB4.out hb5); clear hn5 hb5)
   | (refine st_mid rfl 119 _ _ rfl w.heap.size 3 #[.int .u32 (bb5 : Int), .slice b1 m1 d1, .slice b2 m2 d2] rfl rfl 121 _ HX5.out nd_size (by simp) (by simp [Value.oneCell']) _ (map_mid _ _ _ _ _ _ _ _ _) ?_; intro w6 h6 k6; have HX6 := Lib.hid h6; have HK6 := Lib.hid k6; have HY6 := Lib.hid (k6.other HY5.out (by omega)); have HB6 := Lib.hid (HB5.out.trans (k6.below (Nat.le_refl _))); clear h6 k6)
   | (refine ld_if (by rfl) 121 _ rfl w.heap.size rfl 121 _ _ _ HX6.out Tryz.underlying121 rfl map_size ?_)
   | (refine st_agg rfl 121 _ _ rfl (w.heap.size + 2) #[.int .u64 (s : Int), .int .i64 n, .int .i64 ((l : Nat) : Int), .int .u32 (bb5 : Int), .slice b1 m1 d1, .slice b2 m2 d2] rfl rfl 121 _ HY6.out map_size rfl (by simp [Value.oneCell']) ?_; intro w7 h7 k7))
  refine bodyPost_ret (results_cell_row rfl _ _ (w.heap.size + 2) 121 _ (0, 0) _ rfl h7 Tryz.underlying121 rfl map_size) rfl ⟨_, rfl, ?_, HB6.out.trans (k7.below (by omega))⟩
  have h1 := HSL.out
  have h2 := HSL4.out
  have h3 := HXX.out
  refine ⟨bb5, b1, m1, d1, b2, m2, d2, ?_, ?_⟩
  ·rw [len_ins HHL.out.1, HGG.out, ← HLL.out]
   rfl
  ·exact ((HN5.out.kp (Kp.only HK6.out (fun h => by omega))).kp (Kp.only k7 (fun h => by omega))).weak fun g hg => by
    rcases hg with (hg | hg) | hg
    ·exact .inl hg.1
    ·exact .inr (by omega)
    ·exact .inr (by omega)
def RowsW (B : Nat) (e : TypeId) (s : Nat) (v : Value) (cs : List (Array Value)) (w : World) : Prop :=
 w.ownsRow B e s v cs.length (cs.flatMap Array.toList) ∧ B ≤ w.heap.size ∧ ∀ c ∈ cs, c.size = s
section
variable {B : Nat} {e : TypeId} {s : Nat} {v : Value} {cs : List (Array Value)} {w w' : World}
theorem RowsW.own (h : RowsW B e s v cs w) : RowsOwn B e s v cs w := ⟨World.ownsRowF_of h.1, h.2⟩
theorem RowsW.nil (h : B ≤ w.heap.size) : RowsW B e s (.slice none 0 0) [] w := ⟨World.ownsRow_nil _ _ _ _, h, fun _ h => by cases h⟩
theorem RowsW.grown {row : Option Nat} (h : RowsW B e s v cs w) (hg : w.grownBy w' row) (hne : v.ownBlock = none ∨ v.ownBlock ≠ row) : RowsW B e s v cs w' :=
 ⟨h.1.kept hg hne, Nat.le_trans h.2.1 hg.size, h.2.2⟩
theorem RowsW.later (h : RowsW B e s v cs w) (hb : Below w.heap.size w w') : RowsW B e s v cs w' := h.grown (row := none) ⟨hb.os, hb.tape, hb.output, hb.size, fun k hk _ => hb.block k hk⟩ (by cases v.ownBlock <;> simp)
theorem RowsW.block (h : RowsW B e s v cs w) (hk : ∀ g o, v.ownBlock = some g → w.heap[g]? = some o → w'.heap[g]? = some o) (hs : w.heap.size ≤ w'.heap.size) : RowsW B e s v cs w' := by
 obtain ⟨⟨h1, h2⟩, h3, h4⟩ := h
 refine ⟨⟨h1, h2.imp_right ?_⟩, Nat.le_trans h3 hs, h4⟩
 rintro ⟨g, cap, cur, rfl, a2, a3, a4⟩
 exact ⟨g, cap, cur, rfl, a2, hk g _ rfl a3, a4⟩
theorem RowsW.ikw {Ts : TypeId → Prop} {Y : Nat} (h : RowsW B e s v cs w) (k : IKW Ts Y w w') (he : Ts e) : RowsW B e s v cs w' := by
 obtain ⟨⟨h1, h2⟩, h3, h4⟩ := h
 refine ⟨⟨h1, h2.imp_right ?_⟩, Nat.le_trans h3 k.1, h4⟩
 rintro ⟨g, cap, cur, rfl, a2, a3, a4⟩
 exact ⟨g, cap, cur, rfl, a2, k.2.2 _ _ _ _ a3 he, a4⟩
theorem RowsOwn.shape' (h : RowsOwn B e s v cs w) : ∃ a c, v = .slice a cs.length c := by
 rcases h.1.2 with ⟨rfl, h2⟩ | ⟨g, cap, cur, fz, rfl, _⟩
 ·exact ⟨none, 0, by rw [h2]⟩
 ·exact ⟨_, cap, rfl⟩
theorem RowsW.at_ (h : RowsW B e s v cs w) (hn : cs ≠ []) : ∃ g cap cur, v = .slice (some ⟨g, 0, none⟩) cs.length cap ∧ B ≤ g ∧ w.heap[g]? = some (.cells cur e (0, 0)) ∧ cs.length ≤ cap ∧ cur.size = cap * s ∧ cur.toList.take (cs.length * s) = cs.flatMap Array.toList := by
 obtain ⟨⟨_, h2⟩, _, _⟩ := h
 rcases h2 with ⟨_, h2⟩ | ⟨g, cap, cur, rfl, a2, a3, a4, a5, a6, a7⟩
 ·exact absurd (List.eq_nil_of_length_eq_zero h2) hn
 ·exact ⟨g, cap, cur, rfl, a2, a3, a4, a6, a7⟩
end
theorem rowsW_wp {o : Oper} {a : Act} {K : Act → World → Prop} {Q : Exit → Act → World → Prop} {w : World} (t e : TypeId) (p q : Operand)
  (ho : o.op = .call { callee := .builtin .append, args := #[p, q], argTypes := #[t, t] })
  {B s by_ : Nat} {z v : Value} {cs : List (Array Value)} {c : Array Value} (hs : a.eval p = v) (hb : RowsW B e s v cs w) (g cc : Nat) (hx : a.eval q = .slice (some ⟨g, 0, none⟩) 1 cc) {fr : Nat × Nat}
  (hg : w.heap[g]? = some (.cells c e fr)) (hc : c.size = s) (h1 : c.all (·.oneCell') = true) (hu : Tryz.prog.underlying t = some (.slice e)) (hi : (Tryz.prog.info? e).map (fun i => (i.zero, i.size, i.bytes)) = some (some z, s, by_))
  (hzs : z.cells.size = s) (hsz : 0 < s) (hlen : cs.length ≤ 900000) (hby : by_ ≤ 1000000)
  (h : ∀ v' w', RowsW B e s v' (cs ++ [c]) w' → w.grownBy w' v.ownBlock → (v'.ownBlock = v.ownBlock ∨ ∃ g', v'.ownBlock = some g' ∧ w.heap.size ≤ g') → K (a.put o.dst v') w') : o.wp Tryz.prog a w K Q := by
 obtain ⟨i, hi0, hz, h2, h3⟩ := info_parts hi
 have hcell : ∀ j u, c.toList[j]? = some u → w.cell? ((⟨g, 0, none⟩ : Addr).add j) = some u := fun j u hj => by
  have e : (⟨g, 0, none⟩ : Addr).add j = ⟨g, j, none⟩ := by unfold Addr.add; split <;> simp_all
  rw [e]
  exact cell_in hg (by simpa using hj)
 have hbytes : (cs.length + 1) * by_ ≤ 140737488355328 := by
  have : (cs.length + 1) * by_ ≤ 1000000 * 1000000 := Nat.mul_le_mul (by omega) hby
  omega
 have hone : ∀ u ∈ c.toList, u.oneCell' = true := fun u hu => (Array.all_eq_true_iff_forall_mem.1 h1) u (by simpa using hu)
 obtain ⟨v', w', hr, g1, g2, _⟩ := run_append_own (P := Tryz.prog) w B t o.type e i z s by_ hu hi0 hz h2 h3 hzs hsz v cs.length (cs.flatMap Array.toList) hb.1 ⟨g, 0, none⟩ 1 cc c.toList (by simp [hc]) hcell hone (by unfold maxLen; omega) hbytes hb.2.1
 have hnew := append_news t o.type e i z s by_ hu hi0 hz h2 h3 hzs hsz v cs.length (cs.flatMap Array.toList) (World.ownsRowF_of hb.1) ⟨g, 0, none⟩ 1 cc c.toList (by simp [hc]) hcell hone (by unfold maxLen; omega) hbytes v' w' hr
 unfold Oper.wp execOp
 simp only [ho, resolve, invoke, builtin, Sem.run_bind, Sem.run_pure, Result.andThen_ok, List.map_toArray, List.map_cons, List.map_nil, hs, hx, hr]
 refine h v' w' ⟨?_, Nat.le_trans hb.2.1 g2.size, fun x hx => ?_⟩ g2 hnew
 ·rw [List.length_append, List.flatMap_append]
  simpa using g1
 ·rcases List.mem_append.1 hx with hx | hx
  ·exact hb.2.2 x hx
  ·simp at hx; subst hx; exact hc
theorem stW_last {o : Oper} {a : Act} {w : World} {K : Act → World → Prop} {Q : Exit → Act → World → Prop} (ty : TypeId) (x y : Operand) (ho : o.op = .store ty x y) {B s : Nat} {v : Value} {cs : List (Array Value)} {z c : Array Value}
  (hb : RowsW B ty s v (cs ++ [z]) w) (g cap n k : Nat) (hv : v = .slice (some ⟨g, 0, none⟩) n cap) (hk : k = cs.length * s) (hx : a.eval x = .pointer (some ⟨g, k, none⟩)) (hy : a.eval y = .agg c) (hc : c.size = s) (h1 : c.all (·.oneCell') = true)
  (hi : (Tryz.prog.info? ty).map (·.size) = some s)
  (h : ∀ w', RowsW B ty s v (cs ++ [c]) w' → Only g w w' → K (a.put o.dst undef) w') : o.wp Tryz.prog a w K Q := by
 obtain ⟨g', cap', cur, hv', hB, hg, hn, hcs, htk⟩ := hb.at_ (by simp)
 have hs5 := hb.2.2
 rw [hv'] at hv
 simp only [Value.slice.injEq, Option.some.injEq, Addr.mk.injEq, and_true] at hv
 obtain ⟨rfl, hn', rfl⟩ := hv
 subst hk
 rw [List.length_append, List.length_singleton] at hn htk
 have hms : (cs.length + 1) * s ≤ cap' * s := Nat.mul_le_mul_right _ hn
 have hsu : (cs.length + 1) * s = cs.length * s + s := by rw [Nat.add_mul, Nat.one_mul]
 have hfl : (cs.flatMap Array.toList).length = cs.length * s := flat_len' s cs fun x hx => hs5 x (List.mem_append_left _ hx)
 have hcl : cur.toList.length = cap' * s := by rw [Array.length_toList, hcs]
 have e1 : cur.toList.take (cs.length * s) = cs.flatMap Array.toList := by
  have h1 := congrArg (List.take (cs.length * s)) htk
  rw [List.take_take, Nat.min_eq_left (by omega), List.flatMap_append, List.take_left' hfl] at h1
  exact h1
 have hc5 : c.toList.length = s := by rw [Array.length_toList, hc]
 refine st_mid_wp ty x y ho g' (cs.length * s) c hx hy ty cur hg (by rw [hi, hc]) (by rw [hcs, hc]; omega) h1 _ rfl fun w' h2 h3 => h w' ⟨⟨?_, .inr ⟨g', cap', _, ?_, hB, h2, ?_, hb.1.2.elim (fun h => absurd h.2 (by simp)) (fun ⟨_, _, _, e, _, _, _, h6, _⟩ => by rw [hv'] at e; simp only [Value.slice.injEq] at e; rw [e.2.2]; exact h6), ?_, ?_⟩⟩, Nat.le_trans hb.2.1 (by rw [h3.size]; exact Nat.le_refl _), fun z' hz' => ?_⟩ h3
 ·rw [flat_len' s (cs ++ [c]) fun x hx => ?_]
  rcases List.mem_append.1 hx with hx | hx
  ·exact hs5 x (List.mem_append_left _ hx)
  ·simp at hx; subst hx; exact hc
 ·rw [hv']; simp
 ·simp; omega
 ·simp only [List.size_toArray, List.length_append, List.length_take, List.length_drop, hcl, Array.length_toList, hc]
  omega
 ·rw [e1, List.length_append, List.length_singleton, List.flatMap_append]
  simp only [List.flatMap_cons, List.flatMap_nil, List.append_nil]
  rw [List.take_append_of_le_length (by rw [List.length_append, hfl, hc5]; omega), List.take_of_length_le (by rw [List.length_append, hfl, hc5]; omega)]
 ·rcases List.mem_append.1 hz' with hx | hx
  ·exact hs5 z' (List.mem_append_left _ hx)
  ·simp at hx; subst hx; exact hc
def NotOwn (B X : Nat) (kv xv : Value) (V : World) (g : Nat) : Prop := B ≤ g ∧ g < V.heap.size ∧ g ≠ X ∧ kv.ownBlock ≠ some g ∧ xv.ownBlock ≠ some g
structure TreeIn (B X : Nat) (k n : Int) (t : ByteArray) (ks : List ByteArray) (bx kv xv : Value) (css : List (Array Value)) (ys : List Tr) (V : World) : Prop where
 low : B ≤ X
 box : V.heap[X]? = some (.cells (trC k n t kv bx) 28 (0, 0))
 keys : RowsOwn B 9 1 kv (ks.map fun y => #[.string y]) V
 items : RowsW B 28 5 xv css V
 apart : xv.ownBlock ≠ some X
 parts : TrSL (NotOwn B X kv xv V) V ys (css.take ys.length)
section
variable {B X : Nat} {k n : Int} {t : ByteArray} {ks : List ByteArray} {bx kv xv kv' xv' : Value} {css : List (Array Value)} {ys : List Tr} {V V' V'' : World}
theorem RowsOwn.neX {e T : TypeId} {s : Nat} {v : Value} {cs : List (Array Value)} {fr : Nat × Nat} {c : Array Value} (h : RowsOwn B e s v cs V) (hb : V.heap[X]? = some (.cells c T fr)) (hT : e ≠ T) : v.ownBlock ≠ some X := by
 rcases h.own with h1 | ⟨g, cur, fz, h1, h2, h3⟩
 ·rw [h1]; simp
 ·intro h'
  rw [h1] at h'
  obtain rfl := Option.some.inj h'
  rw [hb] at h3
  simp only [Option.some.injEq, Obj.cells.injEq] at h3
  exact hT h3.2.1.symm
theorem RowsOwn.lt {e : TypeId} {s : Nat} {v : Value} {cs : List (Array Value)} {g : Nat} (h : RowsOwn B e s v cs V) (hg : v.ownBlock = some g) : B ≤ g ∧ g < V.heap.size := by
 rcases h.own with h1 | ⟨g', cur, fz, h1, h2, h3⟩
 ·rw [h1] at hg; cases hg
 ·rw [h1] at hg
  obtain rfl := Option.some.inj hg
  exact ⟨h2, (Array.getElem?_eq_some_iff.1 h3).1⟩
theorem RowsOwn.apart2 {e T : TypeId} {s s' : Nat} {v u : Value} {cs ds : List (Array Value)} {g : Nat} (h : RowsOwn B e s v cs V) (h' : RowsOwn B T s' u ds V) (hT : e ≠ T) (hg : v.ownBlock = some g) : u.ownBlock ≠ some g := by
 rcases h.own with h1 | ⟨g', cur, fz, h1, h2, h3⟩
 ·rw [h1] at hg; cases hg
 ·rw [h1] at hg
  obtain rfl := Option.some.inj hg
  exact h'.neX h3 (fun e => hT e.symm)
theorem TreeIn.moved (h : TreeIn B X k n t ks bx kv xv css ys V) (hs : V.heap.size ≤ V'.heap.size) (hk : ∀ (g : Nat) (cs : Array Value) (T : TypeId) (fr : Nat × Nat), (T = 9 ∨ T = 28) → V.heap[g]? = some (.cells cs T fr) → B ≤ g → V'.heap[g]? = some (.cells cs T fr)) : TreeIn B X k n t ks bx kv xv css ys V' where
 low := h.low
 box := hk _ _ _ _ (.inr rfl) h.box h.low
 keys := by
  obtain ⟨⟨h1, h2⟩, h3, h4⟩ := h.keys
  refine ⟨⟨h1, h2.imp_right ?_⟩, Nat.le_trans h3 hs, h4⟩
  rintro ⟨g, cap, cur, fz, a1, a2, a3, a4⟩
  exact ⟨g, cap, cur, fz, a1, a2, hk _ _ _ _ (.inl rfl) a3 a2, a4⟩
 items := by
  obtain ⟨⟨h1, h2⟩, h3, h4⟩ := h.items
  refine ⟨⟨h1, h2.imp_right ?_⟩, Nat.le_trans h3 hs, h4⟩
  rintro ⟨g, cap, cur, a1, a2, a3, a4⟩
  exact ⟨g, cap, cur, a1, a2, hk _ _ _ _ (.inr rfl) a3 a2, a4⟩
 apart := h.apart
 parts := h.parts.imp (fun g cur T fr hg hT e => hk g cur T fr hT e hg.1) fun g hg _ => ⟨hg.1, Nat.lt_of_lt_of_le hg.2.1 hs, hg.2.2⟩
theorem TreeIn.later (h : TreeIn B X k n t ks bx kv xv css ys V) (hb : Below V.heap.size V V') : TreeIn B X k n t ks bx kv xv css ys V' := h.moved hb.size fun g _ _ _ _ e _ => (hb.block g (Array.getElem?_eq_some_iff.1 e).1).trans e
theorem TreeIn.ikw {Ts : TypeId → Prop} {Y : Nat} (h : TreeIn B X k n t ks bx kv xv css ys V) (hi : IKW Ts Y V V') (h1 : Ts 9) (h2 : Ts 28) : TreeIn B X k n t ks bx kv xv css ys V' := h.moved hi.1 fun g cs T fr hT e _ => hi.2.2 g cs T fr e (by rcases hT with rfl | rfl <;> assumption)
theorem TreeIn.key (h : TreeIn B X k n t ks bx kv xv css ys V) (y : ByteArray) (hr : RowsOwn B 9 1 kv' ((ks.map fun y => #[.string y]) ++ [#[.string y]]) V') (hg : V.grownBy V' kv.ownBlock) (hn : kv'.ownBlock = kv.ownBlock ∨ ∃ g', kv'.ownBlock = some g' ∧ V.heap.size ≤ g')
  (ho : V'.grownBy V'' (some X)) (hx : V''.heap[X]? = some (.cells (trC k n t kv' bx) 28 (0, 0))) : TreeIn B X k n t (ks ++ [y]) bx kv' xv css ys V'' := by
 have hXl := (Array.getElem?_eq_some_iff.1 h.box).1
 have hkX := h.keys.neX h.box (by decide)
 have hbox' : V'.heap[X]? = some (.cells (trC k n t kv bx) 28 (0, 0)) := (hg.block X hXl (fun e => hkX e.symm)).trans h.box
 have hki : ∀ g, kv.ownBlock = some g → xv.ownBlock ≠ some g := fun g hg => h.keys.apart2 h.items.own (by decide) hg
 have hkX' : kv'.ownBlock ≠ some X := by
  rcases hn with e | ⟨g', e, hge⟩
  ·rw [e]; exact hkX
  ·rw [e]; intro e'; have := Option.some.inj e'; omega
 have hitm : RowsW B 28 5 xv css V' := h.items.grown hg (by
  cases hx : xv.ownBlock with
  | none => exact .inl rfl
  | some g => exact .inr fun e => hki g e.symm hx)
 have hno : ∀ g, NotOwn B X kv xv V g → NotOwn B X kv' xv V'' g := fun g ⟨a1, a2, a3, a4, a5⟩ => ⟨a1, by have := hg.size; have := ho.size; omega, a3, by
  rcases hn with e | ⟨g', e, hge⟩
  ·rw [e]; exact a4
  ·rw [e]; intro e'; have := Option.some.inj e'; omega, a5⟩
 refine ⟨h.low, hx, ?_, hitm.grown ho (.inr h.apart), h.apart, h.parts.imp ((KT.grown hg fun Y e hY => hY.2.2.2.1 e).trans (KT.grown ho fun Y e hY => ?_)) fun g hg _ => hno g hg⟩
 ·rw [List.map_append]
  exact hr.grown ho (.inr hkX')
 ·cases e; exact hY.2.2.1 rfl
theorem TreeIn.grew (h : TreeIn B X k n t ks bx kv xv css ys V) (hl : css.length = ys.length) {z : Array Value} (hr : RowsW B 28 5 xv' (css ++ [z]) V') (hg : V.grownBy V' xv.ownBlock) (hn : xv'.ownBlock = xv.ownBlock ∨ ∃ g', xv'.ownBlock = some g' ∧ V.heap.size ≤ g') :
  TreeIn B X k n t ks bx kv xv' (css ++ [z]) ys V' ∧ ∀ {a : Tr} {v : Value}, TrS (NotOwn B X kv xv V) V a v → TrS (NotOwn B X kv xv' V') V' a v := by
 have hXl := (Array.getElem?_eq_some_iff.1 h.box).1
 have hki : ∀ g, kv.ownBlock = some g → xv.ownBlock ≠ some g := fun g hg => h.keys.apart2 h.items.own (by decide) hg
 have hno : ∀ g, NotOwn B X kv xv V g → NotOwn B X kv xv' V' g := fun g ⟨a1, a2, a3, a4, a5⟩ => ⟨a1, by have := hg.size; omega, a3, a4, by
  rcases hn with e | ⟨g', e, hge⟩
  ·rw [e]; exact a5
  ·rw [e]; intro e'; have := Option.some.inj e'; omega⟩
 have hkt : KT (NotOwn B X kv xv V) V V' := KT.grown hg fun Y e hY => hY.2.2.2.2 e
 refine ⟨⟨h.low, (hg.block X hXl (fun e => h.apart e.symm)).trans h.box, ?_, hr, ?_, ?_⟩, fun ht => ht.imp hkt fun g hg _ => hno g hg⟩
 ·refine h.keys.grown hg ?_
  cases hx : kv.ownBlock with
  | none => exact .inl rfl
  | some g => exact .inr fun e => hki g hx e.symm
 ·rcases hn with e | ⟨g', e, hge⟩
  ·rw [e]; exact h.apart
  ·rw [e]; intro e'; have := Option.some.inj e'; omega
 ·have := h.parts
  rw [← hl, List.take_of_length_le (Nat.le_refl _)] at this
  rw [← hl, List.take_left]
  exact this.imp hkt fun g hg _ => hno g hg
theorem TreeIn.stored {z : Array Value} (h : TreeIn B X k n t ks bx kv xv (css ++ [z]) ys V) (hl : css.length = ys.length) {c : Array Value} {g : Nat} (hg : xv.ownBlock = some g) (hr : RowsW B 28 5 xv (css ++ [c]) V') (ho : Only g V V') :
  TreeIn B X k n t ks bx kv xv (css ++ [c]) ys V' ∧ ∀ {a : Tr} {v : Value}, TrS (NotOwn B X kv xv V) V a v → TrS (NotOwn B X kv xv V') V' a v := by
 have hXl := (Array.getElem?_eq_some_iff.1 h.box).1
 have hki : kv.ownBlock ≠ some g := fun e => h.keys.apart2 h.items.own (by decide) e hg
 have hgX : X ≠ g := fun e => h.apart (by rw [hg, e])
 have hno : ∀ g, NotOwn B X kv xv V g → NotOwn B X kv xv V' g := fun g ⟨a1, a2, a3, a4, a5⟩ => ⟨a1, by rw [ho.size]; exact a2, a3, a4, a5⟩
 have hkt : KT (NotOwn B X kv xv V) V V' := KT.grown ho.by_ fun Y e hY => by cases e; exact hY.2.2.2.2 hg
 refine ⟨⟨h.low, ho.other h.box hgX, h.keys.grown ho.by_ (.inr hki), hr, h.apart, ?_⟩, fun ht => ht.imp hkt fun g hg _ => hno g hg⟩
 have := h.parts
 rw [← hl, List.take_left] at this ⊢
 exact this.imp hkt fun g hg _ => hno g hg
theorem TreeIn.boxed (h : TreeIn B X k n t ks bx kv xv css ys V) (ho : Only X V V') {bx' : Value} (hx : V'.heap[X]? = some (.cells (trC k n t kv bx') 28 (0, 0))) :
  TreeIn B X k n t ks bx' kv xv css ys V' ∧ ∀ {a : Tr} {v : Value}, TrS (NotOwn B X kv xv V) V a v → TrS (NotOwn B X kv xv V') V' a v := by
 have hkX := h.keys.neX h.box (by decide)
 have hno : ∀ g, NotOwn B X kv xv V g → NotOwn B X kv xv V' g := fun g ⟨a1, a2, a3, a4, a5⟩ => ⟨a1, by rw [ho.size]; exact a2, a3, a4, a5⟩
 have hkt : KT (NotOwn B X kv xv V) V V' := KT.grown ho.by_ fun Y e hY => by cases e; exact hY.2.2.1 rfl
 exact ⟨⟨h.low, hx, h.keys.grown ho.by_ (.inr hkX), h.items.grown ho.by_ (.inr h.apart), h.apart, h.parts.imp hkt fun g hg _ => hno g hg⟩, fun ht => ht.imp hkt fun g hg _ => hno g hg⟩
theorem TreeIn.part {y : Tr} {c : Array Value} (h : TreeIn B X k n t ks bx kv xv (css ++ [c]) ys V) (hl : css.length = ys.length) (hc : c.size = 5) (hy : TrS (NotOwn B X kv xv V) V y (.agg c)) : TreeIn B X k n t ks bx kv xv (css ++ [c]) (ys ++ [y]) V where
 low := h.low
 box := h.box
 keys := h.keys
 items := h.items
 apart := h.apart
 parts := by
  have := h.parts
  rw [← hl, List.take_left] at this
  rw [List.take_of_length_le (by simp; omega)]
  exact trSL_app this (trSL_one hc hy)
theorem TreeIn.news2 {a : Tr} {v : Value} {n₀ : Nat} (h : TreeIn B X k n t ks bx kv xv css ys V) (ht : TrS (fun g => n₀ ≤ g) V a v) (hX : X < n₀) (h1 : ∀ g, kv.ownBlock = some g → g < n₀) (h2 : ∀ g, xv.ownBlock = some g → g < n₀) : TrS (NotOwn B X kv xv V) V a v := by
 have := h.low
 refine ht.imp KT.refl fun g hg hl => ⟨by omega, hl, by omega, fun e => ?_, fun e => ?_⟩
 ·have := h1 g e; omega
 ·have := h2 g e; omega
theorem flat_strs : ∀ ks : List ByteArray, (ks.map fun y => (#[.string y] : Array Value)).flatMap Array.toList = ks.map Value.string
 | [] => rfl
 | a :: l => by rw [List.map_cons, List.flatMap_cons, flat_strs l]; rfl
theorem TreeIn.tree (h : TreeIn B X k n t ks xv kv xv css ys V) (hl : css.length = ys.length) (ht : t.size ≤ maxLen) (hk : InR k) (hn : InR n) : TrS (fun g => B ≤ g) V (.nd k n t ks ys) (.agg (trC k n t kv xv)) := by
 have h1 := h.keys.lsT
 have h2 := h.items.own.lsT
 have h3 := h.parts
 rw [List.take_of_length_le (by omega)] at h3
 rw [TrS]
 refine ⟨kv, xv, css, rfl, ht, hk, hn, ?_, ?_, h3.weak fun g hg => hg.1⟩
 ·rw [flat_strs, List.length_map] at h1
  exact h1.imp (.inl rfl) KT.refl fun g hg _ => (h.keys.lt hg).1
 ·rw [hl] at h2
  exact h2.imp (.inr rfl) KT.refl fun g hg _ => (h.items.own.lt hg).1
end
end Go.Proofs.YtpodmgihlomglaaGreatDoor
namespace Go.Proofs.YtpodmgihlomglaaGreatDoor
open Go.RowKit
set_option maxRecDepth 1000000
set_option linter.unusedSimpArgs false
set_option maxHeartbeats 1000000 in
theorem va_Key (w : World) (a : Tr) (x : Cel) (ha : ValB a) (hv : VAt (fun _ => True) w a x) (hT : Tab6 w) :
  Calls Tryz.prog 28 #[.agg (celC x)] w fun r w' => r = .returned (.string (kB a)) ∧ Below w.heap.size w w' := by
 obtain ⟨w1, hw1⟩ : ∃ w1, w.alloc (.cells (celC x) 35) = w1 := ⟨_, rfl⟩
 obtain ⟨hb1, hx1, hs1⟩ := new_below hw1
 have hv' : VAt (fun g => g < w.heap.size) w a x := hv.old.weak fun _ h => h.2
 have hlt : 0 < w.heap.size := World.block_lt_of_cell? w _ (hT 0 (by decide))
 have hk := ha.key
 have HA := Lib.hid (va_appendKey a w1 x w.heap.size (.slice none 0 0) [] ha (hv'.low hb1) (hT.below hb1) hlt (Buf.nil hb1.size) (by simp; omega))
 have HX1 := Lib.hid hx1
 have HB1 := Lib.hid hb1
 clear hx1 hb1 hs1 hv hv' hT hlt ha hk
 go_enter Tryz.func28, Tryz.ntmps28
 go_upto_region 1 with fail
 clear hw1
 go_wp2_with (first
  | (refine ld_if rfl 35 _ rfl w.heap.size rfl 35 _ _ _ HX1.out Tryz.underlying35 rfl val_size ?_)
  | (go_at_call 63; refine HA.out.mono ?_; rintro r w2 ⟨v2, rfl, hf2, hkw⟩; have hcv := hf2.str; have HK := Lib.hid hkw; clear hkw))
 go_ret
 exact ⟨rfl, HB1.out.trans HK.out.1⟩
end Go.Proofs.YtpodmgihlomglaaGreatDoor
