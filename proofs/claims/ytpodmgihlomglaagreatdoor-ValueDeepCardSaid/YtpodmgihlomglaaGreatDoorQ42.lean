import Derived.Test.YtpodmgihlomglaaGreatDoorQ38
import Derived.Test.YtpodmgihlomglaaGreatDoorQ39
import Derived.Test.YtpodmgihlomglaaGreatDoorQ40
import Derived.Test.YtpodmgihlomglaaGreatDoorQ41
namespace Go.Proofs.YtpodmgihlomglaaGreatDoor
open Go.RowKit
set_option maxRecDepth 1000000
set_option linter.unusedSimpArgs false
theorem tail4 {α β γ δ : Type} {Q P : α → β → γ → δ → Prop} {G : Prop} (main : (∀ a b c d, Q a b c d → P a b c d) → G) (rest : ∀ a b c d, Q a b c d → P a b c d) : G := main rest
def DeepIn (w : World) (X : Nat) (dp : Nat) (V : World) : Prop := dp ≤ 64 ∧ (∃ (vt : Tr) (x : Cel), Chain vt dp ∧ VAt (fun g => g ≠ X) V vt x ∧ V.heap[X]? = some (.cells (celC x) 35 (0, 0))) ∧ Below w.heap.size w V
set_option maxHeartbeats 8000000 in
theorem valueDeep_of (va : Value) (l : List Int) (w : World) (hl : IntsAt w va l) (hT : Tab6 w) : Calls Tryz.prog 9 #[va] w fun e w' => e = .returned (.bool true) ∧ Below w.heap.size w w' := by
 obtain ⟨a, c, b, o, rfl, ha, hcs, _, hmx⟩ := hl
 have HTB := Lib.hid (fun V (hb : Below w.heap.size w V) => hT.below hb)
 obtain ⟨lx, hlx⟩ : ∃ lx, lx = l.length := ⟨_, rfl⟩
 rw [← hlx] at ha ⊢
 have HLX := Lib.hid hlx
 have HB := Lib.hid (Below.refl w.heap.size w)
 have HCS := Lib.hid (⟨ha, hcs⟩ : (0 < lx → a = some ⟨b, o, none⟩) ∧ ∀ j, j < l.length → w.cell? ⟨b, o + j, none⟩ = some (.int .i64 (l.getD j 0)))
 clear hT hcs hlx ha hmx
 by_cases h100 : 100 < lx
 ·have h100' : (100 : Int) < (lx : Int) := by omega
  go_enter Tryz.func9, Tryz.ntmps9
  go_wp2_with (first
   | (go_at_call 11; (with_reducible refine (live11 _ (HTB.out _ HB.out)).mono ?_); rintro e w1 ⟨rfl, hb⟩; replace HB := Lib.hid (HB.out.trans (hb.mono HB.out.size)); clear hb))
  go_ret
  exact ⟨rfl, HB.out⟩
 have h100' : ¬ (100 : Int) < (lx : Int) := by omega
 go_enter Tryz.func9, Tryz.ntmps9
 go_upto_region 3 with (first
  | (go_at_call 11; (with_reducible refine (live11 _ (HTB.out _ HB.out)).mono ?_); rintro e w1 ⟨rfl, hb⟩; replace HB := Lib.hid (HB.out.trans (hb.mono HB.out.size)); clear hb))
 go_upto_region 4 with (first
  | (refine st_agg rfl 35 _ _ rfl w1.heap.size #[.int .i64 0, .int .i64 0, .string ⟨#[]⟩, .pointer none] rfl rfl 35 #[.int .i64 0, .int .i64 0, .string ⟨#[]⟩, .pointer none] (heap_alloc_last _ _) val_size rfl (by simp [Value.oneCell']) ?_; intro w2 h2 k2))
 have hb2 : Below w1.heap.size w1 w2 := (Below.newly' _ _).trans (k2.below (Nat.le_refl _))
 obtain ⟨X, hX⟩ : ∃ X, X = w1.heap.size := ⟨_, rfl⟩
 rw [← hX] at h2 ⊢
 have HXB : Hid (w.heap.size ≤ X) := by show _ ≤ _; rw [hX]; exact HB.out.size
 have H0 : Hid (DeepIn w X 1 w2) := ⟨by decide, ⟨nullT, zeroV, chain_null, vAt_null _ _, h2⟩, HB.out.trans (hb2.mono HB.out.size)⟩
 clear h2 k2 hb2 hX HB
 go_wp2_with fail
 go_loopw [4, 6, 7, 8, 20] (fun d k p e i wl => ∃ (j dp : Nat), j ≤ lx ∧ i = .int .i64 (j : Int) ∧ d = .int .i64 (dp : Int) ∧ (∃ c, c = k) ∧ (∃ c, c = p) ∧ (∃ c, c = e) ∧ Hid (DeepIn w X dp wl)) (fun _ _ _ _ i _ => lx - (intOf i).toNat)
 case atStart => exact ⟨0, 1, Nat.zero_le _, rfl, rfl, ⟨_, rfl⟩, ⟨_, rfl⟩, ⟨_, rfl⟩, H0.out⟩
 case round =>
  obtain ⟨j, dp, hj, rfl, rfl, _, _, _, HI⟩ := hrel
  by_cases hlt : j < lx
  ·have hlt' : (j : Int) < (lx : Int) := by omega
   have i0 : (0 : Int) ≤ (j : Int) := by omega
   obtain ⟨hdp, ⟨vt, x, hch, hv, hx⟩, hbw⟩ := HI.out
   have hjl : j < l.length := by rw [← HLX.out]; exact hlt
   obtain ⟨z, hz⟩ : ∃ z, z = l[j] := ⟨_, rfl⟩
   obtain ⟨g, o, rfl, hcell⟩ : ∃ g o, a = some ⟨g, o, none⟩ ∧ wr.cell? ⟨g, o + j, none⟩ = some (.int .i64 z) := by
    refine ⟨b, o, HCS.out.1 (by omega), ?_⟩
    have h2 := HCS.out.2 j hjl
    rw [List.getD_eq_getElem?_getD, List.getElem?_eq_getElem hjl, Option.getD_some, ← hz] at h2
    exact (hbw.cell (World.block_lt_of_cell? w _ h2)).trans h2
   have HXR := Lib.hid hx
   have HVR := Lib.hid hv
   have HCH := Lib.hid hch
   have HBR := Lib.hid hbw
   clear hx hv hch hbw hz HCS
   go_upto_region 7 with fail
   obtain ⟨wg, hwg⟩ : ∃ wg, wg = wr.drew := ⟨_, rfl⟩
   have HDR : Hid (Below wr.heap.size wr wg) := by show Below _ _ _; rw [hwg]; exact drawn_below wr
   obtain ⟨t4, e4, he4⟩ : ∃ t4 e4, withinT (.nd 4 0 ⟨#[]⟩ [] [vt]) = (t4, e4) := ⟨_, _, rfl⟩
   have HE4 := Lib.hid he4
   have HEM : Hid (∀ W, Below wg.heap.size wg W → Calls Tryz.prog 33 #[.int .i64 4] W fun e w' => ∃ y0, e = .returned (.agg (celC y0)) ∧ VAt (fun g => W.heap.size ≤ g) w' (noneT 4) y0 ∧ Below W.heap.size W w') := fun W hb =>
    (lw_empty W 4 (.inl rfl) (HTB.out _ (HBR.out.trans ((HDR.out.trans (hb.mono HDR.out.size)).mono HBR.out.size))))
   have HXV : Hid (∀ W, Below wg.heap.size wg W → VAt (fun g => g ≠ X ∧ g < wg.heap.size) W vt x) := fun W hb => (HVR.out.later HDR.out).old.later hb
   have HIN : Hid (∀ (S : Nat → Prop) W y0, VAt S W (noneT 4) y0 → VAt S W vt x → Below wg.heap.size wg W → Calls Tryz.prog 34 #[.agg (celC y0), .int .i64 0, .agg (celC x)] W fun r w' => ∃ y, r = .returned (.tuple #[.agg (celC y), .int .i64 e4]) ∧ VAt (fun g => S g ∨ W.heap.size ≤ g) w' t4 y ∧ Below W.heap.size W w') := fun S W y0 h0 hx hb => by
    have h := va_Insert (S := S) W (noneT 4) y0 (val_none (.inl rfl)) h0 0 vt x HCH.out.1 hx
    rw [ins_none, HE4.out] at h
    exact h
   have HXG := Lib.hid ((HDR.out.block _ (Array.getElem?_eq_some_iff.1 HXR.out).1).trans HXR.out)
   have HXL : Hid (X < wg.heap.size) := (Array.getElem?_eq_some_iff.1 HXG.out).1
   have HKS : Hid (∀ V, Below wg.heap.size wg V → (V.heap[X]? = some (.cells (celC x) 35 (0, 0)))) := fun V hV => (hV.block _ (Array.getElem?_eq_some_iff.1 HXG.out).1).trans HXG.out
   have HW : Hid (Below wg.heap.size wg wg) := Below.refl _ _
   clear he4
   have HWG := Lib.hid hwg
   clear hwg
   apply tail4 (Q := fun (Z : Nat) (wS : World) (y0 y : Cel) => wS.heap[X]? = some (.cells (celC x) 35 (0, 0)) ∧ wS.heap[Z]? = some (.cells (celC y) 35 (0, 0)) ∧ VAt (fun g => g ≠ X) wS t4 y ∧ VAt (fun g => g ≠ X ∧ g ≠ Z) wS vt x ∧ Below w.heap.size w wS ∧ X < Z)
   case main =>
    intro REST
    refine wp_region_T (S := (fun V => V.heap[X]? = some (.cells (celC x) 35 (0, 0)))) [5, 7, 8] (by kernel_rfl) (by rw [← HWG.out]; exact HKS.out _ HW.out) (fun hHeld => ?_)
    rw [← HWG.out] at hHeld ⊢
    refine tyL 1 26 (hy := yieldsIf_load_row (by rfl) 35 _ rfl X rfl (celC x) 35 (0, 0) _ (fun w hw => hw) Tryz.underlying35 rfl (by exact val_size)) (h := ?_)
    (try simp only [pq])
    refine wpAnyT_ready (rs := [0, 6]) (by kernel_rfl) (by simp) (AllT.cons (o := ⟨some 25, _, _, _, _, _⟩) rfl (fun K hK => ?_) (AllT.cons (o := ⟨some 7, _, _, _, _, _⟩) rfl (fun K hK => ?_) AllT.nil))
    ·go_simp
     go_at_call 33
     (with_reducible refine (HEM.out _ (by exact HW.out)).mono ?_)
     rintro r wE ⟨y0, rfl, hy, hb⟩
     have HY0 : Hid (VAt (fun g => g ≠ X) wE (noneT 4) y0) := hy.weak fun g hg => by have h1 := HXL.out; have h2 := HW.out.size; omega
     replace HW := Lib.hid (HW.out.trans (hb.mono HW.out.size))
     clear hb hy
     dsimp only
     refine hK.out _ _ (by exact HKS.out _ HW.out) (fun hHeld => ?_)
     clear hK K
     (try simp only [pq])
     refine wpAnyT_ready (rs := [2, 6]) (by kernel_rfl) (by simp) (AllT.cons (o := ⟨some 27, _, _, _, _, _⟩) rfl (fun K hK => ?_) (AllT.cons (o := ⟨some 7, _, _, _, _, _⟩) rfl (fun K hK => ?_) AllT.nil))
     ·go_simp
      go_at_call 34
      (with_reducible refine (HIN.out (fun g => g ≠ X) _ _ HY0.out ((HXV.out _ HW.out).weak fun g hg => hg.1) (by exact HW.out)).mono ?_)
      rintro r wI ⟨y, rfl, hy, hb⟩
      have HYV : Hid (VAt (fun g => g ≠ X) wI t4 y) := hy.weak fun g hg => by
       rcases hg with hg | hg
       ·exact hg
       ·have h1 := HXL.out; have h2 := HW.out.size; omega
      replace HW := Lib.hid (HW.out.trans (hb.mono HW.out.size))
      clear hb hy
      dsimp only
      refine hK.out _ _ (by exact HKS.out _ HW.out) (fun hHeld => ?_)
      clear hK K
      (try simp only [pq])
      refine tkL 3 24 (h := ?_)
      refine tkP 5 29 (h := ?_)
      (try simp only [pq])
      refine tkL 4 28 (h := ?_)
      (try simp only [pq])
      refine tkO 6 (some 7) (h := fun K hK => ?_)
      go_simp
      have HZB : Hid ((wI.alloc (.cells #[.int .i64 0, .int .i64 0, .string ⟨#[]⟩, .pointer none] 35)).heap[wI.heap.size]? = some (.cells #[.int .i64 0, .int .i64 0, .string ⟨#[]⟩, .pointer none] 35 (0, 0))) := heap_alloc_last _ _
      have hw0 : wg.heap.size ≤ wI.heap.size := HW.out.size
      have hbz := Below.newly' wI (.cells #[.int .i64 0, .int .i64 0, .string ⟨#[]⟩, .pointer none] 35)
      replace HW := Lib.hid (HW.out.trans (hbz.mono HW.out.size))
      replace HYV : Hid (VAt (fun g => g ≠ X ∧ g ≠ wI.heap.size) (wI.alloc (.cells #[.int .i64 0, .int .i64 0, .string ⟨#[]⟩, .pointer none] 35)) t4 y) := (HYV.out.old.later hbz).weak fun g hg => ⟨hg.1, fun e => by have := hg.2; omega⟩
      obtain ⟨Z, hZ⟩ : ∃ Z, Z = wI.heap.size := ⟨_, rfl⟩
      obtain ⟨wz, hwz⟩ : ∃ wz, wz = wI.alloc (.cells #[.int .i64 0, .int .i64 0, .string ⟨#[]⟩, .pointer none] 35) := ⟨_, rfl⟩
      have HZW : Hid (wg.heap.size ≤ Z) := by show _ ≤ _; rw [hZ]; exact hw0
      have HZG : Hid (X < Z) := Nat.lt_of_lt_of_le HXL.out HZW.out
      rw [← hwz, ← hZ] at HZB
      rw [← hwz] at HW ⊢
      rw [← hZ]
      rw [← hwz, ← hZ] at HYV
      clear hwz hZ hbz hw0
      refine hK.out _ _ (by exact HKS.out _ HW.out) (fun hHeld => ?_)
      clear hK K
      (try simp only [pq])
      refine tkU 7 none (h := fun K hK => ?_)
      refine st_agg_wp 35 _ _ rfl Z (celC y) rfl rfl 35 #[.int .i64 0, .int .i64 0, .string ⟨#[]⟩, .pointer none] HZB.out val_size rfl (celC_one y) ?_
      intro wS hS kS
      refine hK.out _ _ ?_
      clear hK K
      (try simp only [pq])
      refine tkU 8 (some 8) (h := fun K hK => ?_)
      go_simp
      refine hK.out _ _ ?_
      clear hK K
      (try simp only [pq])
      refine wpAnyT_done (by kernel_rfl) ?_ _
      have HXS := Lib.hid (kS.other ((HW.out.block _ HXL.out).trans HXG.out) (by have := HZG.out; omega))
      have HZS := Lib.hid hS
      have HYS := Lib.hid (HYV.out.imp (Kq.only kS fun h => h.2 rfl) fun g h _ => h.1)
      have HVS := Lib.hid ((HXV.out _ HW.out).imp (Kq.only kS fun h => by have h1 := HZW.out; have h2 := h.2; omega) fun g h _ => (⟨h.1, by have h1 := HZW.out; have h2 := h.2; omega⟩ : g ≠ X ∧ g ≠ Z))
      have HBS := Lib.hid (HBR.out.trans ((HDR.out.trans ((HW.out.trans (kS.below (by have := HZW.out; omega))).mono HDR.out.size)).mono HBR.out.size))
      exact REST Z wS y0 y ⟨HXS.out, HZS.out, HYS.out, HVS.out, HBS.out, HZG.out⟩
     ·go_simp
      have HZB : Hid ((wE.alloc (.cells #[.int .i64 0, .int .i64 0, .string ⟨#[]⟩, .pointer none] 35)).heap[wE.heap.size]? = some (.cells #[.int .i64 0, .int .i64 0, .string ⟨#[]⟩, .pointer none] 35 (0, 0))) := heap_alloc_last _ _
      have hw0 : wg.heap.size ≤ wE.heap.size := HW.out.size
      have hbz := Below.newly' wE (.cells #[.int .i64 0, .int .i64 0, .string ⟨#[]⟩, .pointer none] 35)
      replace HW := Lib.hid (HW.out.trans (hbz.mono HW.out.size))
      replace HY0 : Hid (VAt (fun g => g ≠ X ∧ g ≠ wE.heap.size) (wE.alloc (.cells #[.int .i64 0, .int .i64 0, .string ⟨#[]⟩, .pointer none] 35)) (noneT 4) y0) := (HY0.out.old.later hbz).weak fun g hg => ⟨hg.1, fun e => by have := hg.2; omega⟩
      obtain ⟨Z, hZ⟩ : ∃ Z, Z = wE.heap.size := ⟨_, rfl⟩
      obtain ⟨wz, hwz⟩ : ∃ wz, wz = wE.alloc (.cells #[.int .i64 0, .int .i64 0, .string ⟨#[]⟩, .pointer none] 35) := ⟨_, rfl⟩
      have HZW : Hid (wg.heap.size ≤ Z) := by show _ ≤ _; rw [hZ]; exact hw0
      have HZG : Hid (X < Z) := Nat.lt_of_lt_of_le HXL.out HZW.out
      rw [← hwz, ← hZ] at HZB
      rw [← hwz] at HW ⊢
      rw [← hZ]
      rw [← hwz, ← hZ] at HY0
      clear hwz hZ hbz hw0
      refine hK.out _ _ (by exact HKS.out _ HW.out) (fun hHeld => ?_)
      clear hK K
      (try simp only [pq])
      refine tkO 2 (some 27) (h := fun K hK => ?_)
      go_simp
      go_at_call 34
      (with_reducible refine (HIN.out (fun g => g ≠ X ∧ g ≠ Z) _ _ HY0.out ((HXV.out _ HW.out).weak fun g hg => ⟨hg.1, by have h1 := HZW.out; have h2 := hg.2; omega⟩) (by exact HW.out)).mono ?_)
      rintro r wI ⟨y, rfl, hy, hb⟩
      have HYV : Hid (VAt (fun g => g ≠ X ∧ g ≠ Z) wI t4 y) := hy.weak fun g hg => by
       rcases hg with hg | hg
       ·exact hg
       ·have h1 := HZG.out; have h2 := (Array.getElem?_eq_some_iff.1 HZB.out).1; exact ⟨by omega, by omega⟩
      replace HZB := Lib.hid ((hb.block _ (Array.getElem?_eq_some_iff.1 HZB.out).1).trans HZB.out)
      replace HW := Lib.hid (HW.out.trans (hb.mono HW.out.size))
      clear hb hy
      dsimp only
      refine hK.out _ _ (by exact HKS.out _ HW.out) (fun hHeld => ?_)
      clear hK K
      (try simp only [pq])
      refine tkL 3 24 (h := ?_)
      refine tkP 5 29 (h := ?_)
      (try simp only [pq])
      refine tkL 4 28 (h := ?_)
      (try simp only [pq])
      refine tkU 7 none (h := fun K hK => ?_)
      refine st_agg_wp 35 _ _ rfl Z (celC y) rfl rfl 35 #[.int .i64 0, .int .i64 0, .string ⟨#[]⟩, .pointer none] HZB.out val_size rfl (celC_one y) ?_
      intro wS hS kS
      refine hK.out _ _ ?_
      clear hK K
      (try simp only [pq])
      refine tkU 8 (some 8) (h := fun K hK => ?_)
      go_simp
      refine hK.out _ _ ?_
      clear hK K
      (try simp only [pq])
      refine wpAnyT_done (by kernel_rfl) ?_ _
      have HXS := Lib.hid (kS.other ((HW.out.block _ HXL.out).trans HXG.out) (by have := HZG.out; omega))
      have HZS := Lib.hid hS
      have HYS := Lib.hid (HYV.out.imp (Kq.only kS fun h => h.2 rfl) fun g h _ => h.1)
      have HVS := Lib.hid ((HXV.out _ HW.out).imp (Kq.only kS fun h => by have h1 := HZW.out; have h2 := h.2; omega) fun g h _ => (⟨h.1, by have h1 := HZW.out; have h2 := h.2; omega⟩ : g ≠ X ∧ g ≠ Z))
      have HBS := Lib.hid (HBR.out.trans ((HDR.out.trans ((HW.out.trans (kS.below (by have := HZW.out; omega))).mono HDR.out.size)).mono HBR.out.size))
      exact REST Z wS y0 y ⟨HXS.out, HZS.out, HYS.out, HVS.out, HBS.out, HZG.out⟩
    ·go_simp
     have HZB : Hid ((wg.alloc (.cells #[.int .i64 0, .int .i64 0, .string ⟨#[]⟩, .pointer none] 35)).heap[wg.heap.size]? = some (.cells #[.int .i64 0, .int .i64 0, .string ⟨#[]⟩, .pointer none] 35 (0, 0))) := heap_alloc_last _ _
     have hw0 : wg.heap.size ≤ wg.heap.size := HW.out.size
     have hbz := Below.newly' wg (.cells #[.int .i64 0, .int .i64 0, .string ⟨#[]⟩, .pointer none] 35)
     replace HW := Lib.hid (HW.out.trans (hbz.mono HW.out.size))
     obtain ⟨Z, hZ⟩ : ∃ Z, Z = wg.heap.size := ⟨_, rfl⟩
     obtain ⟨wz, hwz⟩ : ∃ wz, wz = wg.alloc (.cells #[.int .i64 0, .int .i64 0, .string ⟨#[]⟩, .pointer none] 35) := ⟨_, rfl⟩
     have HZW : Hid (wg.heap.size ≤ Z) := by show _ ≤ _; rw [hZ]; exact hw0
     have HZG : Hid (X < Z) := Nat.lt_of_lt_of_le HXL.out HZW.out
     rw [← hwz, ← hZ] at HZB
     rw [← hwz] at HW ⊢
     rw [← hZ]
     clear hwz hZ hbz hw0
     refine hK.out _ _ (by exact HKS.out _ HW.out) (fun hHeld => ?_)
     clear hK K
     (try simp only [pq])
     refine tkO 0 (some 25) (h := fun K hK => ?_)
     go_simp
     go_at_call 33
     (with_reducible refine (HEM.out _ (by exact HW.out)).mono ?_)
     rintro r wE ⟨y0, rfl, hy, hb⟩
     have HY0 : Hid (VAt (fun g => g ≠ X ∧ g ≠ Z) wE (noneT 4) y0) := hy.weak fun g hg => by have h1 := HZG.out; have h2 := (Array.getElem?_eq_some_iff.1 HZB.out).1; exact ⟨by omega, by omega⟩
     replace HZB := Lib.hid ((hb.block _ (Array.getElem?_eq_some_iff.1 HZB.out).1).trans HZB.out)
     replace HW := Lib.hid (HW.out.trans (hb.mono HW.out.size))
     clear hb hy
     dsimp only
     refine hK.out _ _ (by exact HKS.out _ HW.out) (fun hHeld => ?_)
     clear hK K
     (try simp only [pq])
     refine tkO 2 (some 27) (h := fun K hK => ?_)
     go_simp
     go_at_call 34
     (with_reducible refine (HIN.out (fun g => g ≠ X ∧ g ≠ Z) _ _ HY0.out ((HXV.out _ HW.out).weak fun g hg => ⟨hg.1, by have h1 := HZW.out; have h2 := hg.2; omega⟩) (by exact HW.out)).mono ?_)
     rintro r wI ⟨y, rfl, hy, hb⟩
     have HYV : Hid (VAt (fun g => g ≠ X ∧ g ≠ Z) wI t4 y) := hy.weak fun g hg => by
      rcases hg with hg | hg
      ·exact hg
      ·have h1 := HZG.out; have h2 := (Array.getElem?_eq_some_iff.1 HZB.out).1; exact ⟨by omega, by omega⟩
     replace HZB := Lib.hid ((hb.block _ (Array.getElem?_eq_some_iff.1 HZB.out).1).trans HZB.out)
     replace HW := Lib.hid (HW.out.trans (hb.mono HW.out.size))
     clear hb hy
     dsimp only
     refine hK.out _ _ (by exact HKS.out _ HW.out) (fun hHeld => ?_)
     clear hK K
     (try simp only [pq])
     refine tkL 3 24 (h := ?_)
     refine tkP 5 29 (h := ?_)
     (try simp only [pq])
     refine tkL 4 28 (h := ?_)
     (try simp only [pq])
     refine tkU 7 none (h := fun K hK => ?_)
     refine st_agg_wp 35 _ _ rfl Z (celC y) rfl rfl 35 #[.int .i64 0, .int .i64 0, .string ⟨#[]⟩, .pointer none] HZB.out val_size rfl (celC_one y) ?_
     intro wS hS kS
     refine hK.out _ _ ?_
     clear hK K
     (try simp only [pq])
     refine tkU 8 (some 8) (h := fun K hK => ?_)
     go_simp
     refine hK.out _ _ ?_
     clear hK K
     (try simp only [pq])
     refine wpAnyT_done (by kernel_rfl) ?_ _
     have HXS := Lib.hid (kS.other ((HW.out.block _ HXL.out).trans HXG.out) (by have := HZG.out; omega))
     have HZS := Lib.hid hS
     have HYS := Lib.hid (HYV.out.imp (Kq.only kS fun h => h.2 rfl) fun g h _ => h.1)
     have HVS := Lib.hid ((HXV.out _ HW.out).imp (Kq.only kS fun h => by have h1 := HZW.out; have h2 := h.2; omega) fun g h _ => (⟨h.1, by have h1 := HZW.out; have h2 := h.2; omega⟩ : g ≠ X ∧ g ≠ Z))
     have HBS := Lib.hid (HBR.out.trans ((HDR.out.trans ((HW.out.trans (kS.below (by have := HZW.out; omega))).mono HDR.out.size)).mono HBR.out.size))
     exact REST Z wS y0 y ⟨HXS.out, HZS.out, HYS.out, HVS.out, HBS.out, HZG.out⟩
   case rest =>
    rintro Z wS y0 y ⟨h1, h2, h3, h4, h5, h6⟩
    have HXS := Lib.hid h1
    have HZS := Lib.hid h2
    have HYS := Lib.hid h3
    have HVS := Lib.hid h4
    have HBS := Lib.hid h5
    have HZG : Hid (X < Z) := h6
    clear h1 h2 h3 h4 h5 h6 HW HXV HIN HEM HKS HXG HVR HXR HDR HBR HWG
    by_cases hz1 : z = 1
    ·subst hz1
     go_upto_region 10 with fail
     obtain ⟨wh, hwh⟩ : ∃ wh, wh = wS.drew := ⟨_, rfl⟩
     have hdr : Below wS.heap.size wS wh := by rw [hwh]; exact drawn_below wS
     have HBH := Lib.hid (HBS.out.trans (hdr.mono HBS.out.size))
     have HXH := Lib.hid ((hdr.block _ (Array.getElem?_eq_some_iff.1 HXS.out).1).trans HXS.out)
     have HZH := Lib.hid ((hdr.block _ (Array.getElem?_eq_some_iff.1 HZS.out).1).trans HZS.out)
     have HZL : Hid (Z < wh.heap.size) := (Array.getElem?_eq_some_iff.1 HZH.out).1
     have HVH := Lib.hid (fun W (hb : Below wh.heap.size wh W) => (HVS.out.later hdr).later hb)
     obtain ⟨t5, e5, he5⟩ : ∃ t5 e5, withinT (.nd 5 0 ⟨#[]⟩ [⟨#[]⟩] [vt]) = (t5, e5) := ⟨_, _, rfl⟩
     have HE5 := Lib.hid he5
     have HEN : Hid (∀ W, Below wh.heap.size wh W → Calls Tryz.prog 33 #[.int .i64 5] W fun e w' => ∃ y0, e = .returned (.agg (celC y0)) ∧ VAt (fun g => W.heap.size ≤ g) w' (noneT 5) y0 ∧ Below W.heap.size W w') := fun W hb =>
      lw_empty W 5 (.inr (.inl rfl)) (HTB.out _ (HBH.out.trans (hb.mono HBH.out.size)))
     have HIO : Hid (∀ (S : Nat → Prop) W y0, VAt S W (noneT 5) y0 → VAt S W vt x → Below wh.heap.size wh W → Calls Tryz.prog 35 #[.agg (celC y0), .agg #[.int .i64 1, .int .i64 0, .string ⟨#[]⟩], .agg (celC x)] W fun r w' => ∃ y, r = .returned (.tuple #[.agg (celC y), .int .i64 e5]) ∧ VAt (fun g => S g ∨ W.heap.size ≤ g) w' t5 y ∧ Below W.heap.size W w') := fun S W y0 h0 hx hb => by
      have h := va_Set (S := S) W (noneT 5) y0 (val_none (.inr (.inl rfl))) h0 1 0 ⟨#[]⟩ (by decide) vt x HCH.out.1 hx (HTB.out _ (HBH.out.trans (hb.mono HBH.out.size)))
      rw [set_none, HE5.out] at h
      exact h
     have HKT : Hid (∀ V, Below wh.heap.size wh V → (V.heap[X]? = some (.cells (celC x) 35 (0, 0)))) := fun V hV => (hV.block _ (Array.getElem?_eq_some_iff.1 HXH.out).1).trans HXH.out
     have HW : Hid (Below wh.heap.size wh wh) := Below.refl _ _
     clear hdr he5 HYS HZS HXS
     refine wp_region_T (S := (fun V => V.heap[X]? = some (.cells (celC x) 35 (0, 0)))) [6, 7, 8] (by kernel_rfl) (by rw [← hwh]; exact HKT.out _ HW.out) (fun hHeld => ?_)
     rw [← hwh] at hHeld ⊢
     clear hwh
     refine tyL 2 36 (hy := yieldsIf_load_row (by rfl) 35 _ rfl X rfl (celC x) 35 (0, 0) _ (fun w hw => hw) Tryz.underlying35 rfl (by exact val_size)) (h := ?_)
     refine tkL 1 35 (h := ?_)
     (try simp only [pq])
     refine tkO 0 (some 34) (h := fun K hK => ?_)
     go_simp
     go_at_call 33
     (with_reducible refine (HEN.out _ (by exact HW.out)).mono ?_)
     rintro r wE ⟨y1, rfl, hy, hb⟩
     have HY1 : Hid (VAt (fun g => g ≠ X ∧ g ≠ Z) wE (noneT 5) y1) := hy.weak fun g hg => by have h1 := HZL.out; have h2 := HW.out.size; have h3 := HZG.out; exact ⟨by omega, by omega⟩
     replace HW := Lib.hid (HW.out.trans (hb.mono HW.out.size))
     clear hb hy
     dsimp only
     refine hK.out _ _ (by exact HKT.out _ HW.out) (fun hHeld => ?_)
     clear hK K
     (try simp only [pq])
     refine tkO 3 (some 37) (h := fun K hK => ?_)
     go_simp
     go_at_call 35
     (with_reducible refine (HIO.out (fun g => g ≠ X ∧ g ≠ Z) _ _ HY1.out (HVH.out _ HW.out) (by exact HW.out)).mono ?_)
     rintro r wI ⟨y2, rfl, hy, hb⟩
     have HYU : Hid (VAt (fun g => g ≠ X ∧ g ≠ Z) wI t5 y2) := hy.weak fun g hg => by
      rcases hg with hg | hg
      ·exact hg
      ·have h1 := HZL.out; have h2 := HW.out.size; have h3 := HZG.out; exact ⟨by omega, by omega⟩
     replace HW := Lib.hid (HW.out.trans (hb.mono HW.out.size))
     clear hb hy
     dsimp only
     refine hK.out _ _ (by exact HKT.out _ HW.out) (fun hHeld => ?_)
     clear hK K
     (try simp only [pq])
     refine tkL 4 33 (h := ?_)
     refine tkP 6 39 (h := ?_)
     (try simp only [pq])
     refine tkL 5 38 (h := ?_)
     (try simp only [pq])
     refine tkU 7 none (h := fun K hK => ?_)
     refine st_agg_wp 35 _ _ rfl Z (celC y2) rfl rfl 35 _ ((HW.out.block _ HZL.out).trans HZH.out) val_size rfl (celC_one y2) ?_
     intro wU hU kU
     refine hK.out _ _ ?_
     clear hK K
     (try simp only [pq])
     refine tkU 8 (some 8) (h := fun K hK => ?_)
     go_simp
     refine hK.out _ _ ?_
     clear hK K
     (try simp only [pq])
     refine wpAnyT_done (by kernel_rfl) ?_ _
     have HXU := Lib.hid (kU.other ((HW.out.block _ (Array.getElem?_eq_some_iff.1 HXH.out).1).trans HXH.out) (by have := HZG.out; omega))
     have HZU := Lib.hid hU
     have HYW := Lib.hid (HYU.out.imp (Kq.only kU fun h => h.2 rfl) fun g h _ => h.1)
     have HVU := Lib.hid ((HVH.out _ HW.out).imp (Kq.only kU fun h => h.2 rfl) fun g h _ => h)
     have HBU := Lib.hid (HBH.out.trans ((HW.out.mono HBH.out.size).trans (kU.below (by have h1 := HXB.out; have h2 := HZG.out; omega))))
     clear HW HVH HIO HEN HKT HYU hU kU hHeld HY1
     go_upto_region 13 with fail
     by_cases h64 : dp = 64
     ·obtain ⟨rfl, rfl⟩ : t5 = nullT ∧ e5 = 7 := by
       have h := within_one HCH.out HI.out.1 5 [⟨#[]⟩]
       rw [HE5.out, if_pos h64] at h
       exact Prod.mk.inj h
      have hd : (dp : Int) = 64 := by omega
      have hyk : y2.k = 0 := HYW.out.k
      have HKN : Hid (Calls Tryz.prog 37 #[.agg (celC y2)] wU fun r w' => r = .returned (.int .i64 0) ∧ Below wU.heap.size wU w') := by
       have h := va_Kind wU y2
       rw [hyk] at h
       exact h
      clear hyk
      go_wp2_with (first
       | (refine ld_if rfl 35 _ rfl Z rfl 35 _ _ _ HZU.out Tryz.underlying35 rfl val_size ?_)
       | (go_at_call 37; (with_reducible refine HKN.out.mono ?_); rintro r wK ⟨rfl, hb⟩; have HBK := Lib.hid hb; clear hb))
      go_roundw
      case rel => exact ⟨j + 1, dp, by omega, by go_num, by rw [hd], ⟨_, rfl⟩, ⟨_, rfl⟩, ⟨_, rfl⟩, HI.out.1, ⟨vt, x, HCH.out, (HVU.out.later HBK.out).weak fun g h => h.1, (HBK.out.block _ (Array.getElem?_eq_some_iff.1 HXU.out).1).trans HXU.out⟩, HBU.out.trans (HBK.out.mono HBU.out.size)⟩
      case measure => simp [intOf]; omega
     ·obtain ⟨rfl, rfl⟩ : t5 = .nd 5 0 ⟨#[]⟩ [⟨#[]⟩] [vt] ∧ e5 = 0 := by
       have h := within_one HCH.out HI.out.1 5 [⟨#[]⟩]
       rw [HE5.out, if_neg h64] at h
       exact Prod.mk.inj h
      have hd : ¬ (dp : Int) = 64 := by omega
      have hd9 : (dp : Int) ≤ 64 := by have := HI.out.1; omega
      have HCN := Lib.hid (chain_next HCH.out (by have := HI.out.1; omega) (k := 5) (ks := [⟨#[]⟩]) (.inr (.inl ⟨rfl, rfl⟩)))
      have HDE : Hid (Calls Tryz.prog 31 #[.agg (celC y2)] wU fun r w' => r = .returned (.int .i64 ((dp : Int) + 1)) ∧ Below wU.heap.size wU w') := by
       have h := va_Depth wU _ y2 HCN.out.1 HYW.out
       rw [HCN.out.2.1] at h
       exact h
      have HNO : Hid (∀ V, Below wU.heap.size wU V → Calls Tryz.prog 30 #[.agg (celC y2)] V fun r w' => r = .returned (.int .i64 ((dp : Int) + 1)) ∧ Below V.heap.size V w') := fun V hb => by
       have h := va_Nodes V _ y2 HCN.out.1 (HYW.out.later hb)
       rw [HCN.out.2.2] at h
       exact h
      go_wp2_with (first
       | (refine ld_if rfl 35 _ rfl Z rfl 35 _ _ _ HZU.out Tryz.underlying35 rfl val_size ?_)
       | (go_at_call 31; (with_reducible refine HDE.out.mono ?_); rintro r wD ⟨rfl, hb⟩; have HBD := Lib.hid hb; have HZD := Lib.hid ((hb.block _ (Array.getElem?_eq_some_iff.1 HZU.out).1).trans HZU.out); clear hb)
       | (refine ld_if rfl 35 _ rfl Z rfl 35 _ _ _ HZD.out Tryz.underlying35 rfl val_size ?_)
       | (go_at_call 30; (with_reducible refine (HNO.out _ HBD.out).mono ?_); rintro r wN ⟨rfl, hb⟩; have HZN := Lib.hid ((hb.block _ (Array.getElem?_eq_some_iff.1 HZD.out).1).trans HZD.out); have HBN := Lib.hid (HBD.out.trans (hb.mono HBD.out.size)); have HXN := Lib.hid ((HBN.out.block _ (Array.getElem?_eq_some_iff.1 HXU.out).1).trans HXU.out); clear hb)
       | (refine ld_if rfl 35 _ rfl Z rfl 35 _ _ _ HZN.out Tryz.underlying35 rfl val_size ?_)
       | (refine st_agg rfl 35 _ _ rfl X (celC y2) rfl rfl 35 _ HXN.out val_size rfl (celC_one _) ?_; intro wT hT kT))
      go_roundw
      case rel => exact ⟨j + 1, dp + 1, by omega, by go_num, by first | rfl | simp, ⟨_, rfl⟩, ⟨_, rfl⟩, ⟨_, rfl⟩, (by have := HI.out.1; omega), ⟨_, y2, HCN.out, (HYW.out.later HBN.out).kq (Kq.only kT fun h => h rfl), hT⟩, (HBU.out.trans (HBN.out.mono HBU.out.size)).trans (kT.below HXB.out)⟩
      case measure => simp [intOf]; omega
    by_cases hz2 : z = 2
    ·subst hz2
     go_upto_region 12 with fail
     obtain ⟨wh, hwh⟩ : ∃ wh, wh = wS.drew := ⟨_, rfl⟩
     have hdr : Below wS.heap.size wS wh := by rw [hwh]; exact drawn_below wS
     have HBH := Lib.hid (HBS.out.trans (hdr.mono HBS.out.size))
     have HXH := Lib.hid ((hdr.block _ (Array.getElem?_eq_some_iff.1 HXS.out).1).trans HXS.out)
     have HZH := Lib.hid ((hdr.block _ (Array.getElem?_eq_some_iff.1 HZS.out).1).trans HZS.out)
     have HZL : Hid (Z < wh.heap.size) := (Array.getElem?_eq_some_iff.1 HZH.out).1
     have HVH := Lib.hid (fun W (hb : Below wh.heap.size wh W) => (HVS.out.later hdr).later hb)
     obtain ⟨t5, e5, he5⟩ : ∃ t5 e5, withinT (.nd 6 0 ⟨#[]⟩ [] [vt]) = (t5, e5) := ⟨_, _, rfl⟩
     have HE5 := Lib.hid he5
     have HEN : Hid (∀ W, Below wh.heap.size wh W → Calls Tryz.prog 33 #[.int .i64 6] W fun e w' => ∃ y0, e = .returned (.agg (celC y0)) ∧ VAt (fun g => W.heap.size ≤ g) w' (noneT 6) y0 ∧ Below W.heap.size W w') := fun W hb =>
      lw_empty W 6 (.inr (.inr rfl)) (HTB.out _ (HBH.out.trans (hb.mono HBH.out.size)))
     have HIO : Hid (∀ (S : Nat → Prop) W y0, VAt S W (noneT 6) y0 → VAt S W vt x → Below wh.heap.size wh W → Calls Tryz.prog 36 #[.agg (celC y0), .agg (celC x)] W fun r w' => ∃ y, r = .returned (.tuple #[.agg (celC y), .int .i64 e5]) ∧ VAt (fun g => S g ∨ W.heap.size ≤ g) w' t5 y ∧ Below W.heap.size W w') := fun S W y0 h0 hx hb => by
      have h := va_Add (S := S) W (noneT 6) y0 (val_none (.inr (.inr rfl))) h0 vt x HCH.out.1 hx (HTB.out _ (HBH.out.trans (hb.mono HBH.out.size)))
      rw [add_none, HE5.out] at h
      exact h
     have HKT : Hid (∀ V, Below wh.heap.size wh V → (V.heap[X]? = some (.cells (celC x) 35 (0, 0)))) := fun V hV => (hV.block _ (Array.getElem?_eq_some_iff.1 HXH.out).1).trans HXH.out
     have HW : Hid (Below wh.heap.size wh wh) := Below.refl _ _
     clear hdr he5 HYS HZS HXS
     refine wp_region_T (S := (fun V => V.heap[X]? = some (.cells (celC x) 35 (0, 0)))) [5, 6, 7] (by kernel_rfl) (by rw [← hwh]; exact HKT.out _ HW.out) (fun hHeld => ?_)
     rw [← hwh] at hHeld ⊢
     clear hwh
     refine tyL 1 44 (hy := yieldsIf_load_row (by rfl) 35 _ rfl X rfl (celC x) 35 (0, 0) _ (fun w hw => hw) Tryz.underlying35 rfl (by exact val_size)) (h := ?_)
     (try simp only [pq])
     refine tkO 0 (some 43) (h := fun K hK => ?_)
     go_simp
     go_at_call 33
     (with_reducible refine (HEN.out _ (by exact HW.out)).mono ?_)
     rintro r wE ⟨y1, rfl, hy, hb⟩
     have HY1 : Hid (VAt (fun g => g ≠ X ∧ g ≠ Z) wE (noneT 6) y1) := hy.weak fun g hg => by have h1 := HZL.out; have h2 := HW.out.size; have h3 := HZG.out; exact ⟨by omega, by omega⟩
     replace HW := Lib.hid (HW.out.trans (hb.mono HW.out.size))
     clear hb hy
     dsimp only
     refine hK.out _ _ (by exact HKT.out _ HW.out) (fun hHeld => ?_)
     clear hK K
     (try simp only [pq])
     refine tkO 2 (some 45) (h := fun K hK => ?_)
     go_simp
     go_at_call 36
     (with_reducible refine (HIO.out (fun g => g ≠ X ∧ g ≠ Z) _ _ HY1.out (HVH.out _ HW.out) (by exact HW.out)).mono ?_)
     rintro r wI ⟨y2, rfl, hy, hb⟩
     have HYU : Hid (VAt (fun g => g ≠ X ∧ g ≠ Z) wI t5 y2) := hy.weak fun g hg => by
      rcases hg with hg | hg
      ·exact hg
      ·have h1 := HZL.out; have h2 := HW.out.size; have h3 := HZG.out; exact ⟨by omega, by omega⟩
     replace HW := Lib.hid (HW.out.trans (hb.mono HW.out.size))
     clear hb hy
     dsimp only
     refine hK.out _ _ (by exact HKT.out _ HW.out) (fun hHeld => ?_)
     clear hK K
     (try simp only [pq])
     refine tkL 3 42 (h := ?_)
     refine tkP 5 47 (h := ?_)
     (try simp only [pq])
     refine tkL 4 46 (h := ?_)
     (try simp only [pq])
     refine tkU 6 none (h := fun K hK => ?_)
     refine st_agg_wp 35 _ _ rfl Z (celC y2) rfl rfl 35 _ ((HW.out.block _ HZL.out).trans HZH.out) val_size rfl (celC_one y2) ?_
     intro wU hU kU
     refine hK.out _ _ ?_
     clear hK K
     (try simp only [pq])
     refine tkU 7 (some 8) (h := fun K hK => ?_)
     go_simp
     refine hK.out _ _ ?_
     clear hK K
     (try simp only [pq])
     refine wpAnyT_done (by kernel_rfl) ?_ _
     have HXU := Lib.hid (kU.other ((HW.out.block _ (Array.getElem?_eq_some_iff.1 HXH.out).1).trans HXH.out) (by have := HZG.out; omega))
     have HZU := Lib.hid hU
     have HYW := Lib.hid (HYU.out.imp (Kq.only kU fun h => h.2 rfl) fun g h _ => h.1)
     have HVU := Lib.hid ((HVH.out _ HW.out).imp (Kq.only kU fun h => h.2 rfl) fun g h _ => h)
     have HBU := Lib.hid (HBH.out.trans ((HW.out.mono HBH.out.size).trans (kU.below (by have h1 := HXB.out; have h2 := HZG.out; omega))))
     clear HW HVH HIO HEN HKT HYU hU kU hHeld HY1
     go_upto_region 13 with fail
     by_cases h64 : dp = 64
     ·obtain ⟨rfl, rfl⟩ : t5 = nullT ∧ e5 = 7 := by
       have h := within_one HCH.out HI.out.1 6 []
       rw [HE5.out, if_pos h64] at h
       exact Prod.mk.inj h
      have hd : (dp : Int) = 64 := by omega
      have hyk : y2.k = 0 := HYW.out.k
      have HKN : Hid (Calls Tryz.prog 37 #[.agg (celC y2)] wU fun r w' => r = .returned (.int .i64 0) ∧ Below wU.heap.size wU w') := by
       have h := va_Kind wU y2
       rw [hyk] at h
       exact h
      clear hyk
      go_wp2_with (first
       | (refine ld_if rfl 35 _ rfl Z rfl 35 _ _ _ HZU.out Tryz.underlying35 rfl val_size ?_)
       | (go_at_call 37; (with_reducible refine HKN.out.mono ?_); rintro r wK ⟨rfl, hb⟩; have HBK := Lib.hid hb; clear hb))
      go_roundw
      case rel => exact ⟨j + 1, dp, by omega, by go_num, by rw [hd], ⟨_, rfl⟩, ⟨_, rfl⟩, ⟨_, rfl⟩, HI.out.1, ⟨vt, x, HCH.out, (HVU.out.later HBK.out).weak fun g h => h.1, (HBK.out.block _ (Array.getElem?_eq_some_iff.1 HXU.out).1).trans HXU.out⟩, HBU.out.trans (HBK.out.mono HBU.out.size)⟩
      case measure => simp [intOf]; omega
     ·obtain ⟨rfl, rfl⟩ : t5 = .nd 6 0 ⟨#[]⟩ [] [vt] ∧ e5 = 0 := by
       have h := within_one HCH.out HI.out.1 6 []
       rw [HE5.out, if_neg h64] at h
       exact Prod.mk.inj h
      have hd : ¬ (dp : Int) = 64 := by omega
      have hd9 : (dp : Int) ≤ 64 := by have := HI.out.1; omega
      have HCN := Lib.hid (chain_next HCH.out (by have := HI.out.1; omega) (k := 6) (ks := []) (.inr (.inr ⟨rfl, rfl⟩)))
      have HDE : Hid (Calls Tryz.prog 31 #[.agg (celC y2)] wU fun r w' => r = .returned (.int .i64 ((dp : Int) + 1)) ∧ Below wU.heap.size wU w') := by
       have h := va_Depth wU _ y2 HCN.out.1 HYW.out
       rw [HCN.out.2.1] at h
       exact h
      have HNO : Hid (∀ V, Below wU.heap.size wU V → Calls Tryz.prog 30 #[.agg (celC y2)] V fun r w' => r = .returned (.int .i64 ((dp : Int) + 1)) ∧ Below V.heap.size V w') := fun V hb => by
       have h := va_Nodes V _ y2 HCN.out.1 (HYW.out.later hb)
       rw [HCN.out.2.2] at h
       exact h
      go_wp2_with (first
       | (refine ld_if rfl 35 _ rfl Z rfl 35 _ _ _ HZU.out Tryz.underlying35 rfl val_size ?_)
       | (go_at_call 31; (with_reducible refine HDE.out.mono ?_); rintro r wD ⟨rfl, hb⟩; have HBD := Lib.hid hb; have HZD := Lib.hid ((hb.block _ (Array.getElem?_eq_some_iff.1 HZU.out).1).trans HZU.out); clear hb)
       | (refine ld_if rfl 35 _ rfl Z rfl 35 _ _ _ HZD.out Tryz.underlying35 rfl val_size ?_)
       | (go_at_call 30; (with_reducible refine (HNO.out _ HBD.out).mono ?_); rintro r wN ⟨rfl, hb⟩; have HZN := Lib.hid ((hb.block _ (Array.getElem?_eq_some_iff.1 HZD.out).1).trans HZD.out); have HBN := Lib.hid (HBD.out.trans (hb.mono HBD.out.size)); have HXN := Lib.hid ((HBN.out.block _ (Array.getElem?_eq_some_iff.1 HXU.out).1).trans HXU.out); clear hb)
       | (refine ld_if rfl 35 _ rfl Z rfl 35 _ _ _ HZN.out Tryz.underlying35 rfl val_size ?_)
       | (refine st_agg rfl 35 _ _ rfl X (celC y2) rfl rfl 35 _ HXN.out val_size rfl (celC_one _) ?_; intro wT hT kT))
      go_roundw
      case rel => exact ⟨j + 1, dp + 1, by omega, by go_num, by first | rfl | simp, ⟨_, rfl⟩, ⟨_, rfl⟩, ⟨_, rfl⟩, (by have := HI.out.1; omega), ⟨_, y2, HCN.out, (HYW.out.later HBN.out).kq (Kq.only kT fun h => h rfl), hT⟩, (HBU.out.trans (HBN.out.mono HBU.out.size)).trans (kT.below HXB.out)⟩
      case measure => simp [intOf]; omega
    go_upto_region 13 with fail
    by_cases h64 : dp = 64
    ·obtain ⟨rfl, rfl⟩ : t4 = nullT ∧ e4 = 7 := by
      have h := within_one HCH.out HI.out.1 4 []
      rw [HE4.out, if_pos h64] at h
      exact Prod.mk.inj h
     have hd : (dp : Int) = 64 := by omega
     have hyk : y.k = 0 := HYS.out.k
     have HKN : Hid (Calls Tryz.prog 37 #[.agg (celC y)] wS fun r w' => r = .returned (.int .i64 0) ∧ Below wS.heap.size wS w') := by
      have h := va_Kind wS y
      rw [hyk] at h
      exact h
     clear hyk
     go_wp2_with (first
      | (refine ld_if rfl 35 _ rfl Z rfl 35 _ _ _ HZS.out Tryz.underlying35 rfl val_size ?_)
      | (go_at_call 37; (with_reducible refine HKN.out.mono ?_); rintro r wK ⟨rfl, hb⟩; have HBK := Lib.hid hb; clear hb))
     go_roundw
     case rel => exact ⟨j + 1, dp, by omega, by go_num, by rw [hd], ⟨_, rfl⟩, ⟨_, rfl⟩, ⟨_, rfl⟩, HI.out.1, ⟨vt, x, HCH.out, (HVS.out.later HBK.out).weak fun g h => h.1, (HBK.out.block _ (Array.getElem?_eq_some_iff.1 HXS.out).1).trans HXS.out⟩, HBS.out.trans (HBK.out.mono HBS.out.size)⟩
     case measure => simp [intOf]; omega
    ·obtain ⟨rfl, rfl⟩ : t4 = .nd 4 0 ⟨#[]⟩ [] [vt] ∧ e4 = 0 := by
      have h := within_one HCH.out HI.out.1 4 []
      rw [HE4.out, if_neg h64] at h
      exact Prod.mk.inj h
     have hd : ¬ (dp : Int) = 64 := by omega
     have hd9 : (dp : Int) ≤ 64 := by have := HI.out.1; omega
     have HCN := Lib.hid (chain_next HCH.out (by have := HI.out.1; omega) (k := 4) (ks := []) (.inl ⟨rfl, rfl⟩))
     have HDE : Hid (Calls Tryz.prog 31 #[.agg (celC y)] wS fun r w' => r = .returned (.int .i64 ((dp : Int) + 1)) ∧ Below wS.heap.size wS w') := by
      have h := va_Depth wS _ y HCN.out.1 HYS.out
      rw [HCN.out.2.1] at h
      exact h
     have HNO : Hid (∀ V, Below wS.heap.size wS V → Calls Tryz.prog 30 #[.agg (celC y)] V fun r w' => r = .returned (.int .i64 ((dp : Int) + 1)) ∧ Below V.heap.size V w') := fun V hb => by
      have h := va_Nodes V _ y HCN.out.1 (HYS.out.later hb)
      rw [HCN.out.2.2] at h
      exact h
     go_wp2_with (first
      | (refine ld_if rfl 35 _ rfl Z rfl 35 _ _ _ HZS.out Tryz.underlying35 rfl val_size ?_)
      | (go_at_call 31; (with_reducible refine HDE.out.mono ?_); rintro r wD ⟨rfl, hb⟩; have HBD := Lib.hid hb; have HZD := Lib.hid ((hb.block _ (Array.getElem?_eq_some_iff.1 HZS.out).1).trans HZS.out); clear hb)
      | (refine ld_if rfl 35 _ rfl Z rfl 35 _ _ _ HZD.out Tryz.underlying35 rfl val_size ?_)
      | (go_at_call 30; (with_reducible refine (HNO.out _ HBD.out).mono ?_); rintro r wN ⟨rfl, hb⟩; have HZN := Lib.hid ((hb.block _ (Array.getElem?_eq_some_iff.1 HZD.out).1).trans HZD.out); have HBN := Lib.hid (HBD.out.trans (hb.mono HBD.out.size)); have HXN := Lib.hid ((HBN.out.block _ (Array.getElem?_eq_some_iff.1 HXS.out).1).trans HXS.out); clear hb)
      | (refine ld_if rfl 35 _ rfl Z rfl 35 _ _ _ HZN.out Tryz.underlying35 rfl val_size ?_)
      | (refine st_agg rfl 35 _ _ rfl X (celC y) rfl rfl 35 _ HXN.out val_size rfl (celC_one _) ?_; intro wT hT kT))
     go_roundw
     case rel => exact ⟨j + 1, dp + 1, by omega, by go_num, by first | rfl | simp, ⟨_, rfl⟩, ⟨_, rfl⟩, ⟨_, rfl⟩, (by have := HI.out.1; omega), ⟨_, y, HCN.out, (HYS.out.later HBN.out).kq (Kq.only kT fun h => h rfl), hT⟩, (HBS.out.trans (HBN.out.mono HBS.out.size)).trans (kT.below HXB.out)⟩
     case measure => simp [intOf]; omega
  ·have hlt' : ¬ (j : Int) < (lx : Int) := by omega
   go_wp2_with fail
   go_ret
   exact ⟨rfl, HI.out.2.2⟩
theorem valueDeep_walk (va : Value) (l : List Int) (w : World) (hl : IntsAt w va l) (hT : Tab6 w) : Calls Tryz.prog 9 #[va] w fun e w' => e = .returned (.bool true) ∧ Below w.heap.size w w' := valueDeep_of va l w hl hT
end Go.Proofs.YtpodmgihlomglaaGreatDoor
