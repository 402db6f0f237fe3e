import Derived.Test.YtpodmgihlomglaaGreatDoorP12
namespace Go.Proofs.YtpodmgihlomglaaGreatDoor
open Go.RowKit
set_option maxRecDepth 1000000
set_option linter.unusedSimpArgs false
def Found (hs : ByteArray → Nat) (S : Nat → Prop) (w : World) (L : List Ent) (k : ByteArray) (p : Option Nat) : Prop := match getE L k with
 | none => p = none
 | some x => ∃ b, p = some b ∧ EntAt hs S w b (k, x)
theorem Found.kp {hs : ByteArray → Nat} {S : Nat → Prop} {w w' : World} {L : List Ent} {k : ByteArray} {p : Option Nat} (h : Found hs S w L k p) (kk : Kp S w w') : Found hs S w' L k p := by
 unfold Found at h ⊢
 cases hg : getE L k with
 | none => rw [hg] at h; exact h
 | some x =>
  rw [hg] at h
  obtain ⟨b, h1, h2⟩ := h
  exact ⟨b, h1, h2.kp kk⟩
theorem Found.later {hs : ByteArray → Nat} {S : Nat → Prop} {w w' : World} {L : List Ent} {k : ByteArray} {p : Option Nat} (h : Found hs S w L k p) (hb : Below w.heap.size w w') : Found hs S w' L k p := h.kp (Kp.later hb)
theorem Found.isSome {hs : ByteArray → Nat} {S : Nat → Prop} {w : World} {L : List Ent} {k : ByteArray} {p : Option Nat} (h : Found hs S w L k p) : p.isSome = (getE L k).isSome := by
 unfold Found at h
 cases hg : getE L k with
 | none => rw [hg] at h; rw [h]; rfl
 | some x => rw [hg] at h; obtain ⟨b, h1, _⟩ := h; rw [h1]; rfl
theorem Found.congr {hs : ByteArray → Nat} {S : Nat → Prop} {w : World} {L M : List Ent} {k : ByteArray} {p : Option Nat} (h : Found hs S w L k p) (e : getE L k = getE M k) : Found hs S w M k p := by
 unfold Found at h ⊢
 rw [← e]
 exact h
def FindOk (hs : ByteArray → Nat) (f : Nat) : Prop := ∀ (S : Nat → Prop) (w : World) (L : List Ent) (c : Array Value) (k : ByteArray), NodeAt hs S f w L c → Rise L → L.length ≤ 100000 →
  Calls Tryz.prog 116 #[.agg c, .int .i64 ((13 - f : Nat) : Int), .int .u64 (hs k : Nat), .string k] w fun r w' => ∃ p, r = .returned (pv p) ∧ Found hs S w' L k p ∧ Below w.heap.size w w'
set_option maxHeartbeats 2000000 in
theorem hm_find_0 (hs : ByteArray → Nat) : FindOk hs 0 := by
 intro S w L c k h hL hn
 obtain ⟨w1, hw1⟩ : ∃ w1, w.alloc (.cells c 119) = w1 := ⟨_, rfl⟩
 have hb1 : Below w.heap.size w w1 := by rw [← hw1]; exact Below.newly' _ _
 have hx1 : w1.heap[w.heap.size]? = some (.cells c 119 (0, 0)) := by rw [← hw1]; exact heap_alloc_last _ _
 have HX1 := Lib.hid hx1
 have HB1 := Lib.hid hb1
 have HS := Lib.hid (hm_search w1 L c k (h.later hb1) hL hn)
 have HSZ := Lib.hid h.size
 obtain ⟨v, qs, rfl, h2, hq, h4⟩ := h
 obtain ⟨p1, p2⟩ := at_place hL k
 rw [show (((13 - 0 : Nat) : Nat) : Int) = 13 from rfl]
 cases hg : getE L k with
 | none =>
  rw [hg] at HS
  clear h2 h4 p1 p2 hb1 hx1
  go_enter Tryz.func116, Tryz.ntmps116
  go_upto_region 1 with fail
  clear hw1
  go_wp2_with (first
   | (refine ld_if (by rfl) 119 _ rfl w.heap.size rfl 119 _ _ _ HX1.out Tryz.underlying119 rfl nd_size ?_)
   | (go_at_call 137; refine HS.out.mono ?_; rintro r w2 ⟨rfl, hb⟩; have HB2 := Lib.hid (tW HB1.out hb); clear hb))
  go_ret
  exact ⟨none, rfl, by unfold Found; rw [hg], HB2.out⟩
 | some x =>
  rw [hg] at HS
  obtain ⟨e, he, hek, hex⟩ := p2 (by rw [hg]; rfl)
  obtain ⟨N, hN⟩ : ∃ N, N = (belE L k).length := ⟨_, rfl⟩
  rw [← hN] at HS he
  rw [hq, List.getElem?_map] at he
  obtain ⟨q, hqN, hqe⟩ := Option.map_eq_some_iff.1 he
  have hlt := (List.getElem?_eq_some_iff.1 hqN).1
  obtain ⟨hl, h2⟩ := h2
  rw [hq, List.length_map] at h2
  rcases h2 with ⟨h0, _⟩ | ⟨h0, g, cp, cur, rfl, hcp, hS, hgg, hc⟩
  ·omega
  ·have hcell : w.cell? ⟨g, N, none⟩ = some (pv (some q.1)) := cell_in hgg (hc N _ (by rw [flat_ps, hqN]; rfl))
   have hcell1 := (hb1.cell (p := ⟨g, N, none⟩) (Array.getElem?_eq_some_iff.1 hgg).1).trans hcell
   have HEN := Lib.hid (h4 q (List.mem_of_getElem? hqN))
   rw [hg] at hex
   have hqk : q.2 = (k, x) := by rw [hqe]; exact Prod.ext hek (Option.some.inj hex).symm
   rw [hqk] at HEN
   have HC1 := Lib.hid hcell1
   have hlt' : (N : Int) < (qs.length : Int) := by omega
   obtain ⟨b, hb⟩ : ∃ b, b = q.1 := ⟨_, rfl⟩
   rw [← hb] at HC1 HEN
   have HG1 := Lib.hid (Array.getElem?_eq_some_iff.1 hgg).1
   clear h4 p1 p2 hb1 hx1 hl hgg hc hcell hcell1 he hqe hqk hqN hlt hek hex hN hb
   go_enter Tryz.func116, Tryz.ntmps116
   go_upto_region 1 with fail
   clear hw1
   go_wp2_with (first
    | (refine ld_if (by rfl) 119 _ rfl w.heap.size rfl 119 _ _ _ HX1.out Tryz.underlying119 rfl nd_size ?_)
    | (go_at_call 137; refine HS.out.mono ?_; rintro r w2 ⟨rfl, hb⟩; have HB2 := Lib.hid (tW HB1.out hb); have ca2 : w2.cell? ⟨w.heap.size, 2, none⟩ = some (.slice (some ⟨g, 0, none⟩) qs.length cp) := cell_in (kW hb HX1.out) rfl; have cg2 : w2.cell? ⟨g, N, none⟩ = some (pv (some b)) := (hb.cell (p := ⟨g, N, none⟩) (Nat.lt_of_lt_of_le HG1.out HB1.out.size)).trans HC1.out; clear hb))
   go_ret
   exact ⟨some b, rfl, by unfold Found; rw [hg]; exact ⟨b, rfl, HEN.out.later HB2.out⟩, HB2.out⟩
theorem row_range {V : World} {X : Nat} {a b d : Value} {T : TypeId} {fr : Nat × Nat} (h : V.heap[X]? = some (.cells #[a, b, d] T fr)) : V.rangeAt X 0 (#[a, b] : Array Value).toList := fun j u hu => by
 refine cell_in h ?_
 rcases j with _ | _ | j
 ·simpa using hu
 ·simpa using hu
 ·simp at hu
set_option maxHeartbeats 4000000 in
theorem hm_find_s (hs : ByteArray → Nat) (hlt : ∀ k, hs k < 18446744073709551616) (f : Nat) (hf : f ≤ 12) (ih : FindOk hs f) : FindOk hs (f + 1) := by
 intro S w L c k h hL hn
 obtain ⟨w1, hw1⟩ : ∃ w1, w.alloc (.cells c 119) = w1 := ⟨_, rfl⟩
 have hb1 : Below w.heap.size w w1 := by rw [← hw1]; exact Below.newly' _ _
 have hx1 : w1.heap[w.heap.size]? = some (.cells c 119 (0, 0)) := by rw [← hw1]; exact heap_alloc_last _ _
 have hs1 : w1.heap.size = w.heap.size + 1 := by rw [← hw1]; simp
 obtain ⟨lv, hlv⟩ : ∃ lv : Nat, lv = 12 - f := ⟨_, rfl⟩
 have e13 : (13 - (f + 1) : Nat) = lv := by omega
 rw [e13]
 obtain ⟨b, v, R, rfl, hrow, hpl⟩ := h.row
 obtain ⟨i, hi⟩ : ∃ i, i = chunkN (hs k) (lv : Int) := ⟨_, rfl⟩
 have hi32 : i < 32 := by rw [hi]; exact chunkN_lt _ _
 have HCH := Lib.hid (fun W => mix_Chunk (hs k) (lv : Int) (hlt k) W)
 rw [← hi] at HCH
 have HGET := Lib.hid (fun W (hb : Below w.heap.size w W) => pr_Get W R #[b, v] i hi32 (hrow.later hb))
 have HPL := Lib.hid (hpl i hi32)
 have hch : getE (chE hs lv i L) k = getE L k := ch_get (by rw [hi])
 rw [← hlv] at HPL
 have HCE := Lib.hid hch
 have HRI := Lib.hid (hL.ch hs lv i)
 have HLE := Lib.hid (Nat.le_trans (ch_len_le (hs := hs) (lv := lv) (i := i) (L := L)) hn)
 have HIH := Lib.hid ih
 have HX1 := Lib.hid hx1
 have HB1 := Lib.hid hb1
 have HS1 := Lib.hid hs1
 have hn13 : ((lv : Int) == 13) = false := beq_eq_false_iff_ne.2 (by omega)
 have hlv12 : (lv : Int) ≤ 12 := by omega
 have HLV : Hid ((13 - f : Nat) = lv + 1) := by show _ = _; omega
 obtain ⟨M, hM⟩ : ∃ M, M = chE hs lv i L := ⟨_, rfl⟩
 rw [← hM] at HPL HCE HRI HLE
 obtain ⟨h1, u1⟩ : ∃ x : Nat, x = hs k := ⟨_, rfl⟩
 have HU1 := Lib.hid u1
 rw [← u1] at HCH ⊢
 obtain ⟨bb, rfl⟩ : ∃ bb : Nat, b = .int .u32 (bb : Int) := by obtain ⟨v', e, _⟩ := hrow; simp only [Array.mk.injEq, List.cons.injEq] at e; exact ⟨_, e.1⟩
 obtain ⟨va, vn, vc, rfl⟩ : ∃ a n c, v = .slice a n c := by obtain ⟨a, n, e⟩ := hrow.shape; simp only [Array.mk.injEq, List.cons.injEq] at e; exact ⟨_, _, _, e.2.1⟩
 clear h hrow hpl hch hx1 hb1 hs1 hi hM hL hn ih u1 hlv e13
 go_enter Tryz.func116, Tryz.ntmps116
 go_upto_region 6 with fail
 clear hw1
 have HKS : Hid (∀ V, Below w1.heap.size w1 V → (V.heap[w.heap.size]? = some (.cells #[.int .u32 (bb : Int), .slice va vn vc, .slice none 0 0] 119 (0, 0)))) := fun V hV => (hV.block _ (by have := HS1.out; omega)).trans HX1.out
 have HW : Hid (Below w1.heap.size w1 w1.drew) := drawn_below w1
 refine wp_region_T (S := (fun V => V.heap[w.heap.size]? = some (.cells #[.int .u32 (bb : Int), .slice va vn vc, .slice none 0 0] 119 (0, 0)))) [] (by kernel_rfl) (by exact HKS.out _ HW.out) (fun hHeld => ?_)
 refine tkA 0 29 (h := ?_)
 refine tyA 1 30 (hy := yieldsIf_arr (by rfl) 116 _ rfl w.heap.size 0 rfl #[.int .u32 (bb : Int), .slice va vn vc] _ (fun w hw => (row_range hw)) Tryz.underlying116 rfl (by exact row_size)) (h := ?_)
 refine tkA 2 31 (h := ?_)
 refine tkA 3 32 (h := ?_)
 (try simp only [pq])
 refine wpAnyT_takeC (i := 4) (oi := ⟨some 33, _, _, _, _, _⟩) (v := .int .i64 (i : Int)) rfl (by kernel_rfl) (by kernel_rfl) (by kernel_rfl) (by kernel_rfl) (fun _ _ _ h => h) ⟨by rfl, fun w hSw => ⟨139, #[.int .u64 (h1 : Int), .int .i64 (lv : Int)], ?hg1_4, (HCH.out w).mono fun _ _ h => ⟨h.1, h.2.symm⟩⟩⟩ (by assumption) ?rg1_4
 case hg1_4 => go_simp
 (try simp only [pq])
 refine wpAnyT_ready (rs := [5, 9]) (by kernel_rfl) (by simp) ?_
 refine AllT.cons (o := ⟨some 34, _, _, _, _, _⟩) rfl (fun K hK => ?_) (AllT.cons (o := ⟨some 11, _, _, _, _, _⟩) rfl (fun K hK => ?_) AllT.nil)
 ·go_simp
  go_at_call 138
  refine (HGET.out _ (tW HB1.out HW.out)).mono ?_
  rintro r w5 ⟨rfl, hb⟩
  replace HW := Lib.hid (tW HW.out hb)
  clear hb
  dsimp only
  refine hK.out _ _ (by exact HKS.out _ HW.out) (fun hHeld => ?_)
  clear hK K
  (try simp only [pq])
  refine tkA 6 28 (h := ?_)
  refine tkA 7 35 (h := ?_)
  refine tkA 8 36 (h := ?_)
  (try simp only [pq])
  refine tkO 9 (some 11) (h := fun K hK => ?_)
  go_simp
  have HPX : Hid (PBox (w5.alloc (.cells #[.pointer none, .pointer none] 190)) w5.heap.size (none, none)) := heap_alloc_last w5 _
  have HXL := Lib.hid HW.out.size
  replace HW := Lib.hid (HW.out.trans ((Below.newly' w5 (.cells #[.pointer none, .pointer none] 190)).mono HW.out.size))
  obtain ⟨X, hX⟩ : ∃ X, X = w5.heap.size := ⟨_, rfl⟩
  rw [← hX] at HPX HXL ⊢
  clear hX
  refine hK.out _ _ (by exact HKS.out _ HW.out) (fun hHeld => ?_)
  clear hK K
  (try simp only [pq])
  refine tkO 10 none (h := fun K hK => ?_)
  rw [if_pos (by rfl)]
  refine st_agg_wp 190 _ _ rfl X (plc ((R i).getD (none, none))) rfl rfl 190 (plc (none, none)) HPX.out pl_size rfl (plc_one _) ?_
  intro w6 h6 k6
  have HP6 := Lib.hid h6
  replace HW := Lib.hid (HW.out.trans (k6.below HXL.out))
  clear h6 k6 HPX
  refine hK.out _ _ (by exact HKS.out _ HW.out) (fun hHeld => ?_)
  clear hK K
  (try simp only [pq])
  refine tkA 11 12 (h := ?_)
  (try simp only [pq])
  refine wpAnyT_done (by kernel_rfl) ?_ _
  have HWW := Lib.hid (tW HB1.out HW.out)
  clear hHeld
  rcases M with _ | ⟨e, _ | ⟨e2, M2⟩⟩
  ·have hr : R i = none := HPL.out
   rw [hr] at HP6 ⊢
   have cx0 : w6.cell? ⟨X, 0, none⟩ = some (.pointer none) := cell_in HP6.out rfl
   have cx1 : w6.cell? ⟨X, 1, none⟩ = some (.pointer none) := cell_in HP6.out rfl
   have HG : Hid (getE L k = none) := by show _ = _; rw [← HCE.out]; rfl
   clear hr
   go_wp2_with fail
   go_ret
   exact ⟨none, rfl, by unfold Found; rw [HG.out], HWW.out⟩
  ·obtain ⟨b, hr, he⟩ := HPL.out
   rw [hr] at HP6 ⊢
   have HE6 := Lib.hid (he.later HWW.out)
   have cx0 : w6.cell? ⟨X, 0, none⟩ = some (.pointer (some ⟨b, 0, none⟩)) := cell_in HP6.out rfl
   have cx1 : w6.cell? ⟨X, 1, none⟩ = some (.pointer none) := cell_in HP6.out rfl
   have ce0 : w6.cell? ⟨b, 0, none⟩ = some (.string e.1) := by
    obtain ⟨_, fr, h⟩ := HE6.out
    exact cell_in h rfl
   have hge : getE [e] k = if e.1 = k then some e.2 else none := by
    unfold getE
    by_cases h : e.1 = k
    ·simp [h]
    ·simp [h]
   have HGE : Hid (getE L k = if e.1 = k then some e.2 else none) := by show _ = _; rw [← HCE.out]; exact hge
   clear hr he hge
   by_cases hk : e.1 = k
   ·have hkk : (e.1.toList == k.toList) = true := by rw [hk]; simp
    have HKK := Lib.hid hk
    clear hk
    go_wp2_with fail
    go_ret
    refine ⟨some b, rfl, ?_, HWW.out⟩
    unfold Found
    rw [HGE.out, if_pos HKK.out]
    refine ⟨b, rfl, ?_⟩
    rw [← HKK.out]
    exact HE6.out
   ·have hkk : (e.1.toList == k.toList) = false := beq_eq_false_iff_ne.2 fun h => hk (kb_inj (by rw [ByteArray.toList_eq, ByteArray.toList_eq] at h; exact h))
    have HKK := Lib.hid hk
    clear hk
    go_wp2_with fail
    go_ret
    exact ⟨none, rfl, by unfold Found; rw [HGE.out, if_neg HKK.out], HWW.out⟩
  ·obtain ⟨b, c2, fr, hr, hSb, hbk, hN⟩ := HPL.out
   rw [hr] at HP6 ⊢
   have cx1 : w6.cell? ⟨X, 1, none⟩ = some (.pointer (some ⟨b, 0, none⟩)) := cell_in HP6.out rfl
   have HBK := Lib.hid (kW HWW.out hbk)
   have hih := HIH.out S w6 _ c2 k (hN.later HWW.out) HRI.out HLE.out
   rw [HLV.out, ← HU1.out, show (((lv + 1 : Nat) : Nat) : Int) = (lv : Int) + 1 by omega] at hih
   have HF := Lib.hid hih
   have HSZ2 := Lib.hid hN.size
   clear hr hSb hbk hN hih
   go_wp2_with (first
    | (refine ld_if (by rfl) 119 _ rfl b rfl 119 _ _ _ HBK.out Tryz.underlying119 rfl (by rw [HSZ2.out]; exact nd_size) ?_)
    | (go_at_call 116; refine HF.out.mono ?_; rintro r w7 ⟨p, rfl, hp, hb⟩; have HFO := Lib.hid hp; have HB7 := Lib.hid (tW HWW.out hb); clear hp hb))
   go_ret
   exact ⟨p, rfl, (HFO.out.congr HCE.out), HB7.out⟩
 ·go_simp
  obtain ⟨W2, hW2⟩ : ∃ W2, (w1.alloc (.cells #[.pointer none, .pointer none] 190)).drew = W2 := ⟨_, rfl⟩
  have HPX0 : Hid (PBox W2 w1.heap.size (none, none)) := by show _ = _; rw [← hW2]; exact heap_alloc_last w1 _
  have hb : Below w1.heap.size w1 W2 := by rw [← hW2]; exact Below.drewMany (Below.newly' w1 _) 1
  replace HW := Lib.hid hb
  have HXL : Hid (w1.heap.size ≤ w1.heap.size) := Nat.le_refl _
  have HXLT : Hid (w1.heap.size < W2.heap.size) := by show _ < _; rw [← hW2]; simp
  rw [hW2]
  clear hb hW2
  obtain ⟨X, hX⟩ : ∃ X, X = w1.heap.size := ⟨_, rfl⟩
  rw [← hX] at HPX0 HXLT ⊢
  replace HXL : Hid (w1.heap.size ≤ X) := by show _ ≤ _; rw [hX]; exact Nat.le_refl _
  clear hX
  refine hK.out _ _ (by exact HKS.out _ HW.out) (fun hHeld => ?_)
  clear hK K
  (try simp only [pq])
  refine tkO 5 (some 34) (h := fun K hK => ?_)
  go_simp
  go_at_call 138
  refine (HGET.out _ (tW HB1.out HW.out)).mono ?_
  rintro r w5 ⟨rfl, hb⟩
  have HPX := Lib.hid ((hb.block X HXLT.out).trans HPX0.out)
  replace HW := Lib.hid (tW HW.out hb)
  clear hb
  dsimp only
  refine hK.out _ _ (by exact HKS.out _ HW.out) (fun hHeld => ?_)
  clear hK K
  (try simp only [pq])
  refine tkA 6 28 (h := ?_)
  refine tkA 7 35 (h := ?_)
  refine tkA 8 36 (h := ?_)
  (try simp only [pq])
  refine tkO 10 none (h := fun K hK => ?_)
  rw [if_pos (by rfl)]
  refine st_agg_wp 190 _ _ rfl X (plc ((R i).getD (none, none))) rfl rfl 190 (plc (none, none)) HPX.out pl_size rfl (plc_one _) ?_
  intro w6 h6 k6
  have HP6 := Lib.hid h6
  replace HW := Lib.hid (HW.out.trans (k6.below HXL.out))
  clear h6 k6 HPX
  refine hK.out _ _ (by exact HKS.out _ HW.out) (fun hHeld => ?_)
  clear hK K
  (try simp only [pq])
  refine tkA 11 12 (h := ?_)
  (try simp only [pq])
  refine wpAnyT_done (by kernel_rfl) ?_ _
  have HWW := Lib.hid (tW HB1.out HW.out)
  clear hHeld
  rcases M with _ | ⟨e, _ | ⟨e2, M2⟩⟩
  ·have hr : R i = none := HPL.out
   rw [hr] at HP6 ⊢
   have cx0 : w6.cell? ⟨X, 0, none⟩ = some (.pointer none) := cell_in HP6.out rfl
   have cx1 : w6.cell? ⟨X, 1, none⟩ = some (.pointer none) := cell_in HP6.out rfl
   have HG : Hid (getE L k = none) := by show _ = _; rw [← HCE.out]; rfl
   clear hr
   go_wp2_with fail
   go_ret
   exact ⟨none, rfl, by unfold Found; rw [HG.out], HWW.out⟩
  ·obtain ⟨b, hr, he⟩ := HPL.out
   rw [hr] at HP6 ⊢
   have HE6 := Lib.hid (he.later HWW.out)
   have cx0 : w6.cell? ⟨X, 0, none⟩ = some (.pointer (some ⟨b, 0, none⟩)) := cell_in HP6.out rfl
   have cx1 : w6.cell? ⟨X, 1, none⟩ = some (.pointer none) := cell_in HP6.out rfl
   have ce0 : w6.cell? ⟨b, 0, none⟩ = some (.string e.1) := by
    obtain ⟨_, fr, h⟩ := HE6.out
    exact cell_in h rfl
   have hge : getE [e] k = if e.1 = k then some e.2 else none := by
    unfold getE
    by_cases h : e.1 = k
    ·simp [h]
    ·simp [h]
   have HGE : Hid (getE L k = if e.1 = k then some e.2 else none) := by show _ = _; rw [← HCE.out]; exact hge
   clear hr he hge
   by_cases hk : e.1 = k
   ·have hkk : (e.1.toList == k.toList) = true := by rw [hk]; simp
    have HKK := Lib.hid hk
    clear hk
    go_wp2_with fail
    go_ret
    refine ⟨some b, rfl, ?_, HWW.out⟩
    unfold Found
    rw [HGE.out, if_pos HKK.out]
    refine ⟨b, rfl, ?_⟩
    rw [← HKK.out]
    exact HE6.out
   ·have hkk : (e.1.toList == k.toList) = false := beq_eq_false_iff_ne.2 fun h => hk (kb_inj (by rw [ByteArray.toList_eq, ByteArray.toList_eq] at h; exact h))
    have HKK := Lib.hid hk
    clear hk
    go_wp2_with fail
    go_ret
    exact ⟨none, rfl, by unfold Found; rw [HGE.out, if_neg HKK.out], HWW.out⟩
  ·obtain ⟨b, c2, fr, hr, hSb, hbk, hN⟩ := HPL.out
   rw [hr] at HP6 ⊢
   have cx1 : w6.cell? ⟨X, 1, none⟩ = some (.pointer (some ⟨b, 0, none⟩)) := cell_in HP6.out rfl
   have HBK := Lib.hid (kW HWW.out hbk)
   have hih := HIH.out S w6 _ c2 k (hN.later HWW.out) HRI.out HLE.out
   rw [HLV.out, ← HU1.out, show (((lv + 1 : Nat) : Nat) : Int) = (lv : Int) + 1 by omega] at hih
   have HF := Lib.hid hih
   have HSZ2 := Lib.hid hN.size
   clear hr hSb hbk hN hih
   go_wp2_with (first
    | (refine ld_if (by rfl) 119 _ rfl b rfl 119 _ _ _ HBK.out Tryz.underlying119 rfl (by rw [HSZ2.out]; exact nd_size) ?_)
    | (go_at_call 116; refine HF.out.mono ?_; rintro r w7 ⟨p, rfl, hp, hb⟩; have HFO := Lib.hid hp; have HB7 := Lib.hid (tW HWW.out hb); clear hp hb))
   go_ret
   exact ⟨p, rfl, (HFO.out.congr HCE.out), HB7.out⟩
theorem hm_find (hs : ByteArray → Nat) (hlt : ∀ k, hs k < 18446744073709551616) : ∀ f, f ≤ 13 → FindOk hs f
 | 0, _ => hm_find_0 hs
 | f + 1, h => hm_find_s hs hlt f (by omega) (hm_find hs hlt f (by omega))
theorem ep_elem (w : World) : (sizeOf (Tryz.prog.elem 117)).run Tryz.prog w = .ok 1 w := by
 have e : Tryz.prog.elem 117 = 166 := by kernel_rfl
 rw [e]
 obtain ⟨i, hi, _, h1, _⟩ := info_parts eptr_info
 simp [sizeOf, typeInfo, hi, h1]
theorem ep_under : Tryz.prog.underlying 117 = some (.slice (Tryz.prog.elem 117)) := by kernel_rfl
def WithOk (hs : ByteArray → Nat) (f : Nat) : Prop := ∀ (S : Nat → Prop) (w : World) (L : List Ent) (c : Array Value) (b : Nat) (k : ByteArray) (x : Cel), NodeAt hs S f w L c → Rise L → L.length ≤ 50000 → EntAt hs S w b (k, x) → Tab6 w →
  Calls Tryz.prog 128 #[.agg c, .int .i64 ((13 - f : Nat) : Int), pv (some b)] w fun r w' => ∃ c', r = .returned (.agg c') ∧ NodeAt hs (fun g => S g ∨ w.heap.size ≤ g) f w' (insE L k x) c' ∧ Below w.heap.size w w'
def PWithOk (hs : ByteArray → Nat) (f : Nat) : Prop := ∀ (S : Nat → Prop) (w : World) (L : List Ent) (p : Option Pl) (b : Nat) (k : ByteArray) (x : Cel), PlAt hs S w (NodeAt hs S f w) L p → Rise L → L.length ≤ 50000 → EntAt hs S w b (k, x) → Tab6 w →
  Calls Tryz.prog 150 #[.agg (plc (p.getD (none, none))), .int .i64 ((13 - f : Nat) : Int), pv (some b)] w fun r w' => ∃ p', r = .returned (.agg (plc p')) ∧ PlAt hs (fun g => S g ∨ w.heap.size ≤ g) w' (NodeAt hs (fun g => S g ∨ w.heap.size ≤ g) f w') (insE L k x) (some p') ∧ Below w.heap.size w w'
theorem en_lit {W : World} {g b : Nat} (h : W.heap[g]? = some (.cells #[.pointer (some ⟨b, 0, none⟩)] 166 (0, 0))) : CutAt (fun _ => True) W 1 (.slice (some ⟨g, 0, none⟩) 1 1) (en enE [b]) 1 :=
 ⟨_, 1, rfl, Nat.le_refl _, rfl, .inr ⟨g, 0, rfl, trivial, (Array.getElem?_eq_some_iff.1 h).1, fun j u hu => by
  rw [Nat.zero_add]
  refine cell_in h ?_
  simpa [en, enE, pv] using hu⟩⟩
theorem list_node {hs : ByteArray → Nat} {S : Nat → Prop} {w w' : World} {v : Value} {qs : List (Nat × Ent)} (h0 : 0 < qs.length) (h : w'.ownsRow w.heap.size 166 1 v qs.length (en enE (qs.map (·.1)))) (he : ∀ q ∈ qs, EntAt hs S w' q.1 q.2) :
  NodeAt hs (fun g => S g ∨ w.heap.size ≤ g) 0 w' (qs.map (·.2)) #[.int .u32 0, .slice none 0 0, v] := by
 refine ⟨v, qs, rfl, ?_, rfl, fun q hq => (he q hq).weak fun _ h => .inl h⟩
 have hz := ownsRow_headZ h h0
 rw [List.length_map]
 obtain ⟨h1, h2⟩ := hz
 refine ⟨h1, h2.imp_right ?_⟩
 rintro ⟨a1, g, c, cur, a2, a3, a4, a5, a6⟩
 exact ⟨a1, g, c, cur, a2, a3, .inr a4, a5, a6⟩
theorem cc_three (w : World) (B : Nat) (v1 v2 v3 : Value) (p1 p2 p3 : List Nat) (h1 : w.cell? ⟨B, 0, none⟩ = some v1) (h2 : w.cell? ⟨B, 1, none⟩ = some v2) (h3 : w.cell? ⟨B, 2, none⟩ = some v3)
  (c1 : CutAt (fun _ => True) w 1 v1 (en enE p1) p1.length) (c2 : CutAt (fun _ => True) w 1 v2 (en enE p2) p2.length) (c3 : CutAt (fun _ => True) w 1 v3 (en enE p3) p3.length) (hN : (p1 ++ (p2 ++ p3)).length ≤ 100000) (h0 : 0 < (p1 ++ (p2 ++ p3)).length) :
  Calls Tryz.prog 148 #[.slice (some ⟨B, 0, none⟩) 3 3] w fun e w' => ∃ g c, e = .returned (.slice (some ⟨g, 0, none⟩) (p1 ++ (p2 ++ p3)).length c) ∧ w'.ownsRow w.heap.size 166 1 (.slice (some ⟨g, 0, none⟩) (p1 ++ (p2 ++ p3)).length c) (p1 ++ (p2 ++ p3)).length (en enE (p1 ++ (p2 ++ p3))) ∧ Below w.heap.size w w' := by
 have e : catE [(v1, p1), (v2, p2), (v3, p3)] 3 = p1 ++ (p2 ++ p3) := by simp [catE]
 have h := cc_ep enE_one w (S := fun _ => True) B [(v1, p1), (v2, p2), (v3, p3)] (fun k hk => by
  match k, hk with
  | 0, _ => exact h1
  | 1, _ => exact h2
  | 2, _ => exact h3) (fun q hq => by
  simp only [List.mem_cons, List.not_mem_nil, or_false] at hq
  rcases hq with rfl | rfl | rfl
  ·exact c1
  ·exact c2
  ·exact c3) (by show (catE _ 3).length ≤ _; rw [e]; exact hN) (by simp)
 refine h.mono ?_
 rintro r w' ⟨v, rfl, ho, hb⟩
 change World.ownsRow _ _ _ _ v (catE _ 3).length (en enE (catE _ 3)) at ho
 rw [e] at ho
 have ho' := ho
 obtain ⟨_, ⟨_, hz⟩ | ⟨g, cap, cur, rfl, _⟩⟩ := ho'
 ·omega
 ·exact ⟨g, cap, rfl, ho, hb⟩
theorem CutAt.all {S : Nat → Prop} {W : World} {s n : Nat} {v : Value} {cs : List Value} (h : CutAt S W s v cs n) : CutAt (fun _ => True) W s v cs n := h.weak fun _ _ => trivial
theorem ins_pairs {L : List Ent} {k : ByteArray} {x : Cel} {qs rest : List (Nat × Ent)} {N b : Nat} (h1 : (qs.take N).map (·.2) = belE L k) (h2 : rest.map (·.2) = abvE L k) : (qs.take N ++ ((b, (k, x)) :: rest)).map (·.2) = insE L k x := by
 rw [List.map_append, List.map_cons, h1, h2]
 rfl
set_option maxHeartbeats 4000000 in
theorem hm_with_0 (hs : ByteArray → Nat) : WithOk hs 0 := by
 intro S w L c b k x h hL hn he hT
 have hh := h
 obtain ⟨v, qs, rfl, h2, hq, h4⟩ := h
 rw [show (((13 - 0 : Nat) : Nat) : Int) = 13 from rfl]
 have hlq : L.length = qs.length := by rw [hq, List.length_map]
 rw [hlq] at h2
 obtain ⟨va, vc, rfl, hvc⟩ := h2.head.shape
 obtain ⟨w1, hw1⟩ : ∃ w1, (w.alloc (.cells #[.int .u32 0, .slice none 0 0, .slice va qs.length vc] 119)).alloc (.cells #[.int .u32 0, .slice none 0 0, .slice none 0 0] 119) = w1 := ⟨_, rfl⟩
 obtain ⟨hb1, hx1, hy1, hs1⟩ := two_newG hw1
 have HX1 := Lib.hid hx1
 have HY1 := Lib.hid hy1
 have HB1 := Lib.hid hb1
 have HS1 := Lib.hid hs1
 have HE := Lib.hid he
 have HSE := Lib.hid (fun W (hb : Below w.heap.size w W) => hm_search W L _ k (hh.later hb) hL (by omega))
 obtain ⟨N, hN⟩ : ∃ N, N = (belE L k).length := ⟨_, rfl⟩
 rw [← hN] at HSE
 have hNq : N ≤ qs.length := by rw [hN, ← hlq]; exact List.length_filter_le _ _
 have hbel : (qs.take N).map (·.2) = belE L k := by rw [List.map_take, ← hq, hN]; exact cut_take hL k
 have hdrp : (qs.drop N).map (·.2) = atE L k ++ abvE L k := by rw [List.map_drop, ← hq, hN]; exact cut_drop hL k
 obtain ⟨a1, c1, hs1a, hr1⟩ := cut_h (P := Tryz.prog) 117 ep_under ep_elem h2.head.cut hNq
 obtain ⟨a3, c3, hs3, hr3⟩ := cut_l (P := Tryz.prog) 117 ep_under ep_elem h2.head.cut hNq
 rw [en_take enE_len] at hs1a
 rw [en_drop enE_len] at hs3
 have HC1 := Lib.hid hs1a
 have HC3 := Lib.hid hs3
 have HH4 := Lib.hid h4
 have HBEL := Lib.hid hbel
 have HDRP := Lib.hid hdrp
 have HLQ := Lib.hid (And.intro hlq hn)
 have HNQ := Lib.hid hNq
 have HHQ := Lib.hid hq
 obtain ⟨is, his⟩ : ∃ is, is = (getE L k).isSome := ⟨_, rfl⟩
 rw [← his] at HSE
 have HIS := Lib.hid his
 have cb0 : w.cell? ⟨b, 0, none⟩ = some (.string k) := by
  obtain ⟨_, fr, h⟩ := he
  exact cell_in h rfl
 have HCB := Lib.hid cb0
 have HBL := Lib.hid he.lt
 clear hh h2 hq h4 hx1 hy1 hb1 hs1 he hL hn hlq hNq hbel hdrp hs1a hs3 his cb0 hN hT
 unfold pv
 go_enter Tryz.func128, Tryz.ntmps128
 go_upto_region 2 with fail
 clear hw1
 have HKS : Hid (∀ V, Below w1.heap.size w1 V → (V.heap[w.heap.size]? = some (.cells #[.int .u32 0, .slice none 0 0, .slice va qs.length vc] 119 (0, 0)) ∧ V.cell? ⟨b, 0, none⟩ = some (.string k))) := fun V hV =>
  ⟨(hV.block _ (by have := HS1.out; omega)).trans HX1.out, ((tW HB1.out hV).cell (p := ⟨b, 0, none⟩) HBL.out).trans HCB.out⟩
 have HW : Hid (Below w1.heap.size w1 w1.drew) := drawn_below w1
 refine wp_region_T (S := (fun V => V.heap[w.heap.size]? = some (.cells #[.int .u32 0, .slice none 0 0, .slice va qs.length vc] 119 (0, 0)) ∧ V.cell? ⟨b, 0, none⟩ = some (.string k))) [] (by kernel_rfl) (by exact HKS.out _ HW.out) (fun hHeld => ?_)
 refine tyA 0 16 (hy := yieldsIf_load_row (by rfl) 119 _ rfl w.heap.size rfl #[.int .u32 0, .slice none 0 0, .slice va qs.length vc] 119 (0, 0) _ (fun w hw => hw.1) Tryz.underlying119 rfl (by exact nd_size)) (h := ?_)
 refine tkA 1 17 (h := ?_)
 refine tkA 2 18 (h := ?_)
 refine tkA 3 19 (h := ?_)
 refine tkA 4 20 (h := ?_)
 (try simp only [pq])
 refine tkO 5 (some 21) (h := fun K hK => ?_)
 go_simp
 go_at_call 137
 refine (HSE.out _ (tW HB1.out HW.out)).mono ?_
 rintro r w2 ⟨rfl, hb⟩
 replace HW := Lib.hid (tW HW.out hb)
 clear hb
 dsimp only
 refine hK.out _ _ (by exact HKS.out _ HW.out) (fun hHeld => ?_)
 clear hK K
 (try simp only [pq])
 refine tkA 6 15 (h := ?_)
 refine tkA 7 22 (h := ?_)
 refine tkA 8 23 (h := ?_)
 refine tkA 9 7 (h := ?_)
 refine tkA 10 8 (h := ?_)
 (try simp only [pq])
 refine wpAnyT_done (by kernel_rfl) ?_ _
 have HXW := Lib.hid (HKS.out _ HW.out).1
 have HYW := Lib.hid ((HW.out.block _ (by have := HS1.out; omega)).trans HY1.out)
 have cx2 : w2.cell? ⟨w.heap.size, 2, none⟩ = some (.slice va qs.length vc) := cell_in HXW.out rfl
 have HBW := Lib.hid (tW HB1.out HW.out)
 have HSW : Hid (w.heap.size + 2 ≤ w2.heap.size) := by show _ ≤ _; have := HW.out.size; have := HS1.out; omega
 clear HKS HW hHeld
 cases is with
 | false =>
  have HREST : Hid ((qs.drop N).map (·.2) = abvE L k) := by
   show _ = _
   rw [HDRP.out, at_none (by simpa using HIS.out.symm), List.nil_append]
  have HQ1 : Hid ((qs.map (·.1)).take N = (qs.take N).map (·.1)) := List.map_take.symm
  have HQ3 : Hid ((qs.map (·.1)).drop N = (qs.drop N).map (·.1)) := List.map_drop.symm
  have HT : Hid ((qs.take N ++ ((b, (k, x)) :: (qs.drop N))).length ≤ 60000 ∧ ((qs.take N).map (·.1)).length = N ∧ ((qs.drop N).map (·.1)).length = qs.length - N) := by
   show _ ∧ _ ∧ _
   have h1 := HNQ.out
   have h2 := HLQ.out
   refine ⟨?_, ?_, ?_⟩
   ·simp
    omega
   ·simp
    omega
   ·simp
    try omega
  go_wp2_with fail
  obtain ⟨W3, hW3⟩ : ∃ W3, (w2.alloc (.cells #[.pointer (some ⟨b, 0, none⟩)] 166)).alloc (.cells #[.slice a1 N c1, .slice (some ⟨w2.heap.size, 0, none⟩) 1 1, .slice a3 (qs.length - N) c3] 117) = W3 := ⟨_, rfl⟩
  obtain ⟨hb3, hx3, hy3, hs3⟩ := two_newG hW3
  rw [hW3]
  refine (cc_three W3 (w2.heap.size + 1) (.slice a1 N c1) (.slice (some ⟨w2.heap.size, 0, none⟩) 1 1) (.slice a3 (qs.length - N) c3) ((qs.take N).map (·.1)) [b] ((qs.drop N).map (·.1)) (cell_in hy3 rfl) (cell_in hy3 rfl) (cell_in hy3 rfl) (by rw [HT.out.2.1, ← HQ1.out]; exact ((HC1.out.later HBW.out).later hb3).all) (en_lit hx3) (by rw [HT.out.2.2]; exact (by rw [← HQ3.out]; exact ((HC3.out.later HBW.out).later hb3).all)) (by have := HT.out.1; simp at this ⊢; omega) (by rw [List.length_append, List.length_append, List.length_singleton]; omega)).mono ?_
  rintro r w5 ⟨g5, c5, hr, ho5, hb5⟩
  obtain ⟨n5, hn5⟩ : ∃ n5, n5 = ((qs.take N).map (·.1) ++ ([b] ++ (qs.drop N).map (·.1))).length := ⟨_, rfl⟩
  rw [← hn5] at hr ho5
  subst hr
  have HN5 := Lib.hid hn5
  have HO5 := Lib.hid ho5
  have HB5 := Lib.hid (HBW.out.trans ((hb3.trans (hb5.mono (by omega))).mono HBW.out.size))
  have HY5 := Lib.hid ((hb5.block _ (by have := HSW.out; omega)).trans ((hb3.block _ (by have := HSW.out; omega)).trans HYW.out))
  have HW3 : Hid (w.heap.size + 2 ≤ W3.heap.size) := (by show _ ≤ _; have := HSW.out; omega)
  clear hb3 hx3 hy3 hs3 hW3 ho5 hb5 hn5
  go_wp2_with (refine st_agg rfl 119 _ _ rfl (w.heap.size + 1) #[.int .u32 0, .slice none 0 0, .slice (some ⟨g5, 0, none⟩) n5 c5] rfl rfl 119 _ HY5.out nd_size rfl (by simp [Value.oneCell']) ?_; intro w6 h6 k6)
  refine bodyPost_ret (results_cell_row rfl _ _ (w.heap.size + 1) 119 _ (0, 0) _ rfl h6 Tryz.underlying119 rfl nd_size) rfl ⟨_, rfl, ?_, HB5.out.trans (k6.below (by omega))⟩
  have ho6 := HO5.out
  have e : (qs.take N).map (·.1) ++ ([b] ++ (qs.drop N).map (·.1)) = (qs.take N ++ ((b, (k, x)) :: (qs.drop N))).map (·.1) := by rw [List.map_append, List.map_cons]; rfl
  have hn5 := HN5.out
  rw [e, List.length_map] at hn5
  rw [e, hn5] at ho6
  rw [hn5]
  rw [← ins_pairs (b := b) (x := x) HBEL.out HREST.out]
  have hnode := list_node (hs := hs) (S := fun g => S g ∧ g < w.heap.size) (w := W3) (w' := w5) (by rw [List.length_append, List.length_cons]; omega) ho6 (fun q hq => by
   rcases List.mem_append.1 hq with hq | hq
   ·exact (HH4.out q (List.mem_of_mem_take hq)).old.later HB5.out
   ·rcases List.mem_cons.1 hq with rfl | hq
    ·exact HE.out.old.later HB5.out
    ·exact (HH4.out q (List.mem_of_mem_drop hq)).old.later HB5.out)
  have hW3 := HW3.out
  exact (hnode.kp (Kp.only k6 (fun h => by omega))).weak fun g hg => by
   rcases hg with hg | hg
   ·exact .inl hg.1
   ·exact .inr (by omega)
 | true =>
  have hlt : N + 1 ≤ qs.length := by
   have h1 := congrArg List.length HDRP.out
   obtain ⟨y, hy⟩ := Option.isSome_iff_exists.1 HIS.out.symm
   rw [at_some hy] at h1
   simp at h1
   omega
  obtain ⟨a4, c4, hs4, hr4⟩ := cut_l (P := Tryz.prog) 117 ep_under ep_elem HC3.out (lo := 1) (by omega)
  rw [en_drop enE_len, List.drop_drop] at hs4
  have hr4' : ∀ w, (Instr.slice 117 (.slice a3 (qs.length - N) c3) (some (.int .i64 1)) none none).run Tryz.prog w = .ok (.slice a4 (qs.length - N - 1) c4) w := hr4
  have HC4 := Lib.hid hs4
  have HREST : Hid ((qs.drop (N + 1)).map (·.2) = abvE L k) := by
   show _ = _
   obtain ⟨y, hy⟩ := Option.isSome_iff_exists.1 HIS.out.symm
   have h1 := HDRP.out
   rw [at_some hy] at h1
   rw [← List.drop_drop, List.map_drop, h1]
   rfl
  have HQ1 : Hid ((qs.map (·.1)).take N = (qs.take N).map (·.1)) := List.map_take.symm
  have HQ3 : Hid ((qs.map (·.1)).drop (N + 1) = (qs.drop (N + 1)).map (·.1)) := List.map_drop.symm
  have HLTT := Lib.hid hlt
  clear hs4 hr4 hlt
  have HT : Hid ((qs.take N ++ ((b, (k, x)) :: (qs.drop (N + 1)))).length ≤ 60000 ∧ ((qs.take N).map (·.1)).length = N ∧ ((qs.drop (N + 1)).map (·.1)).length = qs.length - N - 1) := by
   show _ ∧ _ ∧ _
   have h1 := HNQ.out
   have h3 := HLTT.out
   have h2 := HLQ.out
   refine ⟨?_, ?_, ?_⟩
   ·simp
    omega
   ·simp
    omega
   ·simp
    try omega
  go_wp2_with fail
  obtain ⟨W3, hW3⟩ : ∃ W3, (w2.alloc (.cells #[.pointer (some ⟨b, 0, none⟩)] 166)).alloc (.cells #[.slice a1 N c1, .slice (some ⟨w2.heap.size, 0, none⟩) 1 1, .slice a4 (qs.length - N - 1) c4] 117) = W3 := ⟨_, rfl⟩
  obtain ⟨hb3, hx3, hy3, hs3⟩ := two_newG hW3
  rw [hW3]
  refine (cc_three W3 (w2.heap.size + 1) (.slice a1 N c1) (.slice (some ⟨w2.heap.size, 0, none⟩) 1 1) (.slice a4 (qs.length - N - 1) c4) ((qs.take N).map (·.1)) [b] ((qs.drop (N + 1)).map (·.1)) (cell_in hy3 rfl) (cell_in hy3 rfl) (cell_in hy3 rfl) (by rw [HT.out.2.1, ← HQ1.out]; exact ((HC1.out.later HBW.out).later hb3).all) (en_lit hx3) (by rw [HT.out.2.2]; exact (by rw [← HQ3.out]; exact ((HC4.out.later HBW.out).later hb3).all)) (by have := HT.out.1; simp at this ⊢; omega) (by rw [List.length_append, List.length_append, List.length_singleton]; omega)).mono ?_
  rintro r w5 ⟨g5, c5, hr, ho5, hb5⟩
  obtain ⟨n5, hn5⟩ : ∃ n5, n5 = ((qs.take N).map (·.1) ++ ([b] ++ (qs.drop (N + 1)).map (·.1))).length := ⟨_, rfl⟩
  rw [← hn5] at hr ho5
  subst hr
  have HN5 := Lib.hid hn5
  have HO5 := Lib.hid ho5
  have HB5 := Lib.hid (HBW.out.trans ((hb3.trans (hb5.mono (by omega))).mono HBW.out.size))
  have HY5 := Lib.hid ((hb5.block _ (by have := HSW.out; omega)).trans ((hb3.block _ (by have := HSW.out; omega)).trans HYW.out))
  have HW3 : Hid (w.heap.size + 2 ≤ W3.heap.size) := (by show _ ≤ _; have := HSW.out; omega)
  clear hb3 hx3 hy3 hs3 hW3 ho5 hb5 hn5
  go_wp2_with (refine st_agg rfl 119 _ _ rfl (w.heap.size + 1) #[.int .u32 0, .slice none 0 0, .slice (some ⟨g5, 0, none⟩) n5 c5] rfl rfl 119 _ HY5.out nd_size rfl (by simp [Value.oneCell']) ?_; intro w6 h6 k6)
  refine bodyPost_ret (results_cell_row rfl _ _ (w.heap.size + 1) 119 _ (0, 0) _ rfl h6 Tryz.underlying119 rfl nd_size) rfl ⟨_, rfl, ?_, HB5.out.trans (k6.below (by omega))⟩
  have ho6 := HO5.out
  have e : (qs.take N).map (·.1) ++ ([b] ++ (qs.drop (N + 1)).map (·.1)) = (qs.take N ++ ((b, (k, x)) :: (qs.drop (N + 1)))).map (·.1) := by rw [List.map_append, List.map_cons]; rfl
  have hn5 := HN5.out
  rw [e, List.length_map] at hn5
  rw [e, hn5] at ho6
  rw [hn5]
  rw [← ins_pairs (b := b) (x := x) HBEL.out HREST.out]
  have hnode := list_node (hs := hs) (S := fun g => S g ∧ g < w.heap.size) (w := W3) (w' := w5) (by rw [List.length_append, List.length_cons]; omega) ho6 (fun q hq => by
   rcases List.mem_append.1 hq with hq | hq
   ·exact (HH4.out q (List.mem_of_mem_take hq)).old.later HB5.out
   ·rcases List.mem_cons.1 hq with rfl | hq
    ·exact HE.out.old.later HB5.out
    ·exact (HH4.out q (List.mem_of_mem_drop hq)).old.later HB5.out)
  have hW3 := HW3.out
  exact (hnode.kp (Kp.only k6 (fun h => by omega))).weak fun g hg => by
   rcases hg with hg | hg
   ·exact .inl hg.1
   ·exact .inr (by omega)
end Go.Proofs.YtpodmgihlomglaaGreatDoor
