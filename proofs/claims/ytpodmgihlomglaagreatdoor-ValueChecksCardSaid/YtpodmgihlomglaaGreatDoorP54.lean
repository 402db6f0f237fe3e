import Derived.Test.YtpodmgihlomglaaGreatDoorP50
import Derived.Test.YtpodmgihlomglaaGreatDoorP51
namespace Go.Proofs.YtpodmgihlomglaaGreatDoor
open Go.RowKit
set_option maxRecDepth 1000000
set_option linter.unusedSimpArgs false
theorem stp_next {st : List Stp} {j : Nat} {e : Stp} (hj : j < st.length) (he : st[j] = e) : (st.take (j + 1)).map stpC = (st.take j).map stpC ++ [stpC e] := by
 subst he
 rw [List.take_succ_eq_append_getElem hj, List.map_append]
 rfl
theorem stp4 {n : Int} {t : ByteArray} {ks : List ByteArray} {xs : List Tr} {j : Nat} (hj : j < xs.length) : ((stepsT (.nd 4 n t ks xs)).take (j + 1)).map stpC = ((stepsT (.nd 4 n t ks xs)).take j).map stpC ++ [stpC (0, (j : Int), ⟨#[]⟩)] := by
 refine stp_next (by simp [stepsT, Tr.k, Tr.xs]; exact hj) (by simp [stepsT, Tr.k, Tr.xs])
theorem stp5 {n : Int} {t : ByteArray} {ks : List ByteArray} {xs : List Tr} {j : Nat} (_ : ks.length = xs.length) (hj : j < ks.length) : ((stepsT (.nd 5 n t ks xs)).take (j + 1)).map stpC = ((stepsT (.nd 5 n t ks xs)).take j).map stpC ++ [stpC (1, 0, ks[j])] := by
 refine stp_next (by simp [stepsT, Tr.k, Tr.ks]; exact hj) (by simp [stepsT, Tr.k, Tr.ks])
theorem stp6 {n : Int} {t : ByteArray} {ks : List ByteArray} {xs : List Tr} {j : Nat} (hj : j < xs.length) : ((stepsT (.nd 6 n t ks xs)).take (j + 1)).map stpC = ((stepsT (.nd 6 n t ks xs)).take j).map stpC ++ [stpC (2, 0, kB xs[j])] := by
 refine stp_next (by simp [stepsT, Tr.k, Tr.xs]; exact hj) (by simp [stepsT, Tr.k, Tr.xs, kB])
set_option maxHeartbeats 8000000 in
theorem rf_Steps (w : World) (a : Tr) (v : Value) (hv : TrV w a v) (ha : ValB a) : Calls Tryz.prog 48 #[v] w fun e w' => ∃ u, e = .returned u ∧ RowsW (w.heap.size + 1) 44 3 u ((stepsT a).map stpC) w' ∧ Below w.heap.size w w' := by
 have hsl := steps_len ha.1.1
 have hkd := ha.kind
 have hleaf := ha.leaf
 obtain ⟨k, n, t, ks, xs⟩ := a
 obtain ⟨kv, xv, rfl, ht, _, hn, ⟨kd, kcap, kb1, ko, rfl, k1, k2, k3⟩, ad, cap, bb, oo, rfl, h1, hmax, h2⟩ := hv.open'
 simp only [Tr.k, Tr.xs, Tr.ks] at hsl hkd hleaf
 obtain ⟨N, hN⟩ : ∃ N, N = xs.length := ⟨_, rfl⟩
 have hN4 : N ≤ 16383 := by rw [hN]; exact ha.len
 obtain ⟨lk, hlk⟩ : ∃ lk, lk = ks.length := ⟨_, rfl⟩
 rw [← hN] at h1 hsl ⊢
 rw [← hlk] at k1 ⊢
 have HLO := Lib.hid h1
 have HLC := Lib.hid h2
 have HVB := Lib.hid ha
 have HKC := Lib.hid (And.intro k1 k2)
 have HNL := Lib.hid (And.intro hN hlk)
 have HLF := Lib.hid hleaf
 have HSL := Lib.hid hsl
 have HKD := Lib.hid hkd
 obtain ⟨w1, hw1⟩ : ∃ w1, w.alloc (.cells (trC k n t (.slice kd lk kcap) (.slice ad N cap)) 28) = w1 := ⟨_, rfl⟩
 obtain ⟨hb1, hx1, hs1⟩ := new_below hw1
 have HXC : Hid (∀ W, Below (w.heap.size + 1) w1 W → ∀ (i : Nat) (u : Value), (trC k n t (.slice kd lk kcap) (.slice ad N cap))[i]? = some u → W.cell? ⟨w.heap.size, i, none⟩ = some u) := fun W hb i u hu => cell_in (((hb.block _ (by omega)).trans hx1)) hu
 have HB1 := Lib.hid hb1
 have HBS := Lib.hid hs1
 clear h1 h2 hmax k1 k2 k3 hleaf hsl hkd hN hlk hv ha hb1 hx1 hs1 ht hn
 go_enter Tryz.func48, Tryz.ntmps48
 go_upto_region 1 with fail
 clear hw1
 go_upto_region 2 with fail
 have hbz := Below.newly' w1 (.cells #[] 44)
 have hz9 := heap_alloc_last w1 (.cells #[] 44)
 obtain ⟨E, hE⟩ : ∃ E, E = w1.heap.size := ⟨_, rfl⟩
 obtain ⟨w2, hw2⟩ : ∃ w2, w2 = w1.alloc (.cells #[] 44) := ⟨_, rfl⟩
 rw [← hw2, ← hE] at hz9
 rw [← hw2] at hbz ⊢
 have HR2 : Hid (RowsW (w.heap.size + 1) 44 3 (.slice (some ⟨E, 0, none⟩) 0 0) [] w2) := rowsW_zero (by have := HBS.out; omega) (by have h1 := HBS.out; have h2 := hbz.size; omega) hz9
 have HW2 : Hid (Below (w.heap.size + 1) w1 w2) := hbz.mono (by have h1 := HBS.out; omega)
 obtain ⟨ev, hev⟩ : ∃ ev, ev = Value.slice (some ⟨E, 0, none⟩) 0 0 := ⟨_, rfl⟩
 rw [← hev] at HR2
 rw [← hE, ← hev]
 clear hbz hz9 hw2 hE hev
 have cx4 : w2.cell? ⟨w.heap.size, 4, none⟩ = some (.slice ad N cap) := HXC.out w2 HW2.out 4 _ rfl
 go_wp2_with fail
 clear cx4
 go_loopw [3, 4, 5, 10] (fun s a4 a5 i wl => ∃ j : Nat, j ≤ N ∧ i = .int .i64 (j : Int) ∧ Hid (RowsW (w.heap.size + 1) 44 3 s (((stepsT (.nd k n t ks xs)).take j).map stpC) wl) ∧ (∃ c, c = a4) ∧ (∃ c, c = a5) ∧ Hid (Below (w.heap.size + 1) w1 wl)) (fun _ _ _ i _ => N - (intOf i).toNat)
 case atStart => exact ⟨0, Nat.zero_le _, rfl, HR2.out, ⟨_, rfl⟩, ⟨_, rfl⟩, HW2.out⟩
 case round =>
  clear HR2 HW2
  obtain ⟨j, hj, rfl, HRO, _, _, HW⟩ := hrel
  have HLN : Hid ((((stepsT (.nd k n t ks xs)).take j).map stpC).length ≤ 900000) := by show _ ≤ _; rw [List.length_map, List.length_take]; omega
  by_cases hlt : j < N
  ·have hlt' : (j : Int) < (N : Int) := by omega
   have i0 : (0 : Int) ≤ (j : Int) := by omega
   have hlx : j < xs.length := by rw [← HNL.out.1]; exact hlt
   have had : ad = some ⟨bb, oo, none⟩ := HLO.out (by omega)
   subst had
   obtain ⟨cs, c1, c2, c3⟩ := HLC.out j hlx
   have hmem := List.getElem_mem hlx
   obtain ⟨y, hy⟩ : ∃ y, y = xs[j] := ⟨_, rfl⟩
   have HYE := Lib.hid hy
   rw [← hy] at c3 hmem
   obtain ⟨k', n', t', pa, pl, pc, qa, ql, qc, rfl⟩ := c3.cells
   have HR := Lib.hid (show wr.rangeAt bb (oo + j * 5) (trC k' n' t' (.slice pa pl pc) (.slice qa ql qc)).toList from fun i v hv => ((HB1.out.trans (HW.out.mono (by have := HBS.out; omega))).cell (World.block_lt_of_cell? w _ (c2 i v hv))).trans (c2 i v hv))
   have hyb := HVB.out.part hmem
   have HCL : Hid (∀ W, Below (w.heap.size + 1) w1 W → Calls Tryz.prog 45 #[.agg (trC k' n' t' (.slice pa pl pc) (.slice qa ql qc))] W fun e w' => e = .returned (.string (kB y)) ∧ Below W.heap.size W w') := fun W hW => rf_Key y _ W (c3.later (HB1.out.trans (hW.mono (by have := HBS.out; omega)))) hyb
   clear c1 c2 c3 hmem hy hyb
   go_upto_region 5 with (first
    | (refine ld_tr (by rfl) _ rfl bb (oo + j * 5) rfl (trC k' n' t' (.slice pa pl pc) (.slice qa ql qc)) HR.out rfl ?_)
    | (refine st_agg rfl 28 _ _ rfl wr.heap.size (trC k' n' t' (.slice pa pl pc) (.slice qa ql qc)) rfl rfl 28 (trC 0 0 ⟨#[]⟩ (.slice none 0 0) (.slice none 0 0)) (heap_alloc_last _ _) tr_size rfl (by simp [Value.oneCell']) ?_; intro w3 h3 k3))
   have hb3 : Below wr.heap.size wr w3 := (Below.newly' _ _).trans (k3.below (Nat.le_refl _))
   obtain ⟨X, hX⟩ : ∃ X, X = wr.heap.size := ⟨_, rfl⟩
   have HX3 := Lib.hid h3
   rw [← hX] at HX3 ⊢
   replace HRO := Lib.hid (HRO.out.later hb3)
   replace HW := Lib.hid (HW.out.trans (hb3.mono (by have h1 := HBS.out; have h2 := HW.out.size; omega)))
   clear h3 k3 hb3 hX HR
   rcases (show k ≤ 3 ∨ k = 4 ∨ k = 5 ∨ k = 6 by have := HKD.out; omega) with hk | hk | hk | hk
   ·have := (HLF.out hk).2
    rw [this] at hlx
    exact absurd hlx (Nat.not_lt_zero _)
   ·subst hk
    have cx0 : w3.cell? ⟨w.heap.size, 0, none⟩ = some (.int .i64 4) := HXC.out w3 HW.out 0 _ rfl
    have HNX := Lib.hid (stp4 (n := n) (t := t) (ks := ks) hlx)
    clear HYE hlx
    go_wp2_with (first
     | (refine bs_list rfl 45 44 _ rfl (stpC (0, (j : Int), ⟨#[]⟩)) 3 (.agg #[.int .i64 0, .int .i64 0, .string ⟨#[]⟩]) rfl rfl (by decide) (by decide) Tryz.underlying45 stp_info2 ?_; intro wl hl hbl hzl; have HL := Lib.hid hl; replace HRO := Lib.hid (HRO.out.later hbl); replace HW := Lib.hid (HW.out.trans (hbl.mono (by have h1 := HBS.out; have h2 := HW.out.size; omega))); clear hl hbl hzl)
     | (refine wpList_plain rfl fun _ hK => rowsW_wp 45 44 _ _ rfl (by_ := 32) (z := .agg #[.int .i64 0, .int .i64 0, .string ⟨#[]⟩]) (c := stpC (0, (j : Int), ⟨#[]⟩)) rfl HRO.out _ _ rfl HL.out rfl (by simp [Value.oneCell']) Tryz.underlying45 stp_info rfl (by decide) HLN.out (by decide) ?_; intro v7 w7 hr hg hn; refine hK _ _ ?_; have HRF := Lib.hid hr; have HBF := Lib.hid (HW.out.trans (HRO.out.below' hg (Nat.le_refl _) (by have h1 := HBS.out; have h2 := HW.out.size; omega))); clear hr hg hn hK))
    go_roundw
    case rel => exact ⟨j + 1, by omega, by go_num, by show RowsW _ _ _ _ _ _; rw [HNX.out]; exact HRF.out, ⟨_, rfl⟩, ⟨_, rfl⟩, HBF.out⟩
    case measure => simp [intOf]; omega
   ·subst hk
    have cx0 : w3.cell? ⟨w.heap.size, 0, none⟩ = some (.int .i64 5) := HXC.out w3 HW.out 0 _ rfl
    have hkl : ks.length = xs.length := (HVB.out.1.1.mapD rfl).1
    have hjk : j < ks.length := by rw [hkl]; exact hlx
    have HNX0 := stp5 (n := n) (t := t) hkl hjk
    obtain ⟨yk, hyk⟩ : ∃ yk, yk = ks[j] := ⟨_, rfl⟩
    rw [← hyk] at HNX0
    have HNX := Lib.hid HNX0
    have hlkN : N = lk := by rw [HNL.out.1, HNL.out.2]; exact hkl.symm
    have hks := HKC.out.2 j hjk
    rw [← hyk] at hks
    subst hlkN
    have hkdd : kd = some ⟨kb1, ko, none⟩ := HKC.out.1 (by omega)
    subst hkdd
    have cx3 : w3.cell? ⟨w.heap.size, 3, none⟩ = some (.slice (some ⟨kb1, ko, none⟩) N kcap) := HXC.out w3 HW.out 3 _ rfl
    have cxk : w3.cell? ⟨kb1, ko + j, none⟩ = some (.string yk) := ((HB1.out.trans (HW.out.mono (by have := HBS.out; omega))).cell (World.block_lt_of_cell? w _ hks)).trans hks
    clear HYE hlx hjk hkl hyk hks HNX0
    go_wp2_with (first
     | (refine bs_list rfl 45 44 _ rfl (stpC (1, 0, yk)) 3 (.agg #[.int .i64 0, .int .i64 0, .string ⟨#[]⟩]) rfl rfl (by decide) (by decide) Tryz.underlying45 stp_info2 ?_; intro wl hl hbl hzl; have HL := Lib.hid hl; replace HRO := Lib.hid (HRO.out.later hbl); replace HW := Lib.hid (HW.out.trans (hbl.mono (by have h1 := HBS.out; have h2 := HW.out.size; omega))); clear hl hbl hzl)
     | (refine wpList_plain rfl fun _ hK => rowsW_wp 45 44 _ _ rfl (by_ := 32) (z := .agg #[.int .i64 0, .int .i64 0, .string ⟨#[]⟩]) (c := stpC (1, 0, yk)) rfl HRO.out _ _ rfl HL.out rfl (by simp [Value.oneCell']) Tryz.underlying45 stp_info rfl (by decide) HLN.out (by decide) ?_; intro v7 w7 hr hg hn; refine hK _ _ ?_; have HRF := Lib.hid hr; have HBF := Lib.hid (HW.out.trans (HRO.out.below' hg (Nat.le_refl _) (by have h1 := HBS.out; have h2 := HW.out.size; omega))); clear hr hg hn hK))
    go_roundw
    case rel => exact ⟨j + 1, by omega, by go_num, by show RowsW _ _ _ _ _ _; rw [HNX.out]; exact HRF.out, ⟨_, rfl⟩, ⟨_, rfl⟩, HBF.out⟩
    case measure => simp [intOf]; omega
   ·subst hk
    have cx0 : w3.cell? ⟨w.heap.size, 0, none⟩ = some (.int .i64 6) := HXC.out w3 HW.out 0 _ rfl
    have HNX0 := stp6 (n := n) (t := t) (ks := ks) hlx
    rw [← HYE.out] at HNX0
    have HNX := Lib.hid HNX0
    clear HYE hlx HNX0
    go_wp2_with (first
     | (refine ld_if rfl 28 _ rfl X rfl 28 _ _ _ HX3.out Tryz.underlying28 rfl tr_size ?_)
     | (go_at_call 45; (with_reducible refine (HCL.out _ HW.out).mono ?_); rintro r w4 ⟨rfl, hb⟩; replace HRO := Lib.hid (HRO.out.later hb); replace HW := Lib.hid (HW.out.trans (hb.mono (by have h1 := HBS.out; have h2 := HW.out.size; omega))); clear hb)
     | (refine bs_list rfl 45 44 _ rfl (stpC (2, 0, kB y)) 3 (.agg #[.int .i64 0, .int .i64 0, .string ⟨#[]⟩]) rfl rfl (by decide) (by decide) Tryz.underlying45 stp_info2 ?_; intro wl hl hbl hzl; have HL := Lib.hid hl; replace HRO := Lib.hid (HRO.out.later hbl); replace HW := Lib.hid (HW.out.trans (hbl.mono (by have h1 := HBS.out; have h2 := HW.out.size; omega))); clear hl hbl hzl)
     | (refine wpList_plain rfl fun _ hK => rowsW_wp 45 44 _ _ rfl (by_ := 32) (z := .agg #[.int .i64 0, .int .i64 0, .string ⟨#[]⟩]) (c := stpC (2, 0, kB y)) rfl HRO.out _ _ rfl HL.out rfl (by simp [Value.oneCell']) Tryz.underlying45 stp_info rfl (by decide) HLN.out (by decide) ?_; intro v7 w7 hr hg hn; refine hK _ _ ?_; have HRF := Lib.hid hr; have HBF := Lib.hid (HW.out.trans (HRO.out.below' hg (Nat.le_refl _) (by have h1 := HBS.out; have h2 := HW.out.size; omega))); clear hr hg hn hK))
    go_roundw
    case rel => exact ⟨j + 1, by omega, by go_num, by show RowsW _ _ _ _ _ _; rw [HNX.out]; exact HRF.out, ⟨_, rfl⟩, ⟨_, rfl⟩, HBF.out⟩
    case measure => simp [intOf]; omega
  ·obtain rfl : N = j := by omega
   have hlt' : ¬ (N : Int) < (N : Int) := by omega
   have hro := HRO.out
   rw [List.take_of_length_le (by rw [HSL.out]; exact Nat.le_refl _)] at hro
   have HRF := Lib.hid hro
   clear hro HRO
   go_wp2_with fail
   have hb := HB1.out.trans (HW.out.mono (by have := HBS.out; omega))
   go_ret
   exact ⟨_, rfl, HRF.out, hb⟩
theorem stp_at {S : Nat → Prop} {w : World} {v : Value} {l : List Stp} (h : CutAt S w 3 v ((l.map stpC).flatMap Array.toList) l.length) : ∃ a c b o, v = .slice a l.length c ∧ (0 < l.length → a = some ⟨b, o, none⟩) ∧ ∀ j (hj : j < l.length), w.rangeAt b (o + j * 3) (stpC l[j]).toList := by
 obtain ⟨a, c, rfl, h1, h2, h3⟩ := h
 rcases h3 with h3 | ⟨b, o, rfl, hS, hb, h3⟩
 ·have : l.length = 0 := by omega
  exact ⟨a, c, 0, 0, rfl, fun h => absurd h (by omega), fun j hj => absurd hj (by omega)⟩
 ·refine ⟨_, c, b, o, rfl, fun _ => rfl, fun j hj i u hu => ?_⟩
  have hi : i < 3 := by
   rcases Nat.lt_or_ge i 3 with h | h
   ·exact h
   ·rw [List.getElem?_eq_none (by simpa using h)] at hu; cases hu
  have := h3 (j * 3 + i) u (by
   rw [flat_get 3 (l.map stpC) j i (stpC l[j]) (fun c hc => by obtain ⟨e, _, rfl⟩ := List.mem_map.1 hc; rfl) (by simp [hj]) hi]
   simpa using hu)
  rw [Nat.add_assoc]
  exact this
set_option maxHeartbeats 8000000 in
theorem rf_SameSteps {S S' : Nat → Prop} (w : World) (l : List Stp) (u v : Value) (hl : l.length ≤ 100000) (hu : CutAt S w 3 u ((l.map stpC).flatMap Array.toList) l.length) (hv : CutAt S' w 3 v ((l.map stpC).flatMap Array.toList) l.length) : Calls Tryz.prog 47 #[u, v] w fun e w' => e = .returned (.bool true) ∧ Below w.heap.size w w' := by
 obtain ⟨a, c, b1, o1, rfl, ha, hr⟩ := stp_at hu
 obtain ⟨a', c', b2, o2, rfl, ha', hr'⟩ := stp_at hv
 clear hu hv
 have HA := Lib.hid ha
 have HA' := Lib.hid ha'
 have HR := Lib.hid hr
 have HR' := Lib.hid hr'
 obtain ⟨N, hN⟩ : ∃ N, N = l.length := ⟨_, rfl⟩
 have HN := Lib.hid hN
 rw [← hN] at hl ⊢
 have hN63 : (N : Int) ≤ 9223372036854775807 := by omega
 clear ha ha' hr hr' hN
 go_enter Tryz.func47, Tryz.ntmps47
 go_wp2_with fail
 go_loopw [5, 13] (fun c i wl => ∃ j : Nat, j ≤ N ∧ i = .int .i64 (j : Int) ∧ (∃ c' : Value, c' = c) ∧ Hid (Below w.heap.size w wl)) (fun _ i _ => N - (intOf i).toNat)
 case atStart => exact ⟨0, Nat.zero_le _, rfl, ⟨_, rfl⟩, Below.refl _ _⟩
 case round =>
  obtain ⟨j, hj, rfl, _, HB⟩ := hrel
  by_cases hlt : j < N
  ·have hlt' : (j : Int) < (N : Int) := by omega
   have i0 : (0 : Int) ≤ (j : Int) := by omega
   have hlx : j < l.length := by rw [← HN.out]; exact hlt
   have had : a = some ⟨b1, o1, none⟩ := HA.out (by omega)
   have had' : a' = some ⟨b2, o2, none⟩ := HA'.out (by omega)
   subst had had'
   have q1 := HR.out j hlx
   have q2 := HR'.out j hlx
   obtain ⟨y, hy⟩ : ∃ y, y = l[j] := ⟨_, rfl⟩
   rw [← hy] at q1 q2
   obtain ⟨s1, s2, s3⟩ := y
   have HKS : Hid (∀ V, Below wr.heap.size wr V → (V.rangeAt b1 (o1 + j * 3) (stpC (s1, s2, s3)).toList ∧ V.rangeAt b2 (o2 + j * 3) (stpC (s1, s2, s3)).toList)) := fun V hV => ⟨fun i u hu => ((tW HB.out hV).cell (World.block_lt_of_cell? w _ (q1 i u hu))).trans (q1 i u hu), fun i u hu => ((tW HB.out hV).cell (World.block_lt_of_cell? w _ (q2 i u hu))).trans (q2 i u hu)⟩
   have HW : Hid (Below wr.heap.size wr wr.drew) := drawn_below wr
   clear q1 q2 hy hlx
   go_wp2_with fail
   refine wp_region_T (S := (fun V => V.rangeAt b1 (o1 + j * 3) (stpC (s1, s2, s3)).toList ∧ V.rangeAt b2 (o2 + j * 3) (stpC (s1, s2, s3)).toList)) [] (by kernel_rfl) (by exact HKS.out _ HW.out) (fun hHeld => ?_)
   refine tkL 0 16 (h := ?_)
   refine tkL 1 17 (h := ?_)
   (try simp only [pq])
   refine tkL 2 18 (h := ?_)
   refine tyL 3 19 (hy := yieldsIf_arr (by rfl) 44 _ rfl b1 (o1 + j * 3) rfl (stpC (s1, s2, s3)) _ (fun w hw => hw.1) Tryz.underlying44 rfl (by exact step_size)) (h := ?_)
   (try simp only [pq])
   refine tkL 4 20 (h := ?_)
   refine tkL 5 21 (h := ?_)
   (try simp only [pq])
   refine tkL 6 22 (h := ?_)
   refine tyL 7 23 (hy := yieldsIf_arr (by rfl) 44 _ rfl b2 (o2 + j * 3) rfl (stpC (s1, s2, s3)) _ (fun w hw => hw.2) Tryz.underlying44 rfl (by exact step_size)) (h := ?_)
   (try simp only [pq])
   refine wpAnyT_takeL (i := 8) (oi := ⟨some 24, _, _, _, _, _⟩) (v := (.bool false)) rfl (by kernel_rfl) (by kernel_rfl) (by kernel_rfl) (by kernel_rfl) (fun _ _ _ h => h) (Or.inl ⟨by rfl, ?hg1_8⟩) (by assumption) ?rg1_8
   case hg1_8 => (intro w hSw; (try dsimp only at hSw); go_simp)
   (try simp only [pq])
   refine wpAnyT_done (by kernel_rfl) ?_ _
   clear hHeld
   go_wp2_with fail
   go_roundw
   case rel => exact ⟨j + 1, by omega, by go_num, ⟨_, rfl⟩, tW HB.out HW.out⟩
   case measure => simp [intOf]; omega
  ·obtain rfl : j = N := by omega
   have hlt' : ¬ (j : Int) < (j : Int) := by omega
   go_wp2_with fail
   go_ret
   exact ⟨rfl, HB.out⟩
end Go.Proofs.YtpodmgihlomglaaGreatDoor
