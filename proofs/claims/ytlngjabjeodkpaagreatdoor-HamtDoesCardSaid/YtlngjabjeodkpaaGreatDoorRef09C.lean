/- Layer 9: the document's own sums, what a key has, and the shape. (written by tools/gen09/ref09c.py) -/
import Derived.Test.YtlngjabjeodkpaaGreatDoorRef09B
import Derived.Test.YtlngjabjeodkpaaGreatDoorPkJ
import Derived.Test.YtlngjabjeodkpaaGreatDoorPkE
namespace Go.Proofs.YtlngjabjeodkpaaGreatDoor
open Go.RowKit
set_option maxRecDepth 1000000
set_option linter.unusedSimpArgs false

theorem kch_take (hs : ByteArray → Nat) (lv i : Nat) (ks : List ByteArray) {j : Nat} (hj : j < ks.length) : kch hs lv i (ks.take (j + 1)) = kch hs lv i (ks.take j) ++ (if chunkN (hs ks[j]) lv = i then [ks[j]] else []) := by
  unfold kch
  rw [List.take_succ_eq_append_getElem hj, List.filter_append]
  congr 1
  by_cases h : chunkN (hs ks[j]) lv = i
  · simp [h]
  · simp [h]
theorem kch_le (hs : ByteArray → Nat) (lv i : Nat) (ks : List ByteArray) : (kch hs lv i ks).length ≤ ks.length := List.length_filter_le _ _
/-- The shape up to a place. -/
def partF (hs : ByteArray → Nat) (f : Nat) (ks : List ByteArray) (i : Nat) : List UInt8 := 40 :: (List.range i).flatMap fun i => pieceF hs f i (kch hs (12 - f) i ks)
theorem part_succ (hs : ByteArray → Nat) (f : Nat) (ks : List ByteArray) (i : Nat) : partF hs f ks (i + 1) = partF hs f ks i ++ pieceF hs f i (kch hs (12 - f) i ks) := by
  unfold partF
  rw [List.range_succ, List.flatMap_append]
  simp
theorem part_last (hs : ByteArray → Nat) (f : Nat) (ks : List ByteArray) : shapeF hs (f + 1) ks = partF hs f ks 32 ++ [41] := by
  rw [shape_succ]
  rfl
theorem part_mono (hs : ByteArray → Nat) (f : Nat) (ks : List ByteArray) {i j : Nat} (h : i ≤ j) : (partF hs f ks i).length ≤ (partF hs f ks j).length := by
  induction h with
  | refl => exact Nat.le_refl _
  | step h ih => rw [part_succ, List.length_append]; omega
theorem part_len (hs : ByteArray → Nat) (f : Nat) (hf : f ≤ 13) (ks : List ByteArray) (hk : ks.length ≤ 50000) {i : Nat} (hi : i ≤ 32) : (partF hs f ks i).length ≤ 100000000 := by
  have h1 := part_mono hs f ks hi
  have h2 := shape_len hs (f + 1) ks (by omega)
  rw [part_last, List.length_append] at h2
  have h3 : (50 * (f + 1) + 1) * ks.length ≤ 701 * 50000 := Nat.mul_le_mul (by omega) hk
  omega
theorem shape_short (hs : ByteArray → Nat) (f : Nat) (hf : f ≤ 13) (ks : List ByteArray) (hk : ks.length ≤ 50000) : (shapeF hs f ks).length ≤ 100000000 := by
  have h2 := shape_len hs f ks (by omega)
  have h3 : (50 * f + 1) * ks.length ≤ 701 * 50000 := Nat.mul_le_mul (by omega) hk
  omega
theorem piece_one (hs : ByteArray → Nat) (f i : Nat) (k : ByteArray) : pieceF hs f i [k] = Lib.itoa (i : Int) ++ [46] := by
  unfold pieceF
  rw [if_neg (by simp)]
  rfl
theorem piece_two (hs : ByteArray → Nat) (f i : Nat) (a b : ByteArray) (r : List ByteArray) : pieceF hs f i (a :: b :: r) = Lib.itoa (i : Int) ++ shapeF hs f (a :: b :: r) := by
  unfold pieceF
  rw [if_neg (by simp)]
  rfl
theorem below_now {B : Nat} {w w1 w2 : World} (h : Below B w w1) (hB : B ≤ w.heap.size) (h2 : Below w1.heap.size w1 w2) : Below B w w2 := h.trans (h2.mono (Nat.le_trans hB h.size))
set_option maxHeartbeats 2000000 in
theorem ref_Sum9 (w : World) (s : Nat) (hss : s < 18446744073709551616) (n : Int) (k : ByteArray) (hk : k.size ≤ 9223372036854775800) :
    Calls Tryz.prog 17 #[.agg #[.int .u64 (s : Int), .int .i64 n], .string k] w fun r w' => r = .returned (.int .u64 (hsN s n k : Nat)) ∧ Below w.heap.size w w' := by
  obtain ⟨w1, hw1⟩ : ∃ w1, w.alloc (.cells #[.int .u64 (s : Int), .int .i64 n] 24) = w1 := ⟨_, rfl⟩
  obtain ⟨hb1, hx1, hs1⟩ := new_below hw1
  have HX1 := Lib.hid hx1
  have HB1 := Lib.hid hb1
  have HS1 := Lib.hid hs1
  have HTX := Lib.hid (fun W => ref_Text s k hss hk W)
  have HNA := Lib.hid (fun W => ref_Narrow (txtN s k.data.toList) n (endN_lt _) W)
  have hh : narrowN (txtN s k.data.toList) n = hsN s n k := rfl
  rw [hh] at HNA
  obtain ⟨sm, hsm⟩ : ∃ sm, sm = hsN s n k := ⟨_, rfl⟩
  rw [← hsm] at HNA ⊢
  obtain ⟨tx, htx⟩ : ∃ tx, tx = txtN s k.data.toList := ⟨_, rfl⟩
  rw [← htx] at HNA HTX
  clear hx1 hs1 hb1 hh hsm htx hss hk
  go_enter Tryz.func17, Tryz.ntmps17
  go_upto_region 1 with fail
  clear hw1
  have HKS : Hid (∀ V, Below w1.heap.size w1 V → (V.cell? ⟨w.heap.size, 0, none⟩ = some (.int .u64 (s : Int)) ∧ V.cell? ⟨w.heap.size, 1, none⟩ = some (.int .i64 n))) := fun V hV =>
    have h := (hV.block _ (by have := HS1.out; omega)).trans HX1.out
    ⟨cell_in h rfl, cell_in h rfl⟩
  have HW : Hid (Below w1.heap.size w1 w1.drew) := drawn_below w1
  refine wp_region_T (S := (fun V => V.cell? ⟨w.heap.size, 0, none⟩ = some (.int .u64 (s : Int)) ∧ V.cell? ⟨w.heap.size, 1, none⟩ = some (.int .i64 n))) [] (by kernel_rfl) (by exact HKS.out _ HW.out) (fun hHeld => ?_)
  refine wpAnyT_take (i := 0) (oi := ⟨some 5, _, _, _, _, _⟩) (v := ?vg1_0) rfl (by kernel_rfl) (by kernel_rfl) (by kernel_rfl) (by kernel_rfl) (fun _ _ _ h => h) (Or.inl ⟨by rfl, ?hg1_0⟩) (by assumption) ?rg1_0
  case hg1_0 => (intro w hSw; (try dsimp only at hSw); first | (go_simp; done) | (go_simp; with_reducible rfl))
  (try simp only [Act.put, List.setIfInBounds_toArray, List.set_cons_zero, List.set_cons_succ])
  refine wpAnyT_take (i := 1) (oi := ⟨some 6, _, _, _, _, _⟩) (v := ?vg1_1) rfl (by kernel_rfl) (by kernel_rfl) (by kernel_rfl) (by kernel_rfl) (fun _ _ _ h => h) (Or.inl ⟨by rfl, ?hg1_1⟩) (by assumption) ?rg1_1
  case hg1_1 => (intro w hSw; (try dsimp only at hSw); first | (go_simp; done) | (go_simp; with_reducible rfl))
  (try simp only [Act.put, List.setIfInBounds_toArray, List.set_cons_zero, List.set_cons_succ])
  refine wpAnyT_take (i := 2) (oi := ⟨some 7, _, _, _, _, _⟩) (v := ?vg1_2) rfl (by kernel_rfl) (by kernel_rfl) (by kernel_rfl) (by kernel_rfl) (fun _ _ _ h => h) (Or.inl ⟨by rfl, ?hg1_2⟩) (by assumption) ?rg1_2
  case hg1_2 => (intro w hSw; (try dsimp only at hSw); first | (go_simp; done) | (go_simp; with_reducible rfl))
  (try simp only [Act.put, List.setIfInBounds_toArray, List.set_cons_zero, List.set_cons_succ])
  refine wpAnyT_takeC (i := 3) (oi := ⟨some 8, _, _, _, _, _⟩) (v := .int .u64 (tx : Int)) rfl (by kernel_rfl) (by kernel_rfl) (by kernel_rfl) (by kernel_rfl) (fun _ _ _ h => h) ⟨by rfl, fun w hSw => ⟨33, #[.int .u64 (s : Int), .string k], ?hg1_3, (HTX.out w).mono fun _ _ h => ⟨h.1, h.2.symm⟩⟩⟩ (by assumption) ?rg1_3
  case hg1_3 => go_simp
  (try simp only [Act.put, List.setIfInBounds_toArray, List.set_cons_zero, List.set_cons_succ])
  refine wpAnyT_take (i := 4) (oi := ⟨some 9, _, _, _, _, _⟩) (v := ?vg1_4) rfl (by kernel_rfl) (by kernel_rfl) (by kernel_rfl) (by kernel_rfl) (fun _ _ _ h => h) (Or.inl ⟨by rfl, ?hg1_4⟩) (by assumption) ?rg1_4
  case hg1_4 => (intro w hSw; (try dsimp only at hSw); first | (go_simp; done) | (go_simp; with_reducible rfl))
  (try simp only [Act.put, List.setIfInBounds_toArray, List.set_cons_zero, List.set_cons_succ])
  refine wpAnyT_take (i := 5) (oi := ⟨some 10, _, _, _, _, _⟩) (v := ?vg1_5) rfl (by kernel_rfl) (by kernel_rfl) (by kernel_rfl) (by kernel_rfl) (fun _ _ _ h => h) (Or.inl ⟨by rfl, ?hg1_5⟩) (by assumption) ?rg1_5
  case hg1_5 => (intro w hSw; (try dsimp only at hSw); first | (go_simp; done) | (go_simp; with_reducible rfl))
  (try simp only [Act.put, List.setIfInBounds_toArray, List.set_cons_zero, List.set_cons_succ])
  refine wpAnyT_takeC (i := 6) (oi := ⟨some 11, _, _, _, _, _⟩) (v := .int .u64 (sm : Int)) rfl (by kernel_rfl) (by kernel_rfl) (by kernel_rfl) (by kernel_rfl) (fun _ _ _ h => h) ⟨by rfl, fun w hSw => ⟨32, #[.int .u64 (tx : Int), .int .i64 n], ?hg1_6, (HNA.out w).mono fun _ _ h => ⟨h.1, h.2.symm⟩⟩⟩ (by assumption) ?rg1_6
  case hg1_6 => go_simp
  (try simp only [Act.put, List.setIfInBounds_toArray, List.set_cons_zero, List.set_cons_succ])
  refine wpAnyT_take (i := 7) (oi := ⟨some 4, _, _, _, _, _⟩) (v := ?vg1_7) rfl (by kernel_rfl) (by kernel_rfl) (by kernel_rfl) (by kernel_rfl) (fun _ _ _ h => h) (Or.inl ⟨by rfl, ?hg1_7⟩) (by assumption) ?rg1_7
  case hg1_7 => (intro w hSw; (try dsimp only at hSw); first | (go_simp; done) | (go_simp; with_reducible rfl))
  (try simp only [Act.put, List.setIfInBounds_toArray, List.set_cons_zero, List.set_cons_succ])
  refine wpAnyT_done (by kernel_rfl) ?_ _
  clear hHeld
  go_wp2_with fail
  go_ret
  exact ⟨rfl, HB1.out.trans (HW.out.mono HB1.out.size)⟩
set_option maxHeartbeats 2000000 in
theorem ref_Get9 (w : World) (c : Array Value) (L : List Ent) (k : ByteArray) (h : RefM w c L) (hL : Rise L) (hS : Short L) (hn : L.length ≤ 100000) :
    Calls Tryz.prog 11 #[.agg c, .string k] w fun e w' => e = .returned (.tuple #[.int .i64 ((getE L k).getD 0), .bool (getE L k).isSome]) ∧ Below w.heap.size w w' := by
  have HAT := Lib.hid (fun W (hW : Below w.heap.size w W) => ref_At9 W c L k (h.later hW) hL hS hn)
  obtain ⟨kv, xv, rfl, hk, hx⟩ := h
  have HX := Lib.hid hx
  obtain ⟨a1, c1, rfl, _⟩ := hk.shape
  obtain ⟨a2, c2, rfl, _⟩ := hx.shape
  rw [keysE_len, valsE_len] at *
  obtain ⟨w1, hw1⟩ : ∃ w1, w.alloc (.cells #[.slice a1 L.length c1, .slice a2 L.length c2] 41) = w1 := ⟨_, rfl⟩
  obtain ⟨hb1, hx1, hs1⟩ := new_below hw1
  have HX1 := Lib.hid hx1
  have HB1 := Lib.hid hb1
  have HAP := Lib.hid (at_place hL k).2
  obtain ⟨M, hM⟩ : ∃ M, M = (belE L k).length := ⟨_, rfl⟩
  rw [← hM] at HAT HAP
  obtain ⟨q, hq⟩ : ∃ q, q = getE L k := ⟨_, rfl⟩
  rw [← hq] at HAT HAP ⊢
  have hn6 : (L.length : Int) ≤ 100000 := by omega
  clear hk hx hL hS hx1 hb1 hs1 hM hq hn
  cases q with
  | none =>
    clear HAP HX hn6
    simp only [Option.isSome_none, Option.getD_none] at HAT ⊢
    go_enter Tryz.func11, Tryz.ntmps11
    go_wp2_with (first
      | (refine ld_if (by rfl) 41 _ rfl w.heap.size rfl 41 _ _ _ HX1.out Tryz.underlying41 rfl refm_size ?_)
      | (go_at_call 26; (with_reducible refine (HAT.out _ HB1.out).mono ?_); rintro e w2 ⟨rfl, hb⟩; have HB2 := Lib.hid (below_now HB1.out (Nat.le_refl _) hb); clear hb))
    go_ret2
    exact ⟨rfl, HB2.out⟩
  | some x =>
    obtain ⟨e, he, _, hex⟩ := HAP.out rfl
    have hMl : M < L.length := (List.getElem?_eq_some_iff.1 he).1
    have hMl' : (M : Int) < (L.length : Int) := by omega
    have M0 : (0 : Int) ≤ (M : Int) := by omega
    have HEL : Hid (∀ V, Below w.heap.size w V → ∃ g2, a2 = some ⟨g2, 0, none⟩ ∧ V.cell? ⟨g2, M, none⟩ = some (.int .i64 x)) := fun V hV => by
      obtain ⟨g', d', e', h'⟩ := (HX.out.later hV).cell (j := M) (by rw [valsE_len]; exact hMl)
      simp only [Value.slice.injEq] at e'
      refine ⟨g', e'.1, ?_⟩
      rw [h']
      have e1 : (valsE L)[M]'(by rw [valsE_len]; exact hMl) = L[M].2 := by unfold valsE; rw [List.getElem_map]
      have e2 : L[M] = e := (List.getElem?_eq_some_iff.1 he).2
      rw [e1, e2, Option.some.inj hex]
    obtain ⟨g2, rfl, _⟩ := HEL.out w (Below.refl _ _)
    clear HAP HX hn6 he hex
    simp only [Option.isSome_some, Option.getD_some] at HAT ⊢
    go_enter Tryz.func11, Tryz.ntmps11
    go_wp2_with (first
      | (refine ld_if (by rfl) 41 _ rfl w.heap.size rfl 41 _ _ _ HX1.out Tryz.underlying41 rfl refm_size ?_)
      | (go_at_call 26; (with_reducible refine (HAT.out _ HB1.out).mono ?_); rintro e w2 ⟨rfl, hb⟩; have HB2 := Lib.hid (below_now HB1.out (Nat.le_refl _) hb); have cx1 : w2.cell? ⟨w.heap.size, 1, none⟩ = some (.slice (some ⟨g2, 0, none⟩) L.length c2) := (cell_in ((hb.block _ (Array.getElem?_eq_some_iff.1 HX1.out).1).trans HX1.out) rfl); obtain ⟨g3, e3, cel⟩ := HEL.out _ HB2.out; simp only [Option.some.injEq, Addr.mk.injEq, and_true] at e3; subst e3; clear hb))
    go_ret2
    exact ⟨rfl, HB2.out⟩
/-- What the document's Shape gives of keys, f levels above the bottom. -/
def RefShapeOk (s : Nat) (n : Int) (f : Nat) : Prop := ∀ (lv : Nat) (w : World) (v : Value) (ks : List ByteArray), lv + f = 13 → LsS w v ks → ks.length ≤ 50000 → (∀ k ∈ ks, k.size ≤ 9223372036854775800) →
    Calls Tryz.prog 15 #[.agg #[.int .u64 (s : Int), .int .i64 n], v, .int .i64 (lv : Int)] w fun r w' => r = .returned (.string ⟨(shapeF (hsN s n) f ks).toArray⟩) ∧ Below w.heap.size w w'
set_option maxHeartbeats 2000000 in
theorem ref_shape_0 (s : Nat) (n : Int) : RefShapeOk s n 0 := by
  intro lv w v ks hlv hl hn hsz
  obtain ⟨a, c, rfl, _⟩ := hl.shape
  obtain rfl : lv = 13 := by omega
  obtain ⟨w1, hw1⟩ : ∃ w1, w.alloc (.cells #[.int .u64 (s : Int), .int .i64 n] 24) = w1 := ⟨_, rfl⟩
  obtain ⟨hb1, hx1, hs1⟩ := new_below hw1
  have HB1 := Lib.hid hb1
  have HDG := Lib.hid (fun W => ref_Digits (ks.length : Int) ⟨by omega, by omega⟩ W)
  have hdl := itS_len (n := ks.length) (by omega)
  unfold itS at hdl
  obtain ⟨dg, hdg⟩ : ∃ dg, dg = Lib.itoa (ks.length : Int) := ⟨_, rfl⟩
  have HDD := Lib.hid hdg
  rw [← hdg] at HDG hdl
  have hc13 : ((13 : Nat) : Int) = 13 := rfl
  rw [hc13]
  clear hx1 hb1 hs1 hdg hlv hl hn hsz hc13
  go_enter Tryz.func15, Tryz.ntmps15
  go_wp2_with (go_at_call 28; (with_reducible refine (HDG.out _).mono ?_); rintro e w2 ⟨rfl, hb⟩; have HB2 := Lib.hid (below_now HB1.out (Nat.le_refl _) hb); clear hb)
  go_ret
  exact ⟨by rw [shapeF, show itS ks.length = dg from HDD.out.symm, show 91 :: dg ++ [93] = [91] ++ dg ++ [93] from rfl, ← cat_mk, ← cat_mk]; rfl, HB2.out⟩
set_option maxHeartbeats 8000000 in
theorem ref_shape_succ (s : Nat) (hss : s < 18446744073709551616) (n : Int) (f : Nat) (ih : RefShapeOk s n f) : RefShapeOk s n (f + 1) := by
  intro lv w v ks hlv hl hn hsz
  obtain ⟨a, c, rfl, _⟩ := hl.shape
  obtain ⟨N, hN⟩ : ∃ N, N = ks.length := ⟨_, rfl⟩
  rw [← hN]
  obtain ⟨w1, hw1⟩ : ∃ w1, w.alloc (.cells #[.int .u64 (s : Int), .int .i64 n] 24) = w1 := ⟨_, rfl⟩
  obtain ⟨hb1, hx1, hs1⟩ := new_below hw1
  have HB1 := Lib.hid hb1
  have HC := Lib.hid hx1
  have HLS := Lib.hid (hl.later hb1)
  have HN := Lib.hid hN
  have HN5 := Lib.hid hn
  have HSZ := Lib.hid hsz
  have HSS := Lib.hid hss
  have HIH := Lib.hid ih
  have HLV : Hid (lv + f = 12) := by show _ = _; omega
  have HS1 := Lib.hid hs1
  obtain ⟨lv1, hl1⟩ : ∃ lv1, lv1 = lv + 1 := ⟨_, rfl⟩
  have HL1 : Hid (lv1 + f = 13) := by show _ = _; omega
  have hwr : IntKind.i64.wrap ((lv : Int) + 1) = (lv1 : Int) := by rw [IntKind.wrap_i64]; omega
  have h13 : ((lv : Int) == 13) = false := by rw [beq_eq_false_iff_ne]; omega
  have hn6 : (N : Int) ≤ 50000 := by omega
  clear hx1 hb1 hs1 hlv hl hsz hss ih hN hn hl1
  rw [← HN.out] at HLS
  go_enter Tryz.func15, Tryz.ntmps15
  go_wp2_with fail
  clear hw1
  go_loopw [7, 19] (fun sv iv wl => ∃ (i : Nat) (txt : List UInt8), i ≤ 32 ∧ iv = .int .i64 (i : Int) ∧ sv = .string ⟨txt.toArray⟩ ∧ txt = partF (hsN s n) f ks i ∧ Below w1.heap.size w1 wl) (fun _ iv _ => 32 - (intOf iv).toNat)
  case atStart => exact ⟨0, [40], by omega, rfl, rfl, rfl, Below.refl _ _⟩
  case round =>
    obtain ⟨i, txt, hi, rfl, rfl, ht, hb⟩ := hrel
    have htl := part_len (hsN s n) f (by have := HLV.out; omega) ks HN5.out hi
    rw [← ht] at htl
    have HT := Lib.hid ht.symm
    have HB := Lib.hid hb
    clear ht hb
    by_cases hi32 : i < 32
    · as_aux_lemma =>
      have hi32' : (i : Int) < 32 := by omega
      have HLI := Lib.hid hi32
      have HDG := Lib.hid (fun W => ref_Digits (i : Int) ⟨by omega, by omega⟩ W)
      have hdl := itS_len (n := i) (by omega)
      unfold itS at hdl
      obtain ⟨dg, hdg⟩ : ∃ dg, dg = Lib.itoa (i : Int) := ⟨_, rfl⟩
      have HDD := Lib.hid hdg.symm
      rw [← hdg] at HDG hdl
      clear hdg
      go_wp2_with fail
      obtain ⟨wo, hwo⟩ : ∃ wo, wo = wr := ⟨_, rfl⟩
      rw [← hwo] at HB ⊢
      clear hwo
      go_loopw [9, 24] (fun v jv wl => ∃ j : Nat, jv = .int .i64 (j : Int) ∧ j ≤ N ∧ Hid (Strs wo.heap.size v (kch (hsN s n) lv i (ks.take j)) wl) ∧ Hid (Below wo.heap.size wo wl)) (fun _ jv _ => N - (intOf jv).toNat)
      case atStart => exact ⟨0, rfl, Nat.zero_le _, Strs.nil (Nat.le_refl _), Below.refl _ _⟩
      case round =>
        obtain ⟨j, rfl, hj, HSV, HBJ⟩ := hrel
        by_cases hlt : j < N
        · as_aux_lemma =>
          have hlt' : (j : Int) < (N : Int) := by omega
          have hjL : j < ks.length := by rw [← HN.out]; exact hlt
          have HBW := Lib.hid (below_now HB.out (Nat.le_refl _) HBJ.out)
          obtain ⟨g1, d1, e1, hc1⟩ := (HLS.out.later HBW.out).cell hjL
          simp only [Value.slice.injEq] at e1
          obtain ⟨rfl, hdr, rfl⟩ := e1
          have hkt := kch_take (hsN s n) lv i ks hjL
          have hsz := HSZ.out _ (List.getElem_mem hjL)
          have hkl : (kch (hsN s n) lv i (ks.take j)).length ≤ 50000 := by
            have h1 := kch_le (hsN s n) lv i (ks.take j)
            rw [List.length_take] at h1
            have := HN5.out
            omega
          obtain ⟨D, hD⟩ : ∃ D, D = kch (hsN s n) lv i (ks.take j) := ⟨_, rfl⟩
          rw [← hD] at HSV hkt hkl
          obtain ⟨ky, hky⟩ : ∃ ky, ky = ks[j] := ⟨_, rfl⟩
          rw [← hky] at hc1 hkt hsz
          have HSUM := Lib.hid (fun W => ref_Sum9 W s HSS.out n ky hsz)
          have HCHK := Lib.hid (fun (h : Nat) (W : World) => ref_Chunk h (lv : Int) W)
          obtain ⟨sm, hsm⟩ : ∃ sm, sm = hsN s n ky := ⟨_, rfl⟩
          rw [← hsm] at HSUM hkt
          replace HCHK := Lib.hid (HCHK.out sm)
          obtain ⟨q, hq⟩ : ∃ q, q = chunkN sm (lv : Int) := ⟨_, rfl⟩
          rw [← hq] at HCHK hkt
          have HC3 := Lib.hid ((HBW.out.block _ (Array.getElem?_eq_some_iff.1 HC.out).1).trans HC.out)
          have HLT := Lib.hid hlt
          have HKL := Lib.hid hkl
          have HKT := Lib.hid hkt
          clear hdr hD hky hsm hq hjL hkl hkt hsz hlt
          by_cases hqi : q = i
          · have HKT2 : Hid (kch (hsN s n) lv i (ks.take (j + 1)) = D ++ [ky]) := by show _ = _; rw [HKT.out, if_pos hqi]
            subst hqi
            go_wp2_with (first
              | (refine ld_if (by rfl) 24 _ rfl w.heap.size rfl 24 _ _ _ HC3.out Tryz.underlying24 rfl api_size ?_)
              | (go_at_call 17; (with_reducible refine (HSUM.out _).mono ?_); rintro e w4 ⟨rfl, hb⟩; have HSV4 := Lib.hid (HSV.out.later hb); have HBJ4 := Lib.hid (below_now HBJ.out (Nat.le_refl _) hb); clear hb)
              | (go_at_call 29; (with_reducible refine (HCHK.out _).mono ?_); rintro e w5 ⟨rfl, hw5⟩; obtain rfl := hw5)
              | (refine strs_list rfl _ _ rfl rfl (HSV4.out.later (Below.newly' _ _)) rfl (cutS_lit (heap_alloc_last _ _)) (by have := HKL.out; simp; omega) ?_; intro v6 w6 hs6 hg6; have HS6 := Lib.hid hs6; have HB6 := Lib.hid (HBJ4.out.trans (((Below.newly' w4 _).mono HBJ4.out.size).trans (strs_belowB (HSV4.out.later (Below.newly' _ _)) hg6 (Nat.le_refl _)))); clear hs6 hg6))
            go_roundw
            case rel => exact ⟨j + 1, by simp, by have := HLT.out; omega, by rw [HKT2.out]; exact HS6, HB6⟩
            case measure => have := HLT.out; simp [intOf]; omega
          · have HKT2 : Hid (kch (hsN s n) lv i (ks.take (j + 1)) = D) := by show _ = _; rw [HKT.out, if_neg hqi, List.append_nil]
            have hqf : ((q : Int) == (i : Int)) = false := beq_eq_false_iff_ne.2 (by omega)
            clear hqi
            go_wp2_with (first
              | (refine ld_if (by rfl) 24 _ rfl w.heap.size rfl 24 _ _ _ HC3.out Tryz.underlying24 rfl api_size ?_)
              | (go_at_call 17; (with_reducible refine (HSUM.out _).mono ?_); rintro e w4 ⟨rfl, hb⟩; have HSV4 := Lib.hid (HSV.out.later hb); have HBJ4 := Lib.hid (below_now HBJ.out (Nat.le_refl _) hb); clear hb)
              | (go_at_call 29; (with_reducible refine (HCHK.out _).mono ?_); rintro e w5 ⟨rfl, hw5⟩; obtain rfl := hw5))
            go_roundw
            case rel => exact ⟨j + 1, by simp, by have := HLT.out; omega, by rw [HKT2.out]; exact HSV4, HBJ4⟩
            case measure => have := HLT.out; simp [intOf]; omega
        · obtain rfl : j = N := by omega
          have HBW := Lib.hid (below_now HB.out (Nat.le_refl _) HBJ.out)
          rw [List.take_of_length_le (by have := HN.out; omega)] at HSV
          have HPS := Lib.hid (part_succ (hsN s n) f ks i)
          rw [show 12 - f = lv by have := HLV.out; omega] at HPS
          have HKI := Lib.hid (kch_le (hsN s n) lv i ks)
          have HKM : Hid (∀ k ∈ kch (hsN s n) lv i ks, k.size ≤ 9223372036854775800) := fun k hk => HSZ.out k (List.mem_filter.1 hk).1
          obtain ⟨C, hC⟩ : ∃ C, C = kch (hsN s n) lv i ks := ⟨_, rfl⟩
          rw [← hC] at HSV HPS HKI HKM
          clear hC hlt
          have HC3 := Lib.hid ((HBW.out.block _ (Array.getElem?_eq_some_iff.1 HC.out).1).trans HC.out)
          obtain ⟨a9, c9, rfl⟩ := HSV.out.len
          have HLS3 := Lib.hid HSV.out.lsS
          match C, HSV, HPS, HKI, HKM, HLS3 with
          | [], HSV, HPS, HKI, HKM, HLS3 =>
            as_aux_lemma =>
            have HT2 : Hid (partF (hsN s n) f ks (i + 1) = txt) := by show _ = _; rw [HPS.out, HT.out]; simp [pieceF]
            go_wp2_with fail
            go_roundw
            case rel => exact ⟨i + 1, txt, by have := HLI.out; omega, by simp, rfl, HT2.out.symm, HBW.out⟩
            case measure => have := HLI.out; simp [intOf]; omega
          | [k1], HSV, HPS, HKI, HKM, HLS3 =>
            as_aux_lemma =>
            have HT2 : Hid (partF (hsN s n) f ks (i + 1) = txt ++ (dg ++ [46])) := by show _ = _; rw [HPS.out, HT.out, piece_one, HDD.out]
            go_wp2_with (go_at_call 28; (with_reducible refine (HDG.out _).mono ?_); rintro e w5 ⟨rfl, hb⟩; have HB5 := Lib.hid (below_now HBW.out (Nat.le_refl _) hb); clear hb)
            go_roundw
            case rel => exact ⟨i + 1, txt ++ (dg ++ [46]), by have := HLI.out; omega, by simp, by rw [← cat_mk, ← cat_mk], HT2.out.symm, HB5.out⟩
            case measure => have := HLI.out; simp [intOf]; omega
          | k1 :: k2 :: r, HSV, HPS, HKI, HKM, HLS3 =>
            as_aux_lemma =>
            have HSUB := Lib.hid (fun W (hW : Below wr.heap.size wr W) => HIH.out lv1 W _ (k1 :: k2 :: r) HL1.out (HLS3.out.later hW) (by have h1 := HKI.out; have h2 := HN5.out; have h3 := HN.out; omega) HKM.out)
            have hshl := shape_short (hsN s n) f (by have := HLV.out; omega) (k1 :: k2 :: r) (by have h1 := HKI.out; have h2 := HN5.out; have h3 := HN.out; omega)
            obtain ⟨sh, hsh⟩ : ∃ sh, sh = shapeF (hsN s n) f (k1 :: k2 :: r) := ⟨_, rfl⟩
            have HT2 : Hid (partF (hsN s n) f ks (i + 1) = txt ++ (dg ++ sh)) := by show _ = _; rw [HPS.out, HT.out, piece_two, HDD.out, hsh]
            rw [← hsh] at HSUB hshl
            have hcA : ¬ 9223372036854775807 < dg.length + sh.length := by omega
            have hcB : ¬ 9223372036854775807 < txt.length + (dg.length + sh.length) := by omega
            clear hsh
            go_upto_region 15 with fail
            have HKS : Hid (∀ V, Below wr.heap.size wr V → V.heap[w.heap.size]? = some (.cells #[.int .u64 (s : Int), .int .i64 n] 24 (0, 0))) := fun V hV => (hV.block _ (Array.getElem?_eq_some_iff.1 HC3.out).1).trans HC3.out
            have HW : Hid (Below wr.heap.size wr wr.drew) := drawn_below wr
            refine wp_region_T (S := (fun V => V.heap[w.heap.size]? = some (.cells #[.int .u64 (s : Int), .int .i64 n] 24 (0, 0)))) [] (by kernel_rfl) (by exact HKS.out _ HW.out) (fun hHeld => ?_)
            refine wpAnyT_take (i := 0) (oi := ⟨some 42, _, _, _, _, _⟩) (v := ?vg2_0) rfl (by kernel_rfl) (by kernel_rfl) (by kernel_rfl) (by kernel_rfl) (fun _ _ _ h => h) (Or.inl ⟨by rfl, ?hg2_0⟩) (by assumption) ?rg2_0
            case hg2_0 => (intro w hSw; (try dsimp only at hSw); first | (go_simp; done) | (go_simp; with_reducible rfl))
            (try simp only [Act.put, List.setIfInBounds_toArray, List.set_cons_zero, List.set_cons_succ])
            refine wpAnyT_take (i := 1) (oi := ⟨some 43, _, _, _, _, _⟩) (v := ?vg2_1) rfl (by kernel_rfl) (by kernel_rfl) (by kernel_rfl) (by kernel_rfl) (fun _ _ _ h => h) (Or.inl ⟨by rfl, ?hg2_1⟩) (by assumption) ?rg2_1
            case hg2_1 => (intro w hSw; (try dsimp only at hSw); first | (go_simp; done) | (go_simp; with_reducible rfl))
            (try simp only [Act.put, List.setIfInBounds_toArray, List.set_cons_zero, List.set_cons_succ])
            refine wpAnyT_take (i := 3) (oi := ⟨some 45, _, _, _, _, _⟩) (v := _) rfl (by kernel_rfl) (by kernel_rfl) (by kernel_rfl) (by kernel_rfl) (fun _ _ _ h => h) (yieldsIf_load_row (by rfl) 24 _ rfl w.heap.size rfl #[.int .u64 (s : Int), .int .i64 n] 24 (0, 0) _ (fun w hw => hw) Tryz.underlying24 rfl (by exact api_size)) (by assumption) ?_
            (try simp only [Act.put, List.setIfInBounds_toArray, List.set_cons_zero, List.set_cons_succ])
            refine wpAnyT_take (i := 4) (oi := ⟨some 46, _, _, _, _, _⟩) (v := ?vg2_4) rfl (by kernel_rfl) (by kernel_rfl) (by kernel_rfl) (by kernel_rfl) (fun _ _ _ h => h) (Or.inl ⟨by rfl, ?hg2_4⟩) (by assumption) ?rg2_4
            case hg2_4 => (intro w hSw; (try dsimp only at hSw); first | (go_simp; done) | (go_simp; with_reducible rfl))
            (try simp only [Act.put, List.setIfInBounds_toArray, List.set_cons_zero, List.set_cons_succ])
            refine wpAnyT_take (i := 5) (oi := ⟨some 47, _, _, _, _, _⟩) (v := ?vg2_5) rfl (by kernel_rfl) (by kernel_rfl) (by kernel_rfl) (by kernel_rfl) (fun _ _ _ h => h) (Or.inl ⟨by rfl, ?hg2_5⟩) (by assumption) ?rg2_5
            case hg2_5 => (intro w hSw; (try dsimp only at hSw); first | (go_simp; done) | (go_simp; with_reducible rfl))
            (try simp only [Act.put, List.setIfInBounds_toArray, List.set_cons_zero, List.set_cons_succ])
            refine wpAnyT_take (i := 6) (oi := ⟨some 48, _, _, _, _, _⟩) (v := ?vg2_6) rfl (by kernel_rfl) (by kernel_rfl) (by kernel_rfl) (by kernel_rfl) (fun _ _ _ h => h) (Or.inl ⟨by rfl, ?hg2_6⟩) (by assumption) ?rg2_6
            case hg2_6 => (intro w hSw; (try dsimp only at hSw); first | (go_simp; done) | (go_simp; with_reducible rfl))
            (try simp only [Act.put, List.setIfInBounds_toArray, List.set_cons_zero, List.set_cons_succ])
            refine wpAnyT_one (i := 2) (o := ⟨some 44, _, _, _, _, _⟩) (by kernel_rfl) rfl (fun K hK => ?_)
            go_simp
            go_at_call 28
            (with_reducible refine (HDG.out _).mono ?_)
            rintro e w5 ⟨rfl, hb⟩
            replace HW := Lib.hid (HW.out.trans (hb.mono HW.out.size))
            clear hb
            dsimp only
            refine hK.out _ _ (by exact HKS.out _ HW.out) (fun hHeld => ?_)
            clear hK K
            (try simp only [Act.put, List.setIfInBounds_toArray, List.set_cons_zero, List.set_cons_succ])
            refine wpAnyT_one (i := 7) (o := ⟨some 49, _, _, _, _, _⟩) (by kernel_rfl) rfl (fun K hK => ?_)
            go_simp
            go_at_call 15
            refine (HSUB.out _ HW.out).mono ?_
            rintro e w6 ⟨rfl, hb⟩
            replace HW := Lib.hid (HW.out.trans (hb.mono HW.out.size))
            clear hb
            dsimp only
            refine hK.out _ _ (by exact HKS.out _ HW.out) (fun hHeld => ?_)
            clear hK K
            (try simp only [Act.put, List.setIfInBounds_toArray, List.set_cons_zero, List.set_cons_succ])
            refine wpAnyT_take (i := 8) (oi := ⟨some 50, _, _, _, _, _⟩) (v := ?vg2_8) rfl (by kernel_rfl) (by kernel_rfl) (by kernel_rfl) (by kernel_rfl) (fun _ _ _ h => h) (Or.inl ⟨by rfl, ?hg2_8⟩) (by assumption) ?rg2_8
            case hg2_8 => (intro w hSw; (try dsimp only at hSw); first | (go_simp; done) | (go_simp; with_reducible rfl))
            (try simp only [Act.put, List.setIfInBounds_toArray, List.set_cons_zero, List.set_cons_succ])
            refine wpAnyT_take (i := 9) (oi := ⟨some 51, _, _, _, _, _⟩) (v := ?vg2_9) rfl (by kernel_rfl) (by kernel_rfl) (by kernel_rfl) (by kernel_rfl) (fun _ _ _ h => h) (Or.inl ⟨by rfl, ?hg2_9⟩) (by assumption) ?rg2_9
            case hg2_9 => (intro w hSw; (try dsimp only at hSw); first | (go_simp; done) | (go_simp; with_reducible rfl))
            (try simp only [Act.put, List.setIfInBounds_toArray, List.set_cons_zero, List.set_cons_succ])
            refine wpAnyT_take (i := 10) (oi := ⟨some 7, _, _, _, _, _⟩) (v := ?vg2_10) rfl (by kernel_rfl) (by kernel_rfl) (by kernel_rfl) (by kernel_rfl) (fun _ _ _ h => h) (Or.inl ⟨by rfl, ?hg2_10⟩) (by assumption) ?rg2_10
            case hg2_10 => (intro w hSw; (try dsimp only at hSw); first | (go_simp; done) | (go_simp; with_reducible rfl))
            (try simp only [Act.put, List.setIfInBounds_toArray, List.set_cons_zero, List.set_cons_succ])
            refine wpAnyT_done (by kernel_rfl) ?_ _
            clear hHeld
            go_wp2_with fail
            go_roundw
            case rel => exact ⟨i + 1, txt ++ (dg ++ sh), by have := HLI.out; omega, by simp, by rw [← cat_mk, ← cat_mk], HT2.out.symm, below_now HBW.out (Nat.le_refl _) HW.out⟩
            case measure => have := HLI.out; simp [intOf]; omega
    · obtain rfl : i = 32 := by omega
      go_wp2_with fail
      go_ret
      exact ⟨by rw [part_last, HT.out, ← cat_mk]; rfl, below_now HB1.out (Nat.le_refl _) HB.out⟩
theorem ref_shape_all (s : Nat) (hss : s < 18446744073709551616) (n : Int) : ∀ f, RefShapeOk s n f
  | 0 => ref_shape_0 s n
  | f + 1 => ref_shape_succ s hss n f (ref_shape_all s hss n f)
theorem ref_Shape9 (s : Nat) (hss : s < 18446744073709551616) (n : Int) (w : World) (v : Value) (ks : List ByteArray) (hl : LsS w v ks) (hn : ks.length ≤ 50000) (hz : ∀ k ∈ ks, k.size ≤ 9223372036854775800) :
    Calls Tryz.prog 15 #[.agg #[.int .u64 (s : Int), .int .i64 n], v, .int .i64 0] w fun r w' => r = .returned (.string ⟨(shapeF (hsN s n) 13 ks).toArray⟩) ∧ Below w.heap.size w w' := ref_shape_all s hss n 13 0 w v ks rfl hl hn hz
end Go.Proofs.YtlngjabjeodkpaaGreatDoor
