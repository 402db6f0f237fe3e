import Derived.Test.YtpodmgihlomglaaGreatDoorP20
namespace Go.Proofs.YtpodmgihlomglaaGreatDoor
open Go.RowKit Go.Shelf
set_option maxRecDepth 1000000
set_option linter.unusedSimpArgs false
attribute [local go_sem] Oper.semAt_some
abbrev encM (e : Ent) : Array Value := #[.string e.1, .agg (celC e.2)]
structure MapKeeps (RK IK : Nat → World → World → Prop) (n₀ : Nat) : Prop where
 new : ∀ {Y : Nat} {A B : World}, Below A.heap.size A B → Y ≤ A.heap.size → IK Y A B
 low : ∀ {Y : Nat} {A B : World}, RK Y A B → Below n₀ A B
 lists : ∀ {Y : Nat} {A B : World}, RK Y A B → TK 166 A B
theorem kw_mapKeeps {Ts : TypeId → Prop} (n₀ : Nat) (h1 : ¬ Ts 166) : MapKeeps (fun Y A B => KW Ts n₀ Y A B) (fun Y A B => IKW Ts Y A B) n₀ where
 new := fun h hY => IKW.below h hY
 low := fun h => h.1
 lists := fun h i cs fr e => h.2.2.1 i cs _ fr e h1
set_option maxHeartbeats 1000000 in
theorem hm_All_in (n : Nat) (c : Array Value) (w : World) :
  CallsIn Fence.wide n Tryz.prog 87 #[.agg c] w fun e w' => e = .returned (.func (.func 113) #[] #[.pointer (some ⟨w.heap.size, 0, none⟩)]) ∧ w' = w.alloc (.cells c 121) := by
 refine callsIn_of_wp Tryz.func87 rfl trivial ?_ rfl
 simp only [Tryz.ntmps87, List.size_toArray, List.length_cons, List.length_nil, Nat.reduceAdd, Nat.reduceSub, Array.replicate_succ, Array.replicate_zero, List.push_toArray, List.append_toArray, List.nil_append, List.cons_append]
 gi_wp2
 go_ret
 exact ⟨rfl, rfl⟩
set_option maxHeartbeats 4000000 in
theorem hm_all1 {RK IK : Nat → World → World → Prop} (Bs n₀ : Nat) (hkk : MapKeeps RK IK n₀) (s : Nat) (n : Int) (L : List Ent) (c : Array Value) (w : World) (hn₀ : n₀ ≤ w.heap.size) (hX : w.heap[Bs]? = some (.cells c 121 (0, 0))) (hv : MapAt (fun g => g < n₀) w s n L c) (hL : Rise L) (hN : L.length ≤ 50000) (hT : Tab6 w) :
  IterR Tryz.prog 113 #[.pointer (some ⟨Bs, 0, none⟩)] encM RK IK (fun ys => ys = L) (fun pre => pre <+: L) (fun pre => pre <+: L) w := by
 intro l J Jx W hW hA hY h0 m
 have hBl := (Array.getElem?_eq_some_iff.1 hX).1
 have HX := Lib.hid ((hW.block _ hBl).trans hX)
 have hnW : n₀ ≤ W.heap.size := Nat.le_trans hn₀ hW.size
 have HENT := Lib.hid ((callsIn_wide (n := m - 1)).2 (hm_entries W s n L c (hv.kp (Kp.low (hW.mono hn₀) (fun g h => h))) hL hN (hT.below hW)))
 have HMS := Lib.hid hv.size
 have HJA := Lib.hid hA
 have HY := Lib.hid (hY (m - 1))
 have HNW := Lib.hid hnW
 have HN := Lib.hid hN
 have HKK := Lib.hid hkk
 clear hX hv hN hT hA hY hBl hnW hL hkk
 refine callsIn_of_wp Tryz.func113 rfl trivial ?_ rfl
 simp only [Tryz.ntmps113, List.size_toArray, List.length_cons, List.length_nil, Nat.reduceAdd, Nat.reduceSub, Array.replicate_succ, Array.replicate_zero, List.push_toArray, List.append_toArray, List.nil_append, List.cons_append]
 gi_wp2_with (first
  | (refine ld_wide rfl 121 _ rfl Bs rfl 121 _ _ _ HX.out Tryz.underlying121 rfl (by rw [HMS.out]; exact map_size) ?_))
 refine ⟨trivial, fun h => absurd h (by simp [Fence.wide]), ?_⟩
 refine HENT.out.mono ?_
 rintro r w1 ⟨v, qs, rfl, hq, he, hl, hb, hsz⟩
 obtain ⟨a, cp, rfl, hl⟩ := hl
 obtain ⟨N, hNq⟩ : ∃ N, N = qs.length := ⟨_, rfl⟩
 have hNL : N = L.length := by rw [hNq, ← hq, List.length_map]
 rw [← hNq]
 have HJ1 := Lib.hid (HJA.out _ _ _ h0 (HKK.out.new hb (Nat.le_refl _)))
 have HB1 := Lib.hid hb
 have HSZ := Lib.hid hsz
 have HLL := Lib.hid hl
 have HE := Lib.hid he
 have HQ := Lib.hid (And.intro hq (And.intro hNq hNL))
 have hN5 : (N : Int) ≤ 50000 := by have := HN.out; omega
 have HBN := Lib.hid (hb.mono HNW.out)
 clear h0 hb hsz hl he hq hNq hNL
 gi_wp2
 gi_loopw [8] (fun i wr => ∃ k : Nat, i = .int .i64 (k : Int) ∧ k ≤ N ∧ Hid (J (L.take k) wr) ∧ Hid (Below n₀ W wr) ∧ Hid (TK 166 w1 wr) ∧ Hid (W.heap.size + 2 ≤ wr.heap.size)) (fun i _ => N - (intOf i).toNat)
 case atStart => exact ⟨0, rfl, Nat.zero_le _, (by simpa using HJ1), HBN, TK.refl _ _, HSZ⟩
 case round =>
  obtain ⟨k, rfl, hk, HJK, HBK, HTK, HSK⟩ := hrel
  by_cases hlt : k < N
  ·obtain ⟨hq, hNq, hNL⟩ := HQ.out
   obtain ⟨g, cur, rfl, hg, hcur, hcc⟩ := HLL.out (by omega)
   have hkq : k < qs.length := by omega
   have hkL : k < L.length := by omega
   have hLk : L[k] = qs[k].2 := by
    have e : (qs.map (·.2))[k]? = L[k]? := by rw [hq]
    rw [List.getElem?_map, List.getElem?_eq_getElem hkq, List.getElem?_eq_getElem hkL] at e
    exact (Option.some.inj e).symm
   obtain ⟨⟨hbn, hbW⟩, fr, hbl⟩ := HE.out _ (List.getElem_mem hkq)
   have hbr : wr.heap[qs[k].1]? = some (.cells (entC (hsN s n) qs[k].2) 168 fr) := (HBK.out.block _ hbn).trans ((HB1.out.block _ hbW).symm.trans hbl)
   have hcg : wr.cell? ⟨g, k, none⟩ = some (pv (some qs[k].1)) := cell_in (HTK.out _ _ _ hcur) (hcc k (by omega))
   have HTAKE := Lib.hid (List.take_succ_eq_append_getElem hkL)
   have HYK := Lib.hid (HY.out (L.take k) L[k] wr.drew (HJA.out _ _ _ HJK.out (HKK.out.new (drawn_below wr) (by have := HSK.out; omega))) (by have := HSK.out; show _ ≤ wr.heap.size; omega) (by rw [← List.take_succ_eq_append_getElem hkL]; exact List.take_prefix _ _))
   rw [hLk] at HYK HTAKE
   obtain ⟨⟨b, e⟩, hbe⟩ : ∃ q, q = qs[k] := ⟨_, rfl⟩
   rw [← hbe] at HYK HTAKE hbr hcg
   have ce0 : wr.drew.cell? ⟨b, 0, none⟩ = some (.string e.1) := cell_in hbr rfl
   have ce2 : wr.drew.rangeAt b 2 (enV e.2) := ent_range (W := wr.drew) hbr
   have HCE := Lib.hid (And.intro ce0 ce2)
   have hlt' : (k : Int) < N := by omega
   have HLT := Lib.hid hlt
   unfold pv at hcg
   clear hbe hbr hbl hbn hbW hLk hkq hkL hcur hcc hg hq hNq hNL ce0 ce2
   gi_wp2
   refine wpIn_region_W (S := fun V => V.cell? ⟨b, 0, none⟩ = some (.string e.1) ∧ V.rangeAt b 2 (enV e.2)) [9, 10] (by kernel_rfl) HCE.out (fun hHeld => ?_)
   refine wpAnyW_take (i := 0) (oi := ⟨some 12, _, _, _, _, _⟩) (v := ?v0) rfl (by kernel_rfl) (by kernel_rfl) (by kernel_rfl) (by kernel_rfl) (fun _ _ _ h => h) (Or.inl ⟨by rfl, ?h0⟩) (by assumption) ?r0
   case h0 => (intro w hSw; (try dsimp only at hSw); first | (go_simp; done) | (go_simp; with_reducible rfl))
   (try simp only [pq])
   refine wpAnyW_take (i := 1) (oi := ⟨some 13, _, _, _, _, _⟩) (v := ?v1) rfl (by kernel_rfl) (by kernel_rfl) (by kernel_rfl) (by kernel_rfl) (fun _ _ _ h => h) (Or.inl ⟨by rfl, ?h1⟩) (by assumption) ?r1
   case h1 => (intro w hSw; (try dsimp only at hSw); first | (go_simp; done) | (go_simp; with_reducible rfl))
   (try simp only [pq])
   refine wpAnyW_take (i := 2) (oi := ⟨some 14, _, _, _, _, _⟩) (v := ?v2) rfl (by kernel_rfl) (by kernel_rfl) (by kernel_rfl) (by kernel_rfl) (fun _ _ _ h => h) (Or.inl ⟨by rfl, ?h2⟩) (by assumption) ?r2
   case h2 => (intro w hSw; (try dsimp only at hSw); first | (go_simp; done) | (go_simp; with_reducible rfl))
   (try simp only [pq])
   refine wpAnyW_take (i := 3) (oi := ⟨some 15, _, _, _, _, _⟩) (v := ?v3) rfl (by kernel_rfl) (by kernel_rfl) (by kernel_rfl) (by kernel_rfl) (fun _ _ _ h => h) (Or.inl ⟨by rfl, ?h3⟩) (by assumption) ?r3
   case h3 => (intro w hSw; (try dsimp only at hSw); first | (go_simp; done) | (go_simp; with_reducible rfl))
   (try simp only [pq])
   refine wpAnyW_take (i := 4) (oi := ⟨some 16, _, _, _, _, _⟩) (v := ?v4) rfl (by kernel_rfl) (by kernel_rfl) (by kernel_rfl) (by kernel_rfl) (fun _ _ _ h => h) (Or.inl ⟨by rfl, ?h4⟩) (by assumption) ?r4
   case h4 => (intro w hSw; (try dsimp only at hSw); first | (go_simp; done) | (go_simp; with_reducible rfl))
   (try simp only [pq])
   refine wpAnyW_take (i := 5) (oi := ⟨some 17, _, _, _, _, _⟩) (v := ?v5) rfl (by kernel_rfl) (by kernel_rfl) (by kernel_rfl) (by kernel_rfl) (fun _ _ _ h => h) (Or.inl ⟨by rfl, ?h5⟩) (by assumption) ?r5
   case h5 => (intro w hSw; (try dsimp only at hSw); first | (go_simp; done) | (go_simp; with_reducible rfl))
   (try simp only [pq])
   refine wpAnyW_take (i := 6) (oi := ⟨some 18, _, _, _, _, _⟩) (v := ?v6) rfl (by kernel_rfl) (by kernel_rfl) (by kernel_rfl) (by kernel_rfl) (fun _ _ _ h => h) (Or.inl ⟨by rfl, ?h6⟩) (by assumption) ?r6
   case h6 => (intro w hSw; (try dsimp only at hSw); first | (go_simp; done) | (go_simp; with_reducible rfl))
   (try simp only [pq])
   refine wpAnyW_take (i := 7) (oi := ⟨some 19, _, _, _, _, _⟩) (v := ?v7) rfl (by kernel_rfl) (by kernel_rfl) (by kernel_rfl) (by kernel_rfl) (fun _ _ _ h => h) (Or.inl ⟨by rfl, ?h7⟩) (by assumption) ?r7
   case h7 => (intro w hSw; (try dsimp only at hSw); first | (go_simp; done) | (go_simp; with_reducible rfl))
   (try simp only [pq])
   refine wpAnyW_take (i := 8) (oi := ⟨some 20, _, _, _, _, _⟩) (v := _) rfl (by kernel_rfl) (by kernel_rfl) (by kernel_rfl) (by kernel_rfl) (fun _ _ _ h => h) (yieldsIf_arr (by rfl) 35 _ rfl b 2 rfl (celC e.2) _ (fun w hw => hw.2) Tryz.underlying35 rfl val_size) (by assumption) ?_
   (try simp only [pq])
   obtain ⟨fn, tmps, assign, body, hy, hR⟩ := HYK.out
   unfold encM at hy
   (try dsimp only at hy)
   refine wpAnyW_last (i := 9) (o := ⟨some 21, _, _, _, _, _⟩) (by kernel_rfl) (by decide) rfl (fun K hK => ?_)
   rw [if_pos (by rfl)]
   go_simp
   refine ⟨fun h => absurd h (by simp [Fence.wide]), ?_⟩
   refine hR.mono ?_
   rintro e' W3 (⟨rfl, hJ3, hk3⟩ | ⟨rfl, hJx3⟩)
   ·have HJ3 := Lib.hid hJ3
    have HK3 := Lib.hid hk3
    refine hK.out _ _ ?_
    clear hK K hR hy hJ3 hk3
    (try simp only [pq])
    refine wpAnyW_last (i := 10) (o := ⟨some 22, _, _, _, _, _⟩) (by kernel_rfl) (by decide) rfl (fun K hK => ?_)
    rw [if_pos (by rfl)]
    go_simp
    refine hK.out _ _ ?_
    clear hK K
    (try simp only [pq])
    refine wpAnyW_done (by kernel_rfl) ?_ _
    gi_wp2
    go_roundw
    case rel =>
     have h1 := HKK.out.low HK3.out
     have h4 := HKK.out.lists HK3.out
     refine ⟨k + 1, by simp, by have := HLT.out; omega, ?_, HBK.out.trans (((drawn_below wr).mono (by have := HNW.out; have := HSK.out; omega)).trans h1), HTK.out.trans (fun i cs fr h => h4 i cs fr h), Nat.le_trans HSK.out h1.size⟩
     rw [HTAKE.out]
     exact HJ3
    case measure => have := HLT.out; simp [intOf]; omega
   ·have HJ3 := Lib.hid hJx3
    refine hK.out _ _ ?_
    clear hK K hR hy hJx3
    (try simp only [pq])
    refine wpAnyW_last (i := 10) (o := ⟨some 22, _, _, _, _, _⟩) (by kernel_rfl) (by decide) rfl (fun K hK => ?_)
    rw [if_pos (by rfl)]
    go_simp
    refine hK.out _ _ ?_
    clear hK K
    (try simp only [pq])
    refine wpAnyW_done (by kernel_rfl) ?_ _
    gi_wp2
    refine bodyPost_ret (results_none rfl _ _ _) rfl ?_
    refine ⟨⟨_, rfl⟩, .inr ⟨_, ?_, HJ3.out⟩⟩
    rw [← HTAKE.out]
    exact List.take_prefix _ _
  ·obtain rfl : k = N := by omega
   have e : L.take k = L := List.take_of_length_le (by have := HQ.out.2.2; omega)
   rw [e] at HJK
   clear e
   gi_wp2
   go_end0
   exact ⟨⟨_, rfl⟩, .inl ⟨_, rfl, HJK.out⟩⟩
end Go.Proofs.YtpodmgihlomglaaGreatDoor
namespace Go.Proofs.YtpodmgihlomglaaGreatDoor
open Go.RowKit
set_option maxRecDepth 1000000
set_option linter.unusedSimpArgs false
theorem tally_size : (Tryz.prog.info? 107).map (·.size) = some 2 := by kernel_rfl
theorem iv_places {S : Nat → Prop} {w : World} {d : Value} {l : List Int} (h : CutAt S w 1 d (iv l) l.length) : PlacesAt w 1 d (fi fun j => l.getD j 0) l.length :=
 h.places.congr fun j hj => by
  rw [Nat.mul_one] at hj
  have e := iv_at l j hj
  rw [List.getD_eq_getElem?_getD, e]
  rfl
theorem iv_cell {S : Nat → Prop} {w : World} {a : Option Addr} {c : Nat} {l : List Int} (h : CutAt S w 1 (.slice a l.length c) (iv l) l.length) (h0 : 0 < l.length) : ∃ g o, a = some ⟨g, o, none⟩ ∧ ∀ j, j < l.length → w.cell? ⟨g, o + j, none⟩ = some (.int .i64 (l.getD j 0)) := by
 obtain ⟨g, o, c', e, _, _, _, hc⟩ := h.pos h0
 simp only [Value.slice.injEq] at e
 exact ⟨g, o, e.1, fun j hj => hc j _ (iv_at l j hj)⟩
theorem getD_out {l : List Int} {j : Nat} (h : l.length ≤ j) : l.getD j 0 = 0 := by rw [List.getD_eq_getElem?_getD, List.getElem?_eq_none h]; rfl
theorem cut_fresh {B g n c : Nat} {W : World} {cur : Array Value} {l : List Int} (hg : W.heap[g]? = some (.cells cur 3 (0, 0))) (hB : B ≤ g) (hn : n = l.length) (hc : n ≤ c) (h : ∀ j, j < l.length → cur[j]? = some (.int .i64 (l.getD j 0))) :
  CutAt (fun g => B ≤ g) W 1 (.slice (some ⟨g, 0, none⟩) n c) (iv l) l.length := by
 subst hn
 refine ⟨_, c, rfl, hc, by rw [iv_len, Nat.mul_one], .inr ⟨g, 0, rfl, hB, (Array.getElem?_eq_some_iff.1 hg).1, fun j u hu => ?_⟩⟩
 have hj : j < l.length := by have := (List.getElem?_eq_some_iff.1 hu).1; rwa [iv_len] at this
 rw [iv_at l j hj] at hu
 rw [Nat.zero_add]
 exact cell_in hg ((h j hj).trans hu)
def RngI (l : List Int) : Prop := ∀ j, 0 ≤ l.getD j 0 ∧ l.getD j 0 ≤ 100000
theorem rng_tal {xs : List Tr} (h : xs.length ≤ 100000) : RngI (tal xs) := fun j => by
 rw [tal_get]
 have := cntD_le xs j
 omega
set_option maxHeartbeats 1000000 in
theorem tl_depth (w : World) (a : Option Addr) (k c : Nat) (n : Int) (hk : k ≤ 100000) : Calls Tryz.prog 64 #[.agg #[.slice a k c, .int .i64 n]] w fun r w' => r = .returned (.int .i64 ((k + 1 : Nat) : Int)) ∧ Below w.heap.size w w' := by
 have hk1 : (k : Int) ≤ 100000 := by omega
 have HB := Lib.hid (Below.newly' w (.cells #[.slice a k c, .int .i64 n] 107))
 go_enter Tryz.func64, Tryz.ntmps64
 go_wp2
 go_ret
 exact ⟨by first | rfl | simp, HB.out⟩
set_option maxHeartbeats 2000000 in
theorem tl_plus {S : Nat → Prop} (w : World) (d e : Value) (l m : List Int) (n p : Nat) (hd : CutAt S w 1 d (iv l) l.length) (he : CutAt S w 1 e (iv m) m.length) (hl : l.length ≤ 100) (hm : m.length ≤ 100) (hlb : RngI l) (hmb : RngI m) (hn : n ≤ 100000) (hp : p ≤ 100000) :
  Calls Tryz.prog 69 #[.agg #[d, .int .i64 (n : Int)], .agg #[e, .int .i64 (p : Int)]] w fun r w' => ∃ d', r = .returned (.agg #[d', .int .i64 ((n + p : Nat) : Int)]) ∧ CutAt (fun g => w.heap.size ≤ g) w' 1 d' (iv (plusI l m)) (plusI l m).length ∧ Below w.heap.size w w' := by
 obtain ⟨i, hi, hz, h1, h2⟩ := info_parts int_info
 obtain ⟨da, dc, rfl, _⟩ := hd.shape
 obtain ⟨ea, ec, rfl, _⟩ := he.shape
 obtain ⟨w3, hw3⟩ : ∃ w3, ((w.alloc (.cells #[.slice da l.length dc, .int .i64 (n : Int)] 107)).alloc (.cells #[.slice ea m.length ec, .int .i64 (p : Int)] 107)).alloc (.cells #[.slice none 0 0, .int .i64 0] 107) = w3 := ⟨_, rfl⟩
 obtain ⟨hb3, hx3, hy3, hz3, hs3⟩ := three_newV hw3
 obtain ⟨N, hN⟩ : ∃ N, N = max l.length m.length := ⟨_, rfl⟩
 have hmx : max (l.length : Int) (m.length : Int) = (N : Int) := by omega
 have cx0 : w3.cell? ⟨w.heap.size, 0, none⟩ = some (.slice da l.length dc) := cell_in hx3 rfl
 have cy0 : w3.cell? ⟨w.heap.size + 1, 0, none⟩ = some (.slice ea m.length ec) := cell_in hy3 rfl
 have HX3 := Lib.hid hx3
 have HY3 := Lib.hid hy3
 have HZ3 := Lib.hid hz3
 have HB3 := Lib.hid hb3
 have HS3 := Lib.hid hs3
 have HD := Lib.hid (hd.later hb3)
 have HE := Lib.hid (he.later hb3)
 have HI := Lib.hid (And.intro hi (And.intro hz (And.intro h1 h2)))
 have HN := Lib.hid (And.intro hN (And.intro hl (And.intro hm (And.intro hn hp))))
 have HLB := Lib.hid hlb
 have HMB := Lib.hid hmb
 have hl' : (l.length : Int) ≤ 100 := by omega
 have hm' : (m.length : Int) ≤ 100 := by omega
 have hN' : (N : Int) ≤ 100 := by omega
 have hn' : (n : Int) ≤ 100000 := by omega
 have hp' : (p : Int) ≤ 100000 := by omega
 clear hi hz h1 h2 hb3 hx3 hy3 hz3 hs3 hd he hl hm hlb hmb hn hp hN
 go_enter Tryz.func69, Tryz.ntmps69
 go_upto_region 1 with fail
 clear hw3
 go_upto_region 2 with (first
  | (refine wpList_make_s _ rfl _ _ 67 rfl 3 i (.int .i64 0) 1 Tryz.underlying67 HI.out.1 HI.out.2.1 HI.out.2.2.1 .i64 .i64 N rfl rfl (by rw [HI.out.2.2.2]; omega) (by omega) ?_))
 clear hmx
 obtain ⟨w4, hw4⟩ : ∃ w4, w4 = w3.alloc (.cells (madeCells #[.int .i64 0] N) 3) := ⟨_, rfl⟩
 have hb4 : Below w3.heap.size w3 w4 := by rw [hw4]; exact Below.newly' _ _
 have HG4 : Hid (w4.heap[w3.heap.size]? = some (.cells (madeCells #[.int .i64 0] N) 3 (0, 0))) := by show _ = _; rw [hw4]; exact heap_alloc_last _ _
 replace cx0 : w4.cell? ⟨w.heap.size, 0, none⟩ = some (.slice da l.length dc) := (hb4.cell (World.block_lt_of_cell? _ _ cx0)).trans cx0
 rw [← hw4]
 have HD4 := Lib.hid (HD.out.later hb4)
 have HB4 := Lib.hid hb4
 obtain ⟨G, hG⟩ : ∃ G, G = w3.heap.size := ⟨_, rfl⟩
 have HGE := Lib.hid hG
 rw [← hG] at HG4 ⊢
 clear hw4 hb4 hG cy0 HD
 go_upto_region 3 with (first
  | (refine wpList_copy_s rfl _ _ 67 67 rfl 3 Tryz.underlying67 1 int_size G N N rfl _ rfl (fi fun j => l.getD j 0) l.length (iv_places HD4.out) (by have := HN.out.1; omega) 3 _ HG4.out (by rw [size_madeCells]; have := HN.out.1; omega) (fun _ _ => rfl) ?_; intro w5 c5 hg5 hs5 hc5 k5; have HG5 := Lib.hid hg5; have HS5 := Lib.hid hs5; have HC5 := Lib.hid hc5; have HK5 := Lib.hid k5; clear hg5 hs5 hc5 k5))
 have hge := HGE.out
 have hs3 := HS3.out
 have HB5 : Hid (Below w3.heap.size w3 w5) := HB4.out.trans (HK5.out.below (by omega))
 have HE5 := Lib.hid (HE.out.later HB5.out)
 have HX5 := Lib.hid ((HB5.out.block _ (by omega)).trans HX3.out)
 have HY5 := Lib.hid ((HB5.out.block _ (by omega)).trans HY3.out)
 have cy0 : w5.cell? ⟨w.heap.size + 1, 0, none⟩ = some (.slice ea m.length ec) := cell_in HY5.out rfl
 have HA5 : Hid (c5.size = N ∧ ∀ j, j < N → c5[j]? = some (.int .i64 (l.getD j 0))) := by
  refine ⟨by rw [HS5.out, size_madeCells], fun j hj => ?_⟩
  rw [HC5.out j]
  split
  ·rfl
  ·rw [made_at _ _ _ (by omega), getD_out (by omega)]
   simp [Value.cells, Nat.mod_one]
 clear hge hs3 cx0 HG4 HD4 HS5 HC5 HK5 HB4
 go_wp2_with fail
 go_loopw [23] (fun iv_ wr => ∃ (q : Nat) (cur : Array Value), iv_ = .int .i64 (q : Int) ∧ q ≤ m.length ∧ Hid (wr.heap[G]? = some (.cells cur 3 (0, 0))) ∧ Hid (cur.size = N ∧ ∀ j, j < N → cur[j]? = some (.int .i64 (l.getD j 0 + if j < q then m.getD j 0 else 0))) ∧ Hid (Below w3.heap.size w3 wr)) (fun iv_ _ => m.length - (intOf iv_).toNat)
 case atStart => exact ⟨0, c5, rfl, Nat.zero_le _, HG5, ⟨HA5.out.1, fun j hj => by rw [HA5.out.2 j hj]; simp⟩, HB5⟩
 case round =>
  clear HG5 HA5 HB5 HX5 HY5 HE5 cy0
  obtain ⟨q, cur, rfl, hq, HG, HC, HB⟩ := hrel
  by_cases hlt : q < m.length
  ·have hqN : q < N := by have := HN.out.1; omega
   have hqN' : (q : Int) < (N : Int) := by omega
   have hlt' : (q : Int) < (m.length : Int) := by omega
   obtain ⟨x, hx⟩ : ∃ x, x = l.getD q 0 := ⟨_, rfl⟩
   obtain ⟨y, hy⟩ : ∃ y, y = m.getD q 0 := ⟨_, rfl⟩
   have cg : wr.cell? ⟨G, q, none⟩ = some (.int .i64 x) := by
    have := HC.out.2 q hqN
    rw [if_neg (by omega), Int.add_zero, ← hx] at this
    exact cell_in HG.out this
   obtain ⟨g, o, rfl, hcs⟩ := iv_cell (HE.out.later HB.out) (by omega)
   have cm := hcs q hlt
   rw [← hy] at cm
   have hxb := HLB.out q
   have hyb := HMB.out q
   rw [← hx] at hxb
   rw [← hy] at hyb
   obtain ⟨hx0, hx1⟩ := hxb
   obtain ⟨hy0, hy1⟩ := hyb
   have HX := Lib.hid (And.intro hx hy)
   clear hcs hx hy
   go_wp2_with (first
    | (refine st_cell rfl 3 _ _ rfl G q (.int .i64 (x + y)) rfl rfl rfl 3 cur HG.out int_size (by have := HC.out.1; omega) ?_; intro w6 h6 k6; have HG6 := Lib.hid h6; have HK6 := Lib.hid k6; clear h6 k6))
   go_roundw
   case rel =>
    refine ⟨q + 1, _, by simp, by omega, HG6, ⟨by rw [Array.size_setIfInBounds]; exact HC.out.1, fun j hj => ?_⟩, HB.out.trans (HK6.out.below (by have := HGE.out; omega))⟩
    rw [Array.getElem?_setIfInBounds]
    by_cases e : q = j
    ·subst e
     rw [if_pos rfl, if_pos (by have := HC.out.1; omega), if_pos (by omega), ← HX.out.1, ← HX.out.2]
    ·rw [if_neg e, HC.out.2 j hj]
     by_cases h : j < q
     ·rw [if_pos h, if_pos (by omega)]
     ·rw [if_neg h, if_neg (by omega)]
   case measure => simp [intOf]; omega
  ·obtain rfl : q = m.length := by omega
   have hs3 := HS3.out
   have hge := HGE.out
   have hx := (HB.out.block w.heap.size (by omega)).trans HX3.out
   have hy := (HB.out.block (w.heap.size + 1) (by omega)).trans HY3.out
   have HZ := Lib.hid ((HB.out.block (w.heap.size + 2) (by omega)).trans HZ3.out)
   have cx1 : wr.cell? ⟨w.heap.size, 1, none⟩ = some (.int .i64 (n : Int)) := cell_in hx rfl
   have cy1 : wr.cell? ⟨w.heap.size + 1, 1, none⟩ = some (.int .i64 (p : Int)) := cell_in hy rfl
   clear hx hy hs3 hge
   go_wp2_with (first
    | (refine st_agg rfl 107 _ _ rfl (w.heap.size + 2) #[.slice (some ⟨G, 0, none⟩) N N, .int .i64 ((n : Int) + (p : Int))] rfl rfl 107 _ HZ.out tally_size rfl (by simp [Value.oneCell']) ?_; intro w7 h7 k7))
   have hs3 := HS3.out
   have hge := HGE.out
   refine bodyPost_ret (results_cell_row rfl _ _ (w.heap.size + 2) 107 _ (0, 0) _ rfl h7 Tryz.underlying107 rfl tally_size) rfl ⟨_, by rw [Int.natCast_add], ?_, (tW HB3.out HB.out).trans (k7.below (by omega))⟩
   refine cut_fresh (k7.other HG.out (by omega)) (by omega) (by rw [plusI_len]; exact HN.out.1) (Nat.le_refl _) fun j hj => ?_
   rw [plusI_len, ← HN.out.1] at hj
   rw [plusI_get _ _ (by have := HN.out.1; omega), HC.out.2 j hj]
   split
   ·rfl
   ·rw [getD_out (l := m) (by omega)]
theorem scalar_size : (Tryz.prog.info? 32).map (·.size) = some 3 := by kernel_rfl
theorem nodT_leaf {a : Tr} (h : a.xs = []) : nodT a = 1 := by rw [nodT_eq, h]; rfl
theorem depT_leaf {a : Tr} (h : a.xs = []) : depT a = 1 := by rw [depT_eq, h]; rfl
theorem ValB.nod {a : Tr} (h : ValB a) : nodT a ≤ 16384 := h.1.2.2
theorem ValB.dep {a : Tr} (h : ValB a) : depT a ≤ 64 := h.1.2.1
theorem ValB.nodL {a : Tr} (h : ValB a) : Go.Proofs.YtpodmgihlomglaaGreatDoor.nodL a.xs ≤ 16383 := by have := h.nod; rw [nodT_eq] at this; omega
theorem ValB.depL {a : Tr} (h : ValB a) : Go.Proofs.YtpodmgihlomglaaGreatDoor.depL a.xs ≤ 63 := by have := h.dep; rw [depT_eq] at this; omega
set_option maxHeartbeats 1000000 in
theorem va_Kind (w : World) (x : Cel) : Calls Tryz.prog 37 #[.agg (celC x)] w fun r w' => r = .returned (.int .i64 x.k) ∧ Below w.heap.size w w' := by
 have HB := Lib.hid (Below.newly' w (.cells (celC x) 35))
 go_enter Tryz.func37, Tryz.ntmps37
 go_wp2
 go_ret
 exact ⟨rfl, HB.out⟩
set_option maxHeartbeats 1000000 in
theorem va_Scalar {S : Nat → Prop} (w : World) (a : Tr) (x : Cel) (hv : VAt S w a x) : Calls Tryz.prog 43 #[.agg (celC x)] w fun r w' => r = .returned (.tuple #[.agg (if a.k ≤ 3 then #[.int .i64 a.k, .int .i64 a.n, .string a.t] else #[.int .i64 0, .int .i64 0, .string ⟨#[]⟩]), .bool (decide (a.k ≤ 3))]) ∧ Below w.heap.size w w' := by
 obtain ⟨w1, hw1⟩ : ∃ w1, (w.alloc (.cells (celC x) 35)).alloc (.cells #[.int .i64 0, .int .i64 0, .string ⟨#[]⟩] 32) = w1 := ⟨_, rfl⟩
 obtain ⟨hb1, hx1, hy1, hs1⟩ := two_new hw1
 have HX1 := Lib.hid hx1
 have HY1 := Lib.hid hy1
 have HB1 := Lib.hid hb1
 have hk := hv.k
 have hn := hv.n
 have ht := hv.t
 have cp : w1.cell? ⟨w.heap.size, 3, none⟩ = some (.pointer x.p) := cell_in hx1 rfl
 by_cases h3 : a.k ≤ 3
 ·have hp := hv.leaf h3
  rw [if_pos h3, decide_eq_true h3]
  rw [hp] at cp
  have HK := Lib.hid (And.intro hk (And.intro hn ht))
  have HR : Hid (w1.rangeAt w.heap.size 0 [.int .i64 a.k, .int .i64 a.n, .string a.t]) := fun j u hu => cell_in hx1 (by
   have hj : j < 3 := (List.getElem?_eq_some_iff.1 hu).1
   rw [← hk, ← hn, ← ht] at hu
   match j, hj with
   | 0, _ => exact hu
   | 1, _ => exact hu
   | 2, _ => exact hu)
  clear hx1 hy1 hb1 hs1 hv hk hn ht hp
  go_enter Tryz.func43, Tryz.ntmps43
  go_upto_region 1 with fail
  clear hw1
  go_wp2_with (first
   | (refine wpList_load_mid rfl 32 _ rfl w.heap.size 0 rfl [.int .i64 a.k, .int .i64 a.n, .string a.t] _ HR.out Tryz.underlying32 rfl scalar_size ?_)
   | (refine st_agg rfl 32 _ _ rfl (w.heap.size + 1) #[.int .i64 a.k, .int .i64 a.n, .string a.t] rfl rfl 32 _ HY1.out scalar_size rfl (by simp [Value.oneCell']) ?_; intro w6 h6 k6))
  exact bodyPost_ret (results_cell_row1 rfl _ _ (w.heap.size + 1) 32 _ (0, 0) _ rfl h6 Tryz.underlying32 rfl scalar_size) rfl ⟨rfl, HB1.out.trans (k6.below (by omega))⟩
 ·obtain ⟨b, l, hp, _⟩ := hv.parts (by omega)
  rw [if_neg h3, decide_eq_false h3]
  rw [hp] at cp
  clear hx1 hy1 hb1 hs1 hv hk hn ht hp
  go_enter Tryz.func43, Tryz.ntmps43
  go_upto_region 1 with fail
  clear hw1
  go_wp2_with (first
   | (refine st_agg rfl 32 _ _ rfl (w.heap.size + 1) #[.int .i64 0, .int .i64 0, .string ⟨#[]⟩] rfl rfl 32 _ HY1.out scalar_size rfl (by simp [Value.oneCell']) ?_; intro w6 h6 k6))
  exact bodyPost_ret (results_cell_row1 rfl _ _ (w.heap.size + 1) 32 _ (0, 0) _ rfl h6 Tryz.underlying32 rfl scalar_size) rfl ⟨rfl, HB1.out.trans (k6.below (by omega))⟩
set_option maxHeartbeats 1000000 in
theorem va_Depth {S : Nat → Prop} (w : World) (a : Tr) (x : Cel) (ha : ValB a) (hv : VAt S w a x) : Calls Tryz.prog 31 #[.agg (celC x)] w fun r w' => r = .returned (.int .i64 ((depT a : Nat) : Int)) ∧ Below w.heap.size w w' := by
 obtain ⟨w1, hw1⟩ : ∃ w1, w.alloc (.cells (celC x) 35) = w1 := ⟨_, rfl⟩
 obtain ⟨hb1, hx1, hs1⟩ := new_below hw1
 have cp : w1.cell? ⟨w.heap.size, 3, none⟩ = some (.pointer x.p) := cell_in hx1 rfl
 have HB1 := Lib.hid hb1
 by_cases h3 : a.k ≤ 3
 ·have hp := hv.leaf h3
  rw [depT_leaf (ha.leaf h3).2]
  rw [hp] at cp
  clear hx1 hb1 hs1 hv ha hp
  go_enter Tryz.func31, Tryz.ntmps31
  go_upto_region 1 with fail
  clear hw1
  go_wp2
  go_ret
  exact ⟨rfl, HB1.out⟩
 ·obtain ⟨b, l, hp, _, _, rc, mc, d, fr, s, n, h1, _, h3', h4, h5⟩ := (hv.later hb1).parts (by omega)
  rw [hp] at cp
  have HD := Lib.hid (innC_tal h3'.size h4.size h1)
  have HDE := Lib.hid ha.depL
  rw [depT_eq]
  rw [tal_len] at h5
  obtain ⟨da, dc, rfl, _⟩ := h5.shape
  obtain ⟨k, hk⟩ : ∃ k, k = depL a.xs := ⟨_, rfl⟩
  rw [← hk] at HDE HD ⊢
  have HT := Lib.hid (tl_depth w1 da k dc (nodL a.xs : Int) (by have := HDE.out; omega))
  clear hx1 hb1 hs1 hv ha hp h1 h3' h4 h5 hk
  go_enter Tryz.func31, Tryz.ntmps31
  go_upto_region 1 with fail
  clear hw1
  go_wp2_with (first
   | (refine wpList_load_mid rfl 107 _ rfl b 10 rfl [.slice da k dc, .int .i64 (nodL a.xs : Int)] _ HD.out Tryz.underlying107 rfl tally_size ?_)
   | (go_at_call 64; refine HT.out.mono ?_; rintro r w2 ⟨rfl, hb2⟩; have HB2 := Lib.hid hb2; clear hb2))
  go_ret
  exact ⟨by first | rfl | simp, tW HB1.out HB2.out⟩
set_option maxHeartbeats 1000000 in
theorem va_Nodes {S : Nat → Prop} (w : World) (a : Tr) (x : Cel) (ha : ValB a) (hv : VAt S w a x) : Calls Tryz.prog 30 #[.agg (celC x)] w fun r w' => r = .returned (.int .i64 ((nodT a : Nat) : Int)) ∧ Below w.heap.size w w' := by
 obtain ⟨w1, hw1⟩ : ∃ w1, w.alloc (.cells (celC x) 35) = w1 := ⟨_, rfl⟩
 obtain ⟨hb1, hx1, hs1⟩ := new_below hw1
 have cp : w1.cell? ⟨w.heap.size, 3, none⟩ = some (.pointer x.p) := cell_in hx1 rfl
 have HB1 := Lib.hid hb1
 by_cases h3 : a.k ≤ 3
 ·have hp := hv.leaf h3
  rw [nodT_leaf (ha.leaf h3).2]
  rw [hp] at cp
  clear hx1 hb1 hs1 hv ha hp
  go_enter Tryz.func30, Tryz.ntmps30
  go_upto_region 1 with fail
  clear hw1
  go_wp2
  go_ret
  exact ⟨rfl, HB1.out⟩
 ·obtain ⟨b, l, hp, _, _, rc, mc, d, fr, s, n, h1, _, h3', h4, h5⟩ := (hv.later hb1).parts (by omega)
  rw [hp] at cp
  have cn : w1.cell? ⟨b, 11, none⟩ = some (.int .i64 (nodL a.xs : Int)) := innC_tal h3'.size h4.size h1 1 _ rfl
  have hnn : (nodL a.xs : Int) ≤ 100000 := by have := ha.nodL; omega
  have hn0 : (0 : Int) ≤ (nodL a.xs : Int) := by omega
  obtain ⟨k, hk⟩ : ∃ k : Nat, k = nodL a.xs := ⟨_, rfl⟩
  rw [nodT_eq]
  rw [← hk] at cn hnn hn0 ⊢
  clear hx1 hb1 hs1 hv ha hp h1 h3' h4 h5 hk
  go_enter Tryz.func30, Tryz.ntmps30
  go_upto_region 1 with fail
  clear hw1
  go_wp2
  go_ret
  exact ⟨by first | rfl | (simp; omega), HB1.out⟩
set_option maxHeartbeats 2000000 in
theorem va_tallyOf {S : Nat → Prop} (w : World) (a : Tr) (x : Cel) (ha : ValB a) (hv : VAt S w a x) : Calls Tryz.prog 70 #[.agg (celC x)] w fun r w' => ∃ d, r = .returned (.agg #[d, .int .i64 ((nodT a : Nat) : Int)]) ∧ CutAt (fun g => w.heap.size ≤ g) w' 1 d (iv (tal [a])) (tal [a]).length ∧ Below w.heap.size w w' := by
 obtain ⟨i, hi, hz, h1, h2⟩ := info_parts int_info
 obtain ⟨w1, hw1⟩ : ∃ w1, (w.alloc (.cells (celC x) 35)).alloc (.cells #[.slice none 0 0, .int .i64 0] 107) = w1 := ⟨_, rfl⟩
 obtain ⟨hb1, hx1, hy1, hs1⟩ := two_new hw1
 have HX1 := Lib.hid hx1
 have HY1 := Lib.hid hy1
 have HB1 := Lib.hid hb1
 have HS1 := Lib.hid hs1
 have HI := Lib.hid (And.intro hi (And.intro hz (And.intro h1 h2)))
 have HD := Lib.hid (va_Depth w1 a x ha (hv.later hb1))
 have HN := Lib.hid (fun W (hb : Below w.heap.size w W) => va_Nodes W a x ha (hv.later hb))
 obtain ⟨k, hk⟩ : ∃ k, k = depT a := ⟨_, rfl⟩
 have HK : Hid (k = depT a ∧ 1 ≤ k ∧ k ≤ 64) := ⟨hk, by rw [hk]; exact dep_pos a, by rw [hk]; exact ha.dep⟩
 rw [← hk] at HD
 have hk64 : (k : Int) ≤ 64 := by have := HK.out; omega
 have hk1 : (1 : Int) ≤ (k : Int) := by have := HK.out; omega
 obtain ⟨j, hj⟩ : ∃ j : Nat, k = j + 1 := ⟨k - 1, by have := HK.out; omega⟩
 have hj1 : (k : Int) - 1 = (j : Int) := by omega
 have hjk : (j : Int) < (k : Int) := by omega
 have hjk' : j < k := by omega
 have HJ := Lib.hid hj
 obtain ⟨q, hq⟩ : ∃ q, q = nodT a := ⟨_, rfl⟩
 rw [← hq] at HN ⊢
 clear hx1 hy1 hb1 hs1 hi hz h1 h2 hk hv ha hj hq
 go_enter Tryz.func70, Tryz.ntmps70
 go_upto_region 1 with fail
 clear hw1
 go_upto_region 2 with (first
  | (refine ld_if rfl 35 _ rfl w.heap.size rfl 35 _ _ _ HX1.out Tryz.underlying35 rfl val_size ?_)
  | (go_at_call 31; refine HD.out.mono ?_; rintro r w2 ⟨rfl, hb2⟩; have HB2 := Lib.hid hb2; clear hb2)
  | (refine wpList_make_s _ rfl _ _ 67 rfl 3 i (.int .i64 0) 1 Tryz.underlying67 HI.out.1 HI.out.2.1 HI.out.2.2.1 .i64 .i64 k rfl rfl (by rw [HI.out.2.2.2]; omega) (by have := HK.out; omega) ?_))
 obtain ⟨w4, hw4⟩ : ∃ w4, w4 = w2.alloc (.cells (madeCells #[.int .i64 0] k) 3) := ⟨_, rfl⟩
 have hb4 : Below w2.heap.size w2 w4 := by rw [hw4]; exact Below.newly' _ _
 have HG4 : Hid (w4.heap[w2.heap.size]? = some (.cells (madeCells #[.int .i64 0] k) 3 (0, 0))) := by show _ = _; rw [hw4]; exact heap_alloc_last _ _
 have HB4 : Hid (Below w1.heap.size w1 w4) := tW HB2.out hb4
 rw [← hw4]
 obtain ⟨G, hG⟩ : ∃ G, G = w2.heap.size := ⟨_, rfl⟩
 have HGE : Hid (w1.heap.size ≤ G) := by show _ ≤ _; rw [hG]; exact HB2.out.size
 rw [← hG] at HG4 ⊢
 have cg : w4.cell? ⟨G, j, none⟩ = some (.int .i64 0) := cell_in HG4.out (by rw [made_at _ _ _ (by omega)]; simp [Value.cells, Nat.mod_one])
 clear hw4 hb4 hG HD HB2
 go_wp2_with (first
  | (refine st_cell rfl 3 _ _ rfl G j (.int .i64 1) rfl rfl rfl 3 _ HG4.out int_size (by rw [size_madeCells]; have := HJ.out; omega) ?_; intro w5 h5 k5; have HG5 := Lib.hid h5; have HB5 := Lib.hid (HB4.out.trans (k5.below HGE.out)); clear h5 k5)
  | (refine ld_if rfl 35 _ rfl w.heap.size rfl 35 _ _ _ ((HB5.out.block _ (by have := HS1.out; omega)).trans HX1.out) Tryz.underlying35 rfl val_size ?_)
  | (go_at_call 30; refine (HN.out _ (tW HB1.out HB5.out)).mono ?_; rintro r w6 ⟨rfl, hb6⟩; have HB6 := Lib.hid (tW HB5.out hb6); have HG6 := Lib.hid ((hb6.block G (Array.getElem?_eq_some_iff.1 HG5.out).1).trans HG5.out); clear hb6)
  | (refine st_agg rfl 107 _ _ rfl (w.heap.size + 1) #[.slice (some ⟨G, 0, none⟩) k k, .int .i64 (q : Int)] rfl rfl 107 _ ((HB6.out.block _ (by have := HS1.out; omega)).trans HY1.out) tally_size rfl (by simp [Value.oneCell']) ?_; intro w7 h7 k7))
 have hge := HGE.out
 have hs1 := HS1.out
 refine bodyPost_ret (results_cell_row rfl _ _ (w.heap.size + 1) 107 _ (0, 0) _ rfl h7 Tryz.underlying107 rfl tally_size) rfl ⟨_, rfl, ?_, (tW HB1.out HB6.out).trans (k7.below (by omega))⟩
 have ht : tal [a] = List.replicate j 0 ++ [1] := by rw [tal_one, ← HK.out.1, HJ.out]; rfl
 rw [ht]
 have hl : (List.replicate j (0 : Int) ++ [1]).length = k := by rw [HJ.out]; simp
 refine cut_fresh (k7.other HG6.out (by omega)) (by omega) hl.symm (Nat.le_refl _) fun i hi => ?_
 rw [hl] at hi
 rw [Array.getElem?_setIfInBounds]
 by_cases e : j = i
 ·subst e
  rw [if_pos rfl, if_pos (by rw [size_madeCells]; have := HJ.out; simp; omega)]
  simp
 ·rw [if_neg e, made_at _ _ _ (by omega)]
  have : i < j := by have := HJ.out; omega
  simp [Value.cells, Nat.mod_one, List.getElem?_append_left, this]
def bearsE (k s : Int) : Int := if s = 0 ∨ s = 1 ∨ s = 2 then if k = s + 4 then 0 else 3 else 1
set_option maxHeartbeats 2000000 in
theorem va_bears (w : World) (x : Cel) (s i : Int) (u : ByteArray) : Calls Tryz.prog 51 #[.agg (celC x), .agg #[.int .i64 s, .int .i64 i, .string u]] w fun r w' => r = .returned (.int .i64 (bearsE x.k s)) ∧ Below w.heap.size w w' := by
 obtain ⟨w1, hw1⟩ : ∃ w1, (w.alloc (.cells (celC x) 35)).alloc (.cells #[.int .i64 s, .int .i64 i, .string u] 44) = w1 := ⟨_, rfl⟩
 obtain ⟨hb1, hx1, hy1, hs1⟩ := two_new hw1
 have HX1 := Lib.hid hx1
 have HB1 := Lib.hid hb1
 have HK := Lib.hid (va_Kind w1 x)
 have cs : w1.cell? ⟨w.heap.size + 1, 0, none⟩ = some (.int .i64 s) := cell_in hy1 rfl
 clear hx1 hy1 hb1 hs1
 by_cases h0 : s = 0
 ·subst h0
  by_cases hk : x.k = 4 <;> (
   have e : bearsE x.k 0 = if x.k = 4 then 0 else 3 := by simp [bearsE]
   rw [e]
   first | rw [if_pos hk] | rw [if_neg hk]
   clear e
   go_enter Tryz.func51, Tryz.ntmps51
   go_upto_region 1 with fail
   clear hw1
   go_wp2_with (first
    | (refine ld_if rfl 35 _ rfl w.heap.size rfl 35 _ _ _ HX1.out Tryz.underlying35 rfl val_size ?_)
    | (go_at_call 37; refine HK.out.mono ?_; rintro r w2 ⟨rfl, hb2⟩; have HB2 := Lib.hid hb2; clear hb2))
   go_ret
   exact ⟨rfl, tW HB1.out HB2.out⟩)
 by_cases h1 : s = 1
 ·subst h1
  by_cases hk : x.k = 5 <;> (
   have e : bearsE x.k 1 = if x.k = 5 then 0 else 3 := by simp [bearsE]
   rw [e]
   first | rw [if_pos hk] | rw [if_neg hk]
   clear e
   go_enter Tryz.func51, Tryz.ntmps51
   go_upto_region 1 with fail
   clear hw1
   go_wp2_with (first
    | (refine ld_if rfl 35 _ rfl w.heap.size rfl 35 _ _ _ HX1.out Tryz.underlying35 rfl val_size ?_)
    | (go_at_call 37; refine HK.out.mono ?_; rintro r w2 ⟨rfl, hb2⟩; have HB2 := Lib.hid hb2; clear hb2))
   go_ret
   exact ⟨rfl, tW HB1.out HB2.out⟩)
 by_cases h2 : s = 2
 ·subst h2
  by_cases hk : x.k = 6 <;> (
   have e : bearsE x.k 2 = if x.k = 6 then 0 else 3 := by simp [bearsE]
   rw [e]
   first | rw [if_pos hk] | rw [if_neg hk]
   clear e
   go_enter Tryz.func51, Tryz.ntmps51
   go_upto_region 1 with fail
   clear hw1
   go_wp2_with (first
    | (refine ld_if rfl 35 _ rfl w.heap.size rfl 35 _ _ _ HX1.out Tryz.underlying35 rfl val_size ?_)
    | (go_at_call 37; refine HK.out.mono ?_; rintro r w2 ⟨rfl, hb2⟩; have HB2 := Lib.hid hb2; clear hb2))
   go_ret
   exact ⟨rfl, tW HB1.out HB2.out⟩)
 ·have e : bearsE x.k s = 1 := by simp [bearsE, h0, h1, h2]
  rw [e]
  clear e
  go_enter Tryz.func51, Tryz.ntmps51
  go_upto_region 1 with fail
  clear hw1
  go_wp2_with fail
  go_ret
  exact ⟨rfl, HB1.out⟩
theorem len_parts {a : Tr} {l : List Cel} (ha : ValB a) (hl : l.length = a.xs.length) (h4 : 4 ≤ a.k) : (itemE a.k l).length + (mapE a.k a.ks a.xs l).length = a.xs.length ∧ (itemE a.k l).length ≤ 16383 ∧ (mapE a.k a.ks a.xs l).length ≤ 16383 := by
 have hn := ha.len
 have hk := ha.kind
 by_cases h : a.k = 4
 ·have e : mkeys a.k a.ks a.xs = [] := by rw [mkeys, if_neg (by omega), if_neg (by omega)]
  rw [itemE, if_pos h, mapE, e]
  simp
  omega
 ·have hm := (ha.mkeys (by omega)).1
  rw [itemE, if_neg h, mapE, List.length_zip, hm, hl]
  simp
  omega
end Go.Proofs.YtpodmgihlomglaaGreatDoor
