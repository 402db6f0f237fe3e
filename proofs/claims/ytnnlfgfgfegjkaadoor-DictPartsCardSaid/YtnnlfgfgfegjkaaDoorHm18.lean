/- Package hamt: All and its iterator; Keys. (written by tools/gen09/all18.py) -/
import Derived.Test.YtnnlfgfgfegjkaaDoorPkL
import Derived.Test.YtnnlfgfgfegjkaaDoorPkM
namespace Go.Proofs.YtnnlfgfgfegjkaaDoor
open Go.RowKit Go.Shelf
set_option maxRecDepth 1000000
set_option linter.unusedSimpArgs false
attribute [local go_sem] Oper.semAt_some

/-- A key and its thing, as a round is handed them. -/
abbrev encM (e : Ent) : Array Value := #[.string e.1, .int .i64 e.2]
set_option maxHeartbeats 1000000 in
/-- All: the map is boxed; the function value has the box. -/
theorem hm_All_in (n : Nat) (c : Array Value) (w : World) :
    CallsIn Fence.wide n Tryd.prog 56 #[.agg c] w fun e w' => e = .returned (.func (.func 74) #[] #[.pointer (some ⟨w.heap.size, 0, none⟩)]) ∧ w' = w.alloc (.cells c 36) := by
  refine callsIn_of_wp Tryd.func56 rfl trivial ?_ rfl
  simp only [Tryd.ntmps56, List.size_toArray, List.length_cons, List.length_nil, Nat.reduceAdd, Nat.reduceSub, Array.replicate_succ, Array.replicate_zero, List.push_toArray, List.append_toArray, List.nil_append, List.cons_append]
  gi_wp2
  go_ret
  exact ⟨rfl, rfl⟩
set_option maxHeartbeats 4000000 in
/-- All's iterator goes through the keys, all, or as far as one goes, whatever a round does that keeps what lay below n₀, the first two blocks that the iterator lays, and the lists of keys. -/
theorem hm_all1 (Bs n₀ : Nat) (s : Nat) (n : Int) (L : List Ent) (c : Array Value) (w : World) (hn₀ : n₀ ≤ w.heap.size) (hX : w.heap[Bs]? = some (.cells c 36 (0, 0))) (hv : MapAt (fun g => g < n₀) w s n L c) (hL : Rise L) (hN : L.length ≤ 50000) (hT : Tab6 w) :
    IterState 106 Tryd.prog 74 #[.pointer (some ⟨Bs, 0, none⟩)] encM n₀ (fun ys => ys = L) (fun pre => pre <+: L) L.length w := by
  intro l J Jx W hW hA hS hY h0 m
  have hBl := (Array.getElem?_eq_some_iff.1 hX).1
  have HX := Lib.hid ((hW.block _ hBl).trans hX)
  have hnW : n₀ ≤ W.heap.size := Nat.le_trans hn₀ hW.size
  have HENT := Lib.hid ((callsIn_wide (n := m - 1)).2 (hm_entries W s n L c (hv.kp (Kp.low (hW.mono hn₀) (fun g h => h))) hL hN (hT.below hW)))
  have HMS := Lib.hid hv.size
  have HJA := Lib.hid hA
  have HY := Lib.hid (hY (m - 1))
  have HNW := Lib.hid hnW
  have HN := Lib.hid hN
  clear hX hv hN hT hA hS hY hBl hnW hL
  refine callsIn_of_wp Tryd.func74 rfl trivial ?_ rfl
  simp only [Tryd.ntmps74, List.size_toArray, List.length_cons, List.length_nil, Nat.reduceAdd, Nat.reduceSub, Array.replicate_succ, Array.replicate_zero, List.push_toArray, List.append_toArray, List.nil_append, List.cons_append]
  gi_wp2_with (first
    | (refine ld_wide rfl 36 _ rfl Bs rfl 36 _ _ _ HX.out Tryd.underlying36 rfl (by rw [HMS.out]; exact map_size) ?_))
  refine ⟨trivial, fun h => absurd h (by simp [Fence.wide]), ?_⟩
  refine HENT.out.mono ?_
  rintro r w1 ⟨v, qs, rfl, hq, he, hl, hb, hsz⟩
  obtain ⟨a, cp, rfl, hl⟩ := hl
  obtain ⟨N, hNq⟩ : ∃ N, N = qs.length := ⟨_, rfl⟩
  have hNL : N = L.length := by rw [hNq, ← hq, List.length_map]
  rw [← hNq]
  have HJ1 := Lib.hid (HJA.out _ _ _ h0 hb)
  have HB1 := Lib.hid hb
  have HSZ := Lib.hid hsz
  have HLL := Lib.hid hl
  have HE := Lib.hid he
  have HQ := Lib.hid (And.intro hq (And.intro hNq hNL))
  have hN5 : (N : Int) ≤ 50000 := by have := HN.out; omega
  have HBN := Lib.hid (hb.mono HNW.out)
  clear h0 hb hsz hl he hq hNq hNL
  gi_wp2
  gi_loopw [8] (fun i wr => ∃ k : Nat, i = .int .i64 (k : Int) ∧ k ≤ N ∧ Hid (J (L.take k) wr) ∧ Hid (Below n₀ W wr) ∧ Hid (TK 106 w1 wr) ∧ Hid (W.heap.size + 2 ≤ wr.heap.size)) (fun i _ => N - (intOf i).toNat)
  case atStart => exact ⟨0, rfl, Nat.zero_le _, (by simpa using HJ1), HBN, TK.refl _ _, HSZ⟩
  case round =>
    obtain ⟨k, rfl, hk, HJK, HBK, HTK, HSK⟩ := hrel
    by_cases hlt : k < N
    · obtain ⟨hq, hNq, hNL⟩ := HQ.out
      obtain ⟨g, cur, rfl, hg, hcur, hcc⟩ := HLL.out (by omega)
      have hkq : k < qs.length := by omega
      have hkL : k < L.length := by omega
      have hLk : L[k] = qs[k].2 := by
        have e : (qs.map (·.2))[k]? = L[k]? := by rw [hq]
        rw [List.getElem?_map, List.getElem?_eq_getElem hkq, List.getElem?_eq_getElem hkL] at e
        exact (Option.some.inj e).symm
      obtain ⟨⟨hbn, hbW⟩, fr, hbl⟩ := HE.out _ (List.getElem_mem hkq)
      have hbr : wr.heap[qs[k].1]? = some (.cells (entC (hsN s n) qs[k].2) 110 fr) := (HBK.out.block _ hbn).trans ((HB1.out.block _ hbW).symm.trans hbl)
      have hcg : wr.cell? ⟨g, k, none⟩ = some (pv (some qs[k].1)) := cell_in (HTK.out _ _ _ hcur) (hcc k (by omega))
      have HTAKE := Lib.hid (List.take_succ_eq_append_getElem hkL)
      have HYK := Lib.hid (HY.out (L.take k) L[k] wr.drew (HJA.out _ _ _ HJK.out (drawn_below wr)) HSK.out (by rw [List.length_take]; omega))
      rw [hLk] at HYK HTAKE
      obtain ⟨⟨b, e⟩, hbe⟩ : ∃ q, q = qs[k] := ⟨_, rfl⟩
      rw [← hbe] at HYK HTAKE hbr hcg
      have ce0 : wr.drew.cell? ⟨b, 0, none⟩ = some (.string e.1) := cell_in hbr rfl
      have ce2 : wr.drew.cell? ⟨b, 2, none⟩ = some (.int .i64 e.2) := cell_in hbr rfl
      have HCE := Lib.hid (And.intro ce0 ce2)
      have hlt' : (k : Int) < N := by omega
      have HLT := Lib.hid hlt
      unfold pv at hcg
      clear hbe hbr hbl hbn hbW hLk hkq hkL hcur hcc hg hq hNq hNL ce0 ce2
      gi_wp2
      refine wpIn_region_W (S := fun V => V.cell? ⟨b, 0, none⟩ = some (.string e.1) ∧ V.cell? ⟨b, 2, none⟩ = some (.int .i64 e.2)) [9, 10] (by kernel_rfl) HCE.out (fun hHeld => ?_)
      refine wpAnyW_take (i := 0) (oi := ⟨some 12, _, _, _, _, _⟩) (v := ?v0) rfl (by kernel_rfl) (by kernel_rfl) (by kernel_rfl) (by kernel_rfl) (fun _ _ _ h => h) (Or.inl ⟨by rfl, ?h0⟩) (by assumption) ?r0
      case h0 => (intro w hSw; (try dsimp only at hSw); first | (go_simp; done) | (go_simp; with_reducible rfl))
      (try simp only [Act.put, List.setIfInBounds_toArray, List.set_cons_zero, List.set_cons_succ])
      refine wpAnyW_take (i := 1) (oi := ⟨some 13, _, _, _, _, _⟩) (v := ?v1) rfl (by kernel_rfl) (by kernel_rfl) (by kernel_rfl) (by kernel_rfl) (fun _ _ _ h => h) (Or.inl ⟨by rfl, ?h1⟩) (by assumption) ?r1
      case h1 => (intro w hSw; (try dsimp only at hSw); first | (go_simp; done) | (go_simp; with_reducible rfl))
      (try simp only [Act.put, List.setIfInBounds_toArray, List.set_cons_zero, List.set_cons_succ])
      refine wpAnyW_take (i := 2) (oi := ⟨some 14, _, _, _, _, _⟩) (v := ?v2) rfl (by kernel_rfl) (by kernel_rfl) (by kernel_rfl) (by kernel_rfl) (fun _ _ _ h => h) (Or.inl ⟨by rfl, ?h2⟩) (by assumption) ?r2
      case h2 => (intro w hSw; (try dsimp only at hSw); first | (go_simp; done) | (go_simp; with_reducible rfl))
      (try simp only [Act.put, List.setIfInBounds_toArray, List.set_cons_zero, List.set_cons_succ])
      refine wpAnyW_take (i := 3) (oi := ⟨some 15, _, _, _, _, _⟩) (v := ?v3) rfl (by kernel_rfl) (by kernel_rfl) (by kernel_rfl) (by kernel_rfl) (fun _ _ _ h => h) (Or.inl ⟨by rfl, ?h3⟩) (by assumption) ?r3
      case h3 => (intro w hSw; (try dsimp only at hSw); first | (go_simp; done) | (go_simp; with_reducible rfl))
      (try simp only [Act.put, List.setIfInBounds_toArray, List.set_cons_zero, List.set_cons_succ])
      refine wpAnyW_take (i := 4) (oi := ⟨some 16, _, _, _, _, _⟩) (v := ?v4) rfl (by kernel_rfl) (by kernel_rfl) (by kernel_rfl) (by kernel_rfl) (fun _ _ _ h => h) (Or.inl ⟨by rfl, ?h4⟩) (by assumption) ?r4
      case h4 => (intro w hSw; (try dsimp only at hSw); first | (go_simp; done) | (go_simp; with_reducible rfl))
      (try simp only [Act.put, List.setIfInBounds_toArray, List.set_cons_zero, List.set_cons_succ])
      refine wpAnyW_take (i := 5) (oi := ⟨some 17, _, _, _, _, _⟩) (v := ?v5) rfl (by kernel_rfl) (by kernel_rfl) (by kernel_rfl) (by kernel_rfl) (fun _ _ _ h => h) (Or.inl ⟨by rfl, ?h5⟩) (by assumption) ?r5
      case h5 => (intro w hSw; (try dsimp only at hSw); first | (go_simp; done) | (go_simp; with_reducible rfl))
      (try simp only [Act.put, List.setIfInBounds_toArray, List.set_cons_zero, List.set_cons_succ])
      refine wpAnyW_take (i := 6) (oi := ⟨some 18, _, _, _, _, _⟩) (v := ?v6) rfl (by kernel_rfl) (by kernel_rfl) (by kernel_rfl) (by kernel_rfl) (fun _ _ _ h => h) (Or.inl ⟨by rfl, ?h6⟩) (by assumption) ?r6
      case h6 => (intro w hSw; (try dsimp only at hSw); first | (go_simp; done) | (go_simp; with_reducible rfl))
      (try simp only [Act.put, List.setIfInBounds_toArray, List.set_cons_zero, List.set_cons_succ])
      refine wpAnyW_take (i := 7) (oi := ⟨some 19, _, _, _, _, _⟩) (v := ?v7) rfl (by kernel_rfl) (by kernel_rfl) (by kernel_rfl) (by kernel_rfl) (fun _ _ _ h => h) (Or.inl ⟨by rfl, ?h7⟩) (by assumption) ?r7
      case h7 => (intro w hSw; (try dsimp only at hSw); first | (go_simp; done) | (go_simp; with_reducible rfl))
      (try simp only [Act.put, List.setIfInBounds_toArray, List.set_cons_zero, List.set_cons_succ])
      refine wpAnyW_take (i := 8) (oi := ⟨some 20, _, _, _, _, _⟩) (v := ?v8) rfl (by kernel_rfl) (by kernel_rfl) (by kernel_rfl) (by kernel_rfl) (fun _ _ _ h => h) (Or.inl ⟨by rfl, ?h8⟩) (by assumption) ?r8
      case h8 => (intro w hSw; (try dsimp only at hSw); first | (go_simp; done) | (go_simp; with_reducible rfl))
      (try simp only [Act.put, List.setIfInBounds_toArray, List.set_cons_zero, List.set_cons_succ])
      obtain ⟨fn, tmps, assign, body, hy, hR⟩ := HYK.out
      unfold encM at hy
      (try dsimp only at hy)
      refine wpAnyW_last (i := 9) (o := ⟨some 21, _, _, _, _, _⟩) (by kernel_rfl) (by decide) rfl (fun K hK => ?_)
      rw [if_pos (by rfl)]
      go_simp
      refine ⟨fun h => absurd h (by simp [Fence.wide]), ?_⟩
      refine hR.mono ?_
      rintro e' W3 (⟨rfl, hJ3, hk3⟩ | ⟨rfl, hJx3⟩)
      · have HJ3 := Lib.hid hJ3
        have HK3 := Lib.hid hk3
        refine hK.out _ _ ?_
        clear hK K hR hy hJ3 hk3
        (try simp only [Act.put, List.setIfInBounds_toArray, List.set_cons_zero, List.set_cons_succ])
        refine wpAnyW_last (i := 10) (o := ⟨some 22, _, _, _, _, _⟩) (by kernel_rfl) (by decide) rfl (fun K hK => ?_)
        rw [if_pos (by rfl)]
        go_simp
        refine hK.out _ _ ?_
        clear hK K
        (try simp only [Act.put, List.setIfInBounds_toArray, List.set_cons_zero, List.set_cons_succ])
        refine wpAnyW_done (by kernel_rfl) ?_ _
        gi_wp2
        go_roundw
        case rel =>
          obtain ⟨h1, _, _, h4⟩ := HK3.out
          refine ⟨k + 1, by simp, by have := HLT.out; omega, ?_, HBK.out.trans (((drawn_below wr).mono (by have := HNW.out; have := HSK.out; omega)).trans h1), HTK.out.trans (fun i cs fr h => h4 i cs fr h), Nat.le_trans HSK.out h1.size⟩
          rw [HTAKE.out]
          exact HJ3
        case measure => have := HLT.out; simp [intOf]; omega
      · have HJ3 := Lib.hid hJx3
        refine hK.out _ _ ?_
        clear hK K hR hy hJx3
        (try simp only [Act.put, List.setIfInBounds_toArray, List.set_cons_zero, List.set_cons_succ])
        refine wpAnyW_last (i := 10) (o := ⟨some 22, _, _, _, _, _⟩) (by kernel_rfl) (by decide) rfl (fun K hK => ?_)
        rw [if_pos (by rfl)]
        go_simp
        refine hK.out _ _ ?_
        clear hK K
        (try simp only [Act.put, List.setIfInBounds_toArray, List.set_cons_zero, List.set_cons_succ])
        refine wpAnyW_done (by kernel_rfl) ?_ _
        gi_wp2
        refine bodyPost_ret (results_none rfl _ _ _) rfl ?_
        refine ⟨⟨_, rfl⟩, .inr ⟨_, ?_, HJ3.out⟩⟩
        rw [← HTAKE.out]
        exact List.take_prefix _ _
    · obtain rfl : k = N := by omega
      have e : L.take k = L := List.take_of_length_le (by have := HQ.out.2.2; omega)
      rw [e] at HJK
      clear e
      gi_wp2
      go_end0
      exact ⟨⟨_, rfl⟩, .inl ⟨_, rfl, HJK.out⟩⟩
/-- 'append(own, k)' where there is room: the list stays where it is. -/
theorem strs_fits {o : Oper} {a : Act} {K : Act → World → Prop} {Q : Exit → Act → World → Prop} {w : World} (s x : Operand)
    (ho : o.op = .call { callee := .builtin .append, args := #[s, x], argTypes := #[37, 37] })
    {B g n cap : Nat} {l : List ByteArray} (hs : a.eval s = .slice (some ⟨g, 0, none⟩) n cap) (hb : Strs B (.slice (some ⟨g, 0, none⟩) n cap) l w) (hn : n = l.length) (k : ByteArray) (ad : Addr) (c : Nat) (hx : a.eval x = .slice (some ad) 1 c)
    (hc : w.cell? ad = some (.string k)) (hroom : n + 1 ≤ cap)
    (h : ∀ w', Strs B (.slice (some ⟨g, 0, none⟩) (n + 1) cap) (l ++ [k]) w' → w.grownBy w' (some g) → K (a.put o.dst (.slice (some ⟨g, 0, none⟩) (n + 1) cap)) w') : o.wp Tryd.prog a w K Q := by
  subst hn
  obtain ⟨i, hi, hz, h1, h2⟩ := info_parts str_info
  obtain ⟨w', r1, r2, r3⟩ := run_append_fits (P := Tryd.prog) w B 37 o.type 9 i 1 Tryd.underlying37 hi h1 g l.length cap (en enS l) hb.1 ad 1 c (en enS [k]) (by rw [en_len enS_len]; rfl) (fun j u hu => by
    have hj : j = 0 := by
      have := (List.getElem?_eq_some_iff.1 hu).1
      rw [en_len enS_len] at this
      simpa using this
    subst hj
    rw [show ad.add 0 = ad from by simp [Addr.add], hc]
    simpa [en, enS] using hu) (en_one enS_one _) hroom
  unfold Oper.wp execOp
  simp only [ho, resolve, invoke, builtin, Sem.run_bind, Sem.run_pure, Result.andThen_ok, List.map_toArray, List.map_cons, List.map_nil, hs, hx, r1]
  exact h w' ⟨by rw [List.length_append, en_app]; exact r2, Nat.le_trans hb.2 r3.size⟩ r3
theorem Strs.alloc {B : Nat} {v : Value} {ks : List ByteArray} {w : World} (h : Strs B v ks w) (o : Obj) : Strs B v ks (w.alloc o) := h.later ((Below.refl _ _).alloc (Nat.le_refl _) o)
theorem strs_new_lt {B g n : Nat} {w : World} (h : Strs B (.slice (some ⟨g, 0, none⟩) 0 n) [] w) : g < w.heap.size ∧ B ≤ g := by
  obtain ⟨⟨_, h2⟩, _⟩ := h
  rcases h2 with ⟨e, _⟩ | ⟨g', cap, cur, e, hB, hg, _⟩
  · cases e
  · simp only [Value.slice.injEq, Option.some.injEq, Addr.mk.injEq] at e
    obtain ⟨⟨rfl, _⟩, _⟩ := e
    exact ⟨(Array.getElem?_eq_some_iff.1 hg).1, hB⟩
set_option maxHeartbeats 4000000 in
theorem hm_Keys {S : Nat → Prop} (w : World) (s : Nat) (n : Int) (L : List Ent) (c : Array Value) (h : MapAt S w s n L c) (hL : Rise L) (hN : L.length ≤ 50000) (hT : Tab6 w) :
    Calls Tryd.prog 45 #[.agg c] w fun e W' => ∃ v, e = .returned v ∧ Strs w.heap.size v (keysE L) W' ∧ Below w.heap.size w W' := by
  have HV := Lib.hid h
  have HS := Lib.hid h.size
  obtain ⟨N, hNL⟩ : ∃ N, N = L.length := ⟨_, rfl⟩
  have HNL := Lib.hid hNL
  have hn6 : N ≤ 50000 := by omega
  have HRL := Lib.hid hL
  have HTT := Lib.hid hT
  obtain ⟨bb, a1, n1, c1, a2, n2, c2, hc, _⟩ := h
  have HC := Lib.hid hc
  clear hL hT hN
  refine (callsIn_wide (n := 5)).1 ?_
  refine callsIn_of_wp_marks Tryd.func45 rfl trivial ?_ rfl
  refine wpIn_wide.2 ?_
  simp only [Tryd.ntmps45, List.size_toArray, List.length_cons, List.length_nil, Nat.reduceAdd, Nat.reduceSub, Array.replicate_succ, Array.replicate_zero, List.push_toArray, List.append_toArray, List.nil_append, List.cons_append]
  have HALL := Lib.hid (fun w => callsIn_wide.1 (hm_All_in 5 c w))
  obtain ⟨w1, hw1⟩ : ∃ w1, w.alloc (.cells c 36) = w1 := ⟨_, rfl⟩
  obtain ⟨hb1, hx1, hs1⟩ := new_below hw1
  have c2' : w1.cell? ⟨w.heap.size, 2, none⟩ = some (.int .i64 (N : Int)) := by rw [hNL]; exact cell_in hx1 (by rw [hc]; rfl)
  have HB1 := Lib.hid hb1
  have HX1 := Lib.hid hx1
  have HZ1 := Lib.hid hs1
  clear hb1 hx1 hs1 hc hNL
  go_upto_region 2 with (first
    | (refine strs_make (B := w.heap.size) rfl _ _ rfl .i64 .i64 _ N rfl rfl rfl (by omega) (by have := HZ1.out; omega) ?_; intro w4 hi4 hb4; have HI4 := Lib.hid hi4; have HB4 := Lib.hid hb4; have HX4 := Lib.hid ((hb4.block _ (Array.getElem?_eq_some_iff.1 HX1.out).1).trans HX1.out); clear hi4 hb4))
  have HX5 := Lib.hid (((Below.newly' w4 (.cells #[.slice (some ⟨w1.heap.size, 0, none⟩) 0 N] 37)).block _ (Array.getElem?_eq_some_iff.1 HX4.out).1).trans HX4.out)
  go_wp2_with (first
    | (refine ld_if rfl 36 _ rfl w.heap.size rfl 36 _ _ _ HX5.out Tryd.underlying36 rfl (by rw [HS.out]; exact map_size) ?_)
    | (go_at_call 56; refine (HALL.out _).mono ?_; rintro e w' ⟨rfl, rfl⟩))
  obtain ⟨X, hX⟩ : ∃ X, X = w4.heap.size := ⟨_, rfl⟩
  obtain ⟨G, hG⟩ : ∃ G, G = w1.heap.size := ⟨_, rfl⟩
  obtain ⟨W0, hW0⟩ : ∃ W0, W0 = (w4.alloc (.cells #[.slice (some ⟨w1.heap.size, 0, none⟩) 0 N] 37)).alloc (.cells c 36) := ⟨_, rfl⟩
  have hz1 := HZ1.out
  have hb4 := HB4.out
  obtain ⟨hg4, hgB⟩ := strs_new_lt HI4.out
  rw [← hG] at hg4 hgB
  have hw4 : Below w.heap.size w w4 := HB1.out.trans (hb4.mono (by omega))
  have hb0 : Below w4.heap.size w4 W0 := by rw [hW0]; exact Below.more (Below.newly' _ _) _
  have hB0 : Below w.heap.size w W0 := hw4.trans (hb0.mono (by omega))
  have hL0 : Boxed W0 X 37 (.slice (some ⟨G, 0, none⟩) 0 N) := by
    show _ = _
    rw [hW0, hX, hG]
    exact ((Below.newly' _ _).block _ (by simp)).trans (heap_alloc_last w4 _)
  have hA0 : W0.heap[X + 1]? = some (.cells c 36 (0, 0)) := by
    have h := heap_alloc_last (w4.alloc (.cells #[.slice (some ⟨w1.heap.size, 0, none⟩) 0 N] 37)) (.cells c 36)
    rw [World.size_alloc, ← hX] at h
    rw [hW0]
    exact h
  have hI0 : Strs w.heap.size (.slice (some ⟨G, 0, none⟩) 0 N) [] W0 := by rw [hG]; exact HI4.out.later hb0
  have hsz0 : W0.heap.size = X + 2 := by rw [hW0, hX]; simp
  have hv0 : MapAt (fun g => g < w.heap.size) W0 s n L c := (HV.out.old.weak (fun g hg => hg.2)).kp (Kp.low hB0 (fun g h => h))
  have hT0 : Tab6 W0 := HTT.out.below hB0
  have hGX : G < X := by omega
  have hwG : w.heap.size < G := by omega
  rw [← hW0, ← hX, ← hG]
  clear HB1 HX1 HZ1 HX4 HX5 HB4 HI4 hz1 hb4 hg4 hw4 hb0 hW0 hX hG hw1 c2' HC
  refine (wpIn_wide (n := 5)).1 ?_
  refine wpIn_range_state (n₀ := w.heap.size) (by omega) (gf := 74) (lb := #[.pointer (some ⟨X + 1, 0, none⟩)]) rfl (enters_of Tryd.func74 (by kernel_rfl) rfl)
    (hm_all1 (X + 1) w.heap.size s n L c W0 (by omega) hA0 hv0 HRL.out (by rw [← HNL.out]; exact hn6) hT0) (fun _ => rfl)
    (fun (pre : List Ent) V => (Boxed V X 37 (.slice (some ⟨G, 0, none⟩) pre.length N) ∧ Strs w.heap.size (.slice (some ⟨G, 0, none⟩) pre.length N) (keysE pre) V) ∧ Below w.heap.size w V)
    (fun _ _ _ => False)
    (OwnFrom.and (Own.from (fun s A B row hs hg' hr => ⟨bx_kept hs.1 hg' hr, strs_kept hs.2 hg' hr⟩) _) (ownFrom_below (Nat.le_refl _) (by omega)))
    (fun _ _ _ _ _ hs _ _ => hs)
    (fun s A v ⟨⟨h1, h2⟩, h3⟩ _ => ⟨⟨h1.other (by omega) _, h2.grown (grownBy_setCell' A (W0.heap.size + 3) v) (.inr (by simp [Value.ownBlock]; omega))⟩, h3.setCell (p := ⟨W0.heap.size + 3, 0, none⟩) (by show w.heap.size ≤ W0.heap.size + 3; omega) _⟩)
    ⟨⟨hL0, hI0⟩, hB0⟩
    (fun x => { tmps := #[.agg c, .pointer (some ⟨w.heap.size, 0, none⟩), .slice none 0 0, .pointer (some ⟨X, 0, none⟩), .string x.1, .pointer (some ⟨w.heap.size, 2, none⟩), .int .i64 (N : Int), .slice (some ⟨G, 0, none⟩) 0 N, .agg c, (.func (.func 74) #[] #[.pointer (some ⟨X + 1, 0, none⟩)]), .string x.1, .int .i64 x.2, undef, undef, undef, undef, undef], defers := [] }) ?assign ?body ?done ?stop
  case assign =>
    intro l x W K hK
    gi_wp2
    exact hK
  case body =>
    rintro l pre x V hVs ⟨⟨hL, hI⟩, hBV⟩ hpl
    have cL := hL.cell
    have HLV := Lib.hid hL
    have HBV := Lib.hid hBV
    have HI2 := Lib.hid (hI.alloc (.cells #[.string x.1] 9))
    have HRM : Hid (pre.length + 1 ≤ N) := by show _ ≤ _; rw [HNL.out]; omega
    have HVS := Lib.hid hVs
    clear hI hL hVs
    gi_wp2_with (first
      | (refine list_in rfl (fun c' hc => by cases hc) fun K hK => ?_
         refine strs_fits _ _ rfl rfl HI2.out (by rw [keysE_len]) x.1 ⟨V.heap.size, 0, none⟩ 1 rfl (cell_in (heap_alloc_last V _) rfl) HRM.out ?_
         intro w6 hi6 hg6
         have hL6 : Boxed w6 X 37 (.slice (some ⟨G, 0, none⟩) pre.length N) := by
           have hl : Boxed (V.alloc (.cells #[.string x.1] 9)) X 37 (.slice (some ⟨G, 0, none⟩) pre.length N) := ((Below.newly' V _).block _ HLV.out.lt).trans HLV.out
           exact hl.kept hg6 (by simp; omega)
         have cL6 := hL6.cell
         have fL6 := hL6.frozen
         have HI6 := Lib.hid hi6
         have HL6 := Lib.hid hL6
         have HG6 := Lib.hid hg6
         clear hi6 hL6 hg6
         refine hK _ _ ?_))
    have hvs := HVS.out
    have hgs := grownBy_setCell' w6 X (.slice (some ⟨G, 0, none⟩) (pre.length + 1) N)
    have hsa := Below.newly' V (.cells #[.string x.1] 9)
    have hb6 : Below w.heap.size V w6 := (hsa.mono HBV.out.size).grown HG6.out (by have := HBV.out.size; simp; omega) (fun k e => by cases e; omega)
    have hbs : Below w.heap.size V (w6.setCell ⟨X, 0, none⟩ (.slice (some ⟨G, 0, none⟩) (pre.length + 1) N)) := hb6.setCell (p := ⟨X, 0, none⟩) (by show w.heap.size ≤ X; omega) _
    have hkeep : ∀ k, k < V.heap.size → k ≠ G → k ≠ X → (w6.setCell ⟨X, 0, none⟩ (.slice (some ⟨G, 0, none⟩) (pre.length + 1) N)).heap[k]? = V.heap[k]? := fun k hk h1 h2 =>
      (heap_setCell_other _ _ _ _ h2).trans ((HG6.out.block k (by simp; omega) (by simpa using h1)).trans (hsa.block k hk))
    have hGc : ∃ cur, V.heap[G]? = some (.cells cur 9 (0, 0)) := by
      obtain ⟨⟨_, h2⟩, _⟩ := HI2.out
      rcases h2 with ⟨e, _⟩ | ⟨g, cap, cur, e, hB, hg, _⟩
      · cases e
      · simp only [Value.slice.injEq, Option.some.injEq, Addr.mk.injEq] at e
        rw [← e.1.1] at hg
        exact ⟨cur, (hsa.block G (by omega)).symm.trans hg⟩
    refine ⟨⟨hbs.size, fun k o hk ho hc => ?_⟩, ⟨hbs, hkeep _ (by omega) (by omega) (by omega), hkeep _ (by omega) (by omega) (by omega), fun k cs fr hk => ?_⟩, ⟨?_, ?_⟩, HBV.out.trans hbs⟩
    · rw [hkeep k (Array.getElem?_eq_some_iff.1 ho).1 (by omega) (by omega)]
      exact ho
    · refine (hkeep k (Array.getElem?_eq_some_iff.1 hk).1 (fun e => ?_) (fun e => ?_)).trans hk
      · obtain ⟨cur, hcur⟩ := hGc
        rw [e, hcur] at hk
        simp only [Option.some.injEq, Obj.cells.injEq] at hk
        exact absurd hk.2.1 (by decide)
      · rw [e, show V.heap[X]? = _ from HLV.out] at hk
        simp only [Option.some.injEq, Obj.cells.injEq] at hk
        exact absurd hk.2.1 (by decide)
    · rw [List.length_append, List.length_singleton]
      exact HL6.out.set _
    · rw [List.length_append, List.length_singleton, show keysE (pre ++ [x]) = keysE pre ++ [x.1] from by simp [keysE]]
      exact HI6.out.grown hgs (.inr (by simp [Value.ownBlock]; omega))
  case done =>
    rintro ys V rfl ⟨⟨hL, hI⟩, hBV⟩ hK
    have cL := hL.cell
    have HI := Lib.hid hI
    have HBV := Lib.hid hBV
    have HK := Lib.hid hK
    clear hL hI hBV hK
    go_wp2_with fail
    have hgp := grownBy_putObj' V W0.heap.size (.deferred none)
    exact ⟨by simp [Act.put], .inl ⟨_, _, rfl, run_takeDeferred HK.out, .slice (some ⟨G, 0, none⟩) ys.length N, by simp [results, Tryd.f45, go_sem], _, rfl,
      strs_kept HI.out hgp (fun r e => by cases e; exact ⟨_, HK.out, rfl⟩), HBV.out.trans (belowK_b (w := w) (Nat.le_refl _) _ W0.heap.size _ _ (by omega) HK.out rfl rfl)⟩⟩
  case stop =>
    rintro c pre V _ h _
    exact h.elim
end Go.Proofs.YtnnlfgfgfegjkaaDoor
