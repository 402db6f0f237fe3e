/- Layer 9's laws: maps and the document's; what is done; few, does, should, same. (written by tools/gen09/law9a.py) -/
import Derived.Test.YtlngjabjeodkpaaDoorHm18
import Derived.Test.YtlngjabjeodkpaaDoorRef09B
namespace Go.Proofs.YtlngjabjeodkpaaDoor
open Go.RowKit
set_option maxRecDepth 1000000
set_option linter.unusedSimpArgs false

/-- A map of these keys. -/
def ML (w : World) (s : Nat) (n : Int) (L : List Ent) (c : Array Value) : Prop := MapAt (fun _ => True) w s n L c
section
variable {w w' : World} {s : Nat} {n : Int} {L : List Ent} {c : Array Value}
theorem ML.later (h : ML w s n L c) (hb : Below w.heap.size w w') : ML w' s n L c := MapAt.later h hb
theorem ML.but {X : Nat} {cs : Array Value} {T : TypeId} {fr : Nat × Nat} (h : ML w s n L c) (k : Only X w w') (hX : w.heap[X]? = some (.cells cs T fr)) (hT : ¬ (T = 68 ∨ T = 34 ∨ T = 80 ∨ T = 66)) : ML w' s n L c := MapAt.kp h (Kp.onlyT k hX hT)
theorem ML.kept {row : Option Nat} {T : TypeId} (h : ML w s n L c) (hg : w.grownBy w' row) (hX : ∀ X, row = some X → ∃ cs fr, w.heap[X]? = some (.cells cs T fr)) (hT : ¬ (T = 68 ∨ T = 34 ∨ T = 80 ∨ T = 66)) : ML w' s n L c := MapAt.kp h (Kp.grownT hg hX hT)
theorem ML.size (h : ML w s n L c) : c.size = 6 := MapAt.size h
theorem ML.one (h : ML w s n L c) : c.all (·.oneCell') = true := MapAt.one h
theorem MapAt.ml {S : Nat → Prop} (h : MapAt S w s n L c) : ML w s n L c := MapAt.weak h fun _ _ => trivial
end
/-- The two tables that maps lean on. -/
def Tabs (w : World) : Prop := Tab6 w ∧ Tab w
theorem Tabs.later {w w' : World} (h : Tabs w) (hb : Below w.heap.size w w') : Tabs w' := ⟨h.1.below hb, h.2.below hb⟩

/-- What is done: Key, X, Cut. -/
abbrev op9C (o : Op9) : Array Value := #[.string o.1, .int .i64 o.2.1, .bool o.2.2]
def Op9In (W : World) (b o : Nat) (x : Op9) : Prop := W.rangeAt b o (op9C x).toList
theorem Op9In.later {W W' : World} {b o : Nat} {x : Op9} (h : Op9In W b o x) (hb : Below W.heap.size W W') : Op9In W' b o x :=
  fun j v hv => (hb.cell (World.block_lt_of_cell? W _ (h j v hv))).trans (h j v hv)
/-- v is a list that reads as these. -/
def Ops9 (w : World) (v : Value) (l : List Op9) : Prop :=
  ∃ (a : Option Addr) (cap b o : Nat), v = .slice a l.length cap ∧ (0 < l.length → a = some ⟨b, o, none⟩) ∧ (∀ j (h : j < l.length), Op9In w b (o + j * 3) l[j]) ∧ l.length ≤ maxLen
theorem Ops9.later {w w' : World} {v : Value} {l : List Op9} (h : Ops9 w v l) (hb : Below w.heap.size w w') : Ops9 w' v l := by
  obtain ⟨a, cap, b, o, h1, h2, h3, h4⟩ := h
  exact ⟨a, cap, b, o, h1, h2, fun j hj => (h3 j hj).later hb, h4⟩
theorem op9_size : (Tryd.prog.info? 43).map (·.size) = some 3 := by kernel_rfl
theorem ld_op9 {ops : Array Oper} {rest : List Oper} {o : Oper} {a : Act} {w : World} {Q : Exit → Act → World → Prop} (hwd : Region.wanted o (yielded ops a.tmps) = true) (y : Operand) (ho : o.op = .load 43 y)
    (b k : Nat) (hx : a.eval y = .pointer (some ⟨b, k, none⟩)) (x : Op9) (hR : Op9In w b k x)
    (h : wpList Tryd.prog ops Q rest (a.put o.dst (.agg (op9C x))) w) : wpList Tryd.prog ops Q (o :: rest) a w :=
  wpList_step fun _ hK => by
    rw [if_pos hwd]
    exact wp_load_mid 43 y ho b k hx _ _ hR Tryd.underlying43 rfl op9_size (hK _ _ h)
/-- Are these few operations, of short keys? -/
def few9B (l : List Op9) : Bool := decide ((∀ o ∈ l, o.1.size ≤ 200) ∧ l.length ≤ 120)
theorem few9_ops {l : List Op9} (h : few9B l = true) : (∀ o ∈ l, o.1.size ≤ 200) ∧ l.length ≤ 120 := by
  unfold few9B at h
  simpa using h
set_option maxHeartbeats 2000000 in
theorem few9 (v : Value) (l : List Op9) (w : World) (hl : Ops9 w v l) : Calls Tryd.prog 8 #[v] w fun e w' => e = .returned (.bool (few9B l)) ∧ Below w.heap.size w w' := by
  obtain ⟨ad, cap, bb, oo, rfl, h1, h2, hmax⟩ := hl
  have HLO := Lib.hid h1
  have HLC := Lib.hid h2
  have hm63 : (l.length : Int) ≤ 9223372036854775807 := by unfold maxLen at hmax; omega
  obtain ⟨B, hB⟩ : ∃ B, B = few9B l := ⟨_, rfl⟩
  rw [← hB]
  have HFB := Lib.hid hB
  clear h1 h2 hmax hB
  go_enter Tryd.func8, Tryd.ntmps8
  go_wp2_with fail
  go_loopw [7] (fun i wl => ∃ n : Nat, n ≤ l.length ∧ i = .int .i64 (n : Int) ∧ Hid (∀ o ∈ l.take n, o.1.size ≤ 200) ∧ Below w.heap.size w wl) (fun i _ => l.length - (intOf i).toNat)
  case atStart => exact ⟨0, Nat.zero_le _, rfl, (by simp : ∀ o ∈ l.take 0, o.1.size ≤ 200), Below.refl _ _⟩
  case round =>
    obtain ⟨n, hn, rfl, HT, hb⟩ := hrel
    have HB := Lib.hid hb
    by_cases hlt : n < l.length
    · have hlt' : (n : Int) < (l.length : Int) := by omega
      have i0 : (0 : Int) ≤ (n : Int) := by omega
      have had : ad = some ⟨bb, oo, none⟩ := HLO.out (by omega)
      subst had
      have HR := Lib.hid ((HLC.out n hlt).later hb)
      have HMEM := Lib.hid (List.getElem_mem hlt)
      have HTK := Lib.hid (List.take_succ_eq_append_getElem hlt)
      obtain ⟨x, hx⟩ : ∃ x, x = l[n] := ⟨_, rfl⟩
      rw [← hx] at HR HMEM HTK
      obtain ⟨x1, x2, x3⟩ := x
      have HN := Lib.hid (fun (m : Nat) => (show Below w.heap.size w (wr.alloc (.cells (op9C (x1, x2, x3)) 43)) from Below.alloc HB.out HB.out.size _))
      clear hx hb
      by_cases h15 : (200 : Int) < (x1.size : Int)
      · have hf : few9B l = false := by
          unfold few9B
          rw [decide_eq_false_iff_not]
          intro h
          have := h.1 _ HMEM.out
          simp only at this
          omega
        obtain rfl : B = false := by rw [HFB.out, hf]
        clear hf
        go_wp2_with (refine ld_op9 rfl _ rfl bb (oo + n * 3) rfl (x1, x2, x3) HR.out ?_)
        go_ret
        exact ⟨rfl, HN.out 0⟩
      · go_wp2_with (refine ld_op9 rfl _ rfl bb (oo + n * 3) rfl (x1, x2, x3) HR.out ?_)
        go_roundw
        case rel =>
          refine ⟨n + 1, by omega, by go_num, ?_, HN.out 0⟩
          show ∀ o ∈ l.take (n + 1), o.1.size ≤ 200
          intro o ho
          rw [HTK.out, List.mem_append, List.mem_singleton] at ho
          rcases ho with ho | rfl
          · exact HT.out o ho
          · show x1.size ≤ 200; omega
        case measure => simp [intOf]; omega
    · obtain rfl : n = l.length := by omega
      have HFE : Hid (few9B l = decide ((l.length : Int) ≤ 120)) := by
        show _ = _
        have h := HT.out
        rw [List.take_length] at h
        unfold few9B
        rw [decide_eq_decide]
        exact ⟨fun a => by omega, fun a => ⟨h, by omega⟩⟩
      obtain rfl : B = decide ((l.length : Int) ≤ 120) := by rw [HFB.out, HFE.out]
      go_wp2_with fail
      go_ret
      exact ⟨rfl, HB.out⟩
set_option maxHeartbeats 4000000 in
theorem does9 (w : World) (s : Nat) (hss : s < 18446744073709551616) (n : Int) (L : List Ent) (c : Array Value) (o : Op9) (h : ML w s n L c) (hL : Rise L)  (hn : L.length ≤ 40000) (hk : o.1.size ≤ 200) (hT : Tab6 w) :
    Calls Tryd.prog 10 #[.agg c, .agg (op9C o)] w fun e w' => ∃ c', e = .returned (.agg c') ∧ ML w' s n (doE L o) c' ∧ Below w.heap.size w w' := by
  obtain ⟨k, x, q⟩ := o
  simp only at hk
  obtain ⟨w1, hw1⟩ : ∃ w1, ((w.alloc (.cells c 36)).alloc (.cells (op9C (k, x, q)) 43)).alloc (.cells #[.int .u64 0, .int .i64 0, .int .i64 0, .int .u32 0, .slice none 0 0, .slice none 0 0] 36) = w1 := ⟨_, rfl⟩
  obtain ⟨hb1, hx1, hy1, hz1, hs1⟩ := three_newG hw1
  have c0 : w1.cell? ⟨w.heap.size + 1, 0, none⟩ = some (.string k) := cell_in hy1 rfl
  have c1 : w1.cell? ⟨w.heap.size + 1, 1, none⟩ = some (.int .i64 x) := cell_in hy1 rfl
  have c2 : w1.cell? ⟨w.heap.size + 1, 2, none⟩ = some (.bool q) := cell_in hy1 rfl
  have HCUT := Lib.hid (hm_Cut w1 s hss n L c k (by omega) (h.later hb1) hL (Nat.le_trans hn (by omega)) (hT.below hb1))
  have HSET := Lib.hid (hm_Set w1 s hss n L c k x (by omega) (h.later hb1) hL (Nat.le_trans hn (by omega)) (hT.below hb1))
  have HSZ := Lib.hid h.size
  have HX1 := Lib.hid hx1
  have HZ1 := Lib.hid hz1
  have HB1 := Lib.hid hb1
  have HS1 := Lib.hid hs1
  clear h hL hn hk hT hx1 hy1 hz1 hb1 hs1
  cases q with
  | true =>
    have HR := Lib.hid (show doE L (k, x, true) = delE L k from rfl)
    go_enter Tryd.func10, Tryd.ntmps10
    go_wp2_with (first
      | (refine ld_if (by rfl) 36 _ rfl w.heap.size rfl 36 _ _ _ HX1.out Tryd.underlying36 rfl (by rw [HSZ.out]; exact map_size) ?_)
      | (go_at_call 18; (with_reducible refine HCUT.out.mono ?_); rintro e w2 ⟨c2, rfl, hr2, hb2⟩; have HR2 := Lib.hid hr2.ml; have HZ2 := Lib.hid ((hb2.block _ (by rw [HS1.out]; omega)).trans HZ1.out); have HB2 := Lib.hid (HB1.out.trans (hb2.mono HB1.out.size)); have HO2 := Lib.hid hr2.one; have HL2 := Lib.hid hr2.size; clear hr2 hb2)
      | (refine st_agg rfl 36 _ _ rfl (w.heap.size + 1 + 1) c2 rfl rfl 36 _ HZ2.out (by rw [HL2.out]; exact map_size) (by rw [HL2.out]; rfl) HO2.out ?_; intro w3 h3 k3))
    exact bodyPost_ret (results_cell_row rfl _ _ (w.heap.size + 1 + 1) 36 _ (0, 0) _ rfl h3 Tryd.underlying36 rfl (by rw [HL2.out]; exact map_size)) rfl ⟨c2, rfl, by rw [HR.out]; exact HR2.out.but k3 HZ2.out (by decide), HB2.out.trans (k3.below (by omega))⟩
  | false =>
    have HR := Lib.hid (show doE L (k, x, false) = insE L k x from rfl)
    go_enter Tryd.func10, Tryd.ntmps10
    go_wp2_with (first
      | (refine ld_if (by rfl) 36 _ rfl w.heap.size rfl 36 _ _ _ HX1.out Tryd.underlying36 rfl (by rw [HSZ.out]; exact map_size) ?_)
      | (go_at_call 16; (with_reducible refine HSET.out.mono ?_); rintro e w2 ⟨c2, rfl, hr2, hb2⟩; have HR2 := Lib.hid hr2.ml; have HZ2 := Lib.hid ((hb2.block _ (by rw [HS1.out]; omega)).trans HZ1.out); have HB2 := Lib.hid (HB1.out.trans (hb2.mono HB1.out.size)); have HO2 := Lib.hid hr2.one; have HL2 := Lib.hid hr2.size; clear hr2 hb2)
      | (refine st_agg rfl 36 _ _ rfl (w.heap.size + 1 + 1) c2 rfl rfl 36 _ HZ2.out (by rw [HL2.out]; exact map_size) (by rw [HL2.out]; rfl) HO2.out ?_; intro w3 h3 k3))
    exact bodyPost_ret (results_cell_row rfl _ _ (w.heap.size + 1 + 1) 36 _ (0, 0) _ rfl h3 Tryd.underlying36 rfl (by rw [HL2.out]; exact map_size)) rfl ⟨c2, rfl, by rw [HR.out]; exact HR2.out.but k3 HZ2.out (by decide), HB2.out.trans (k3.below (by omega))⟩
set_option maxHeartbeats 4000000 in
theorem should9 (w : World)  (L : List Ent) (c : Array Value) (o : Op9) (h : RefM w c L) (hL : Rise L) (hS : Short L) (hn : L.length ≤ 40000) (hk : o.1.size ≤ 200) :
    Calls Tryd.prog 11 #[.agg c, .agg (op9C o)] w fun e w' => ∃ c', e = .returned (.agg c') ∧ RefM w' c' (doE L o) ∧ Below w.heap.size w w' := by
  obtain ⟨k, x, q⟩ := o
  simp only at hk
  obtain ⟨w1, hw1⟩ : ∃ w1, ((w.alloc (.cells c 41)).alloc (.cells (op9C (k, x, q)) 43)).alloc (.cells #[.slice none 0 0, .slice none 0 0] 41) = w1 := ⟨_, rfl⟩
  obtain ⟨hb1, hx1, hy1, hz1, hs1⟩ := three_newG hw1
  have c0 : w1.cell? ⟨w.heap.size + 1, 0, none⟩ = some (.string k) := cell_in hy1 rfl
  have c1 : w1.cell? ⟨w.heap.size + 1, 1, none⟩ = some (.int .i64 x) := cell_in hy1 rfl
  have c2 : w1.cell? ⟨w.heap.size + 1, 2, none⟩ = some (.bool q) := cell_in hy1 rfl
  have HCUT := Lib.hid (ref_Cut9 w1 c L k (h.later hb1) (Nat.le_trans hn (by omega)))
  have HSET := Lib.hid (ref_Set9 w1 c L k x (h.later hb1) hL hS (Nat.le_trans hn (by omega)))
  have HSZ := Lib.hid h.size
  have HX1 := Lib.hid hx1
  have HZ1 := Lib.hid hz1
  have HB1 := Lib.hid hb1
  have HS1 := Lib.hid hs1
  clear h hL hn hk hx1 hy1 hz1 hb1 hs1 hS
  cases q with
  | true =>
    have HR := Lib.hid (show doE L (k, x, true) = delE L k from rfl)
    go_enter Tryd.func11, Tryd.ntmps11
    go_wp2_with (first
      | (refine ld_if (by rfl) 41 _ rfl w.heap.size rfl 41 _ _ _ HX1.out Tryd.underlying41 rfl (by rw [HSZ.out]; exact refm_size) ?_)
      | (go_at_call 21; (with_reducible refine HCUT.out.mono ?_); rintro e w2 ⟨c2, rfl, hr2, hb2⟩; have HR2 := Lib.hid hr2; have HZ2 := Lib.hid ((hb2.block _ (by rw [HS1.out]; omega)).trans HZ1.out); have HB2 := Lib.hid (HB1.out.trans (hb2.mono HB1.out.size)); have HO2 := Lib.hid hr2.one; have HL2 := Lib.hid hr2.size; clear hr2 hb2)
      | (refine st_agg rfl 41 _ _ rfl (w.heap.size + 1 + 1) c2 rfl rfl 41 _ HZ2.out (by rw [HL2.out]; exact refm_size) (by rw [HL2.out]; rfl) HO2.out ?_; intro w3 h3 k3))
    exact bodyPost_ret (results_cell_row rfl _ _ (w.heap.size + 1 + 1) 41 _ (0, 0) _ rfl h3 Tryd.underlying41 rfl (by rw [HL2.out]; exact refm_size)) rfl ⟨c2, rfl, by rw [HR.out]; exact HR2.out.but k3 HZ2.out (by decide) (by decide), HB2.out.trans (k3.below (by omega))⟩
  | false =>
    have HR := Lib.hid (show doE L (k, x, false) = insE L k x from rfl)
    go_enter Tryd.func11, Tryd.ntmps11
    go_wp2_with (first
      | (refine ld_if (by rfl) 41 _ rfl w.heap.size rfl 41 _ _ _ HX1.out Tryd.underlying41 rfl (by rw [HSZ.out]; exact refm_size) ?_)
      | (go_at_call 22; (with_reducible refine HSET.out.mono ?_); rintro e w2 ⟨c2, rfl, hr2, hb2⟩; have HR2 := Lib.hid hr2; have HZ2 := Lib.hid ((hb2.block _ (by rw [HS1.out]; omega)).trans HZ1.out); have HB2 := Lib.hid (HB1.out.trans (hb2.mono HB1.out.size)); have HO2 := Lib.hid hr2.one; have HL2 := Lib.hid hr2.size; clear hr2 hb2)
      | (refine st_agg rfl 41 _ _ rfl (w.heap.size + 1 + 1) c2 rfl rfl 41 _ HZ2.out (by rw [HL2.out]; exact refm_size) (by rw [HL2.out]; rfl) HO2.out ?_; intro w3 h3 k3))
    exact bodyPost_ret (results_cell_row rfl _ _ (w.heap.size + 1 + 1) 41 _ (0, 0) _ rfl h3 Tryd.underlying41 rfl (by rw [HL2.out]; exact refm_size)) rfl ⟨c2, rfl, by rw [HR.out]; exact HR2.out.but k3 HZ2.out (by decide) (by decide), HB2.out.trans (k3.below (by omega))⟩
set_option maxHeartbeats 4000000 in
theorem same9 (w : World) (s : Nat) (hss : s < 18446744073709551616) (n : Int) (L : List Ent) (c cw : Array Value) (h : ML w s n L c) (hr : RefM w cw L) (hL : Rise L) (hS : Short L) (hn : L.length ≤ 40000) (hT : Tab6 w) :
    Calls Tryd.prog 12 #[.agg c, .agg cw] w fun e w' => e = .returned (.bool true) ∧ Below w.heap.size w w' := by
  obtain ⟨kv, xv, rfl, hk, hx⟩ := hr
  have HLS := Lib.hid hk
  have HLI := Lib.hid hx
  obtain ⟨a1, c1, rfl, _⟩ := hk.shape
  obtain ⟨a2, c2, rfl, _⟩ := hx.shape
  rw [keysE_len, valsE_len] at *
  obtain ⟨N, hN⟩ : ∃ N, N = L.length := ⟨_, rfl⟩
  rw [← hN] at HLS HLI ⊢
  obtain ⟨w1, hw1⟩ : ∃ w1, (w.alloc (.cells c 36)).alloc (.cells #[.slice a1 N c1, .slice a2 N c2] 41) = w1 := ⟨_, rfl⟩
  obtain ⟨hb1, hx1, hy1, hs1⟩ := two_newG hw1
  have HLEN : Hid (∀ W, Calls Tryd.prog 19 #[.agg c] W fun r w' => r = .returned (.int .i64 (N : Int)) ∧ Below W.heap.size W w') := fun W => by
    obtain ⟨bb, p1, q1, r1, p2, q2, r2, e, _⟩ := h
    rw [e, ← hN]
    exact hm_Len W s n N bb p1 q1 r1 p2 q2 r2
  have HKEYS := Lib.hid (fun W (hb : Below w.heap.size w W) => hm_Keys W s n L c (h.later hb) hL (Nat.le_trans hn (by omega)) (hT.below hb))
  have HGET := Lib.hid (fun W (hb : Below w.heap.size w W) k hk => hm_Get W s hss n L c k hk (h.later hb) hL (Nat.le_trans hn (by omega)))
  have HSZ := Lib.hid h.size
  have HX1 := Lib.hid hx1
  have HY1 := Lib.hid hy1
  have HB1 := Lib.hid hb1
  have HS1 := Lib.hid hs1
  have HN := Lib.hid (And.intro hN hn)
  have HSH := Lib.hid (And.intro hL hS)
  have hn6 : (N : Int) ≤ 40000 := by omega
  have HKS : Hid (∀ V, Below w1.heap.size w1 V → V.heap[w.heap.size]? = some (.cells c 36 (0, 0)) ∧ V.cell? ⟨w.heap.size + 1, 0, none⟩ = some (.slice a1 N c1)) := fun V hV =>
    ⟨(hV.block _ (by have := HS1.out; omega)).trans HX1.out, cell_in ((hV.block _ (by have := HS1.out; omega)).trans HY1.out) rfl⟩
  have HW : Hid (Below w1.heap.size w1 w1.drew) := drawn_below w1
  clear h hk hx hL hS hn hT hx1 hy1 hb1 hs1 hN
  go_enter Tryd.func12, Tryd.ntmps12
  go_upto_region 1 with fail
  clear hw1
  refine wp_region_T (S := (fun V => V.heap[w.heap.size]? = some (.cells c 36 (0, 0)) ∧ V.cell? ⟨w.heap.size + 1, 0, none⟩ = some (.slice a1 N c1))) [] (by kernel_rfl) (by exact HKS.out _ HW.out) (fun hHeld => ?_)
  refine wpAnyT_take (i := 0) (oi := ⟨some 9, _, _, _, _, _⟩) (v := _) rfl (by kernel_rfl) (by kernel_rfl) (by kernel_rfl) (by kernel_rfl) (fun _ _ _ h => h) (yieldsIf_load_row (by rfl) 36 _ rfl w.heap.size rfl c 36 (0, 0) _ (fun w hw => hw.1) Tryd.underlying36 rfl (by rw [HSZ.out]; exact map_size)) (by assumption) ?_
  (try simp only [Act.put, List.setIfInBounds_toArray, List.set_cons_zero, List.set_cons_succ])
  refine wpAnyT_take (i := 2) (oi := ⟨some 11, _, _, _, _, _⟩) (v := ?vg1_2) rfl (by kernel_rfl) (by kernel_rfl) (by kernel_rfl) (by kernel_rfl) (fun _ _ _ h => h) (Or.inl ⟨by rfl, ?hg1_2⟩) (by assumption) ?rg1_2
  case hg1_2 => (intro w hSw; (try dsimp only at hSw); first | (go_simp; done) | (go_simp; with_reducible rfl))
  (try simp only [Act.put, List.setIfInBounds_toArray, List.set_cons_zero, List.set_cons_succ])
  refine wpAnyT_take (i := 3) (oi := ⟨some 12, _, _, _, _, _⟩) (v := ?vg1_3) rfl (by kernel_rfl) (by kernel_rfl) (by kernel_rfl) (by kernel_rfl) (fun _ _ _ h => h) (Or.inl ⟨by rfl, ?hg1_3⟩) (by assumption) ?rg1_3
  case hg1_3 => (intro w hSw; (try dsimp only at hSw); first | (go_simp; done) | (go_simp; with_reducible rfl))
  (try simp only [Act.put, List.setIfInBounds_toArray, List.set_cons_zero, List.set_cons_succ])
  refine wpAnyT_take (i := 4) (oi := ⟨some 13, _, _, _, _, _⟩) (v := ?vg1_4) rfl (by kernel_rfl) (by kernel_rfl) (by kernel_rfl) (by kernel_rfl) (fun _ _ _ h => h) (Or.inl ⟨by rfl, ?hg1_4⟩) (by assumption) ?rg1_4
  case hg1_4 => (intro w hSw; (try dsimp only at hSw); first | (go_simp; done) | (go_simp; with_reducible rfl))
  (try simp only [Act.put, List.setIfInBounds_toArray, List.set_cons_zero, List.set_cons_succ])
  refine wpAnyT_one (i := 1) (o := ⟨some 10, _, _, _, _, _⟩) (by kernel_rfl) rfl (fun K hK => ?_)
  go_simp
  go_at_call 19
  (with_reducible refine (HLEN.out _).mono ?_)
  rintro e w2 ⟨rfl, hb⟩
  replace HW := Lib.hid (HW.out.trans (hb.mono HW.out.size))
  clear hb
  dsimp only
  refine hK.out _ _ (by exact HKS.out _ HW.out) (fun hHeld => ?_)
  clear hK K
  (try simp only [Act.put, List.setIfInBounds_toArray, List.set_cons_zero, List.set_cons_succ])
  refine wpAnyT_take (i := 5) (oi := ⟨some 14, _, _, _, _, _⟩) (v := ?vg1_5) rfl (by kernel_rfl) (by kernel_rfl) (by kernel_rfl) (by kernel_rfl) (fun _ _ _ h => h) (Or.inl ⟨by rfl, ?hg1_5⟩) (by assumption) ?rg1_5
  case hg1_5 => (intro w hSw; (try dsimp only at hSw); first | (go_simp; done) | (go_simp; with_reducible rfl))
  (try simp only [Act.put, List.setIfInBounds_toArray, List.set_cons_zero, List.set_cons_succ])
  refine wpAnyT_take (i := 6) (oi := ⟨some 15, _, _, _, _, _⟩) (v := ?vg1_6) rfl (by kernel_rfl) (by kernel_rfl) (by kernel_rfl) (by kernel_rfl) (fun _ _ _ h => h) (Or.inl ⟨by rfl, ?hg1_6⟩) (by assumption) ?rg1_6
  case hg1_6 => (intro w hSw; (try dsimp only at hSw); first | (go_simp; done) | (go_simp; with_reducible rfl))
  (try simp only [Act.put, List.setIfInBounds_toArray, List.set_cons_zero, List.set_cons_succ])
  refine wpAnyT_take (i := 7) (oi := ⟨some 16, _, _, _, _, _⟩) (v := _) rfl (by kernel_rfl) (by kernel_rfl) (by kernel_rfl) (by kernel_rfl) (fun _ _ _ h => h) (yieldsIf_load_row (by rfl) 36 _ rfl w.heap.size rfl c 36 (0, 0) _ (fun w hw => hw.1) Tryd.underlying36 rfl (by rw [HSZ.out]; exact map_size)) (by assumption) ?_
  (try simp only [Act.put, List.setIfInBounds_toArray, List.set_cons_zero, List.set_cons_succ])
  refine wpAnyT_take (i := 9) (oi := ⟨some 18, _, _, _, _, _⟩) (v := ?vg1_9) rfl (by kernel_rfl) (by kernel_rfl) (by kernel_rfl) (by kernel_rfl) (fun _ _ _ h => h) (Or.inl ⟨by rfl, ?hg1_9⟩) (by assumption) ?rg1_9
  case hg1_9 => (intro w hSw; (try dsimp only at hSw); first | (go_simp; done) | (go_simp; with_reducible rfl))
  (try simp only [Act.put, List.setIfInBounds_toArray, List.set_cons_zero, List.set_cons_succ])
  refine wpAnyT_take (i := 10) (oi := ⟨some 19, _, _, _, _, _⟩) (v := ?vg1_10) rfl (by kernel_rfl) (by kernel_rfl) (by kernel_rfl) (by kernel_rfl) (fun _ _ _ h => h) (Or.inl ⟨by rfl, ?hg1_10⟩) (by assumption) ?rg1_10
  case hg1_10 => (intro w hSw; (try dsimp only at hSw); first | (go_simp; done) | (go_simp; with_reducible rfl))
  (try simp only [Act.put, List.setIfInBounds_toArray, List.set_cons_zero, List.set_cons_succ])
  refine wpAnyT_one (i := 8) (o := ⟨some 17, _, _, _, _, _⟩) (by kernel_rfl) rfl (fun K hK => ?_)
  go_simp
  go_at_call 14
  (with_reducible refine (HKEYS.out w2 (HB1.out.trans (HW.out.mono HB1.out.size))).mono ?_)
  rintro e w3 ⟨v3, rfl, hk3, hb⟩
  have HK3 := Lib.hid hk3
  replace HW := Lib.hid (HW.out.trans (hb.mono HW.out.size))
  clear hk3 hb
  dsimp only
  refine hK.out _ _ (by exact HKS.out _ HW.out) (fun hHeld => ?_)
  clear hK K
  (try simp only [Act.put, List.setIfInBounds_toArray, List.set_cons_zero, List.set_cons_succ])
  refine wpAnyT_one (i := 11) (o := ⟨some 20, _, _, _, _, _⟩) (by kernel_rfl) rfl (fun K hK => ?_)
  go_simp
  go_at_call 15
  (with_reducible refine (ref_Words9 _ _ _ w3 HK3.out.cutS (HLS.out.later (HB1.out.trans (HW.out.mono HB1.out.size))).cutS (by rw [keysE_len]; have := HN.out.2; omega)).mono ?_)
  rintro e w4 ⟨rfl, hb⟩
  replace HW := Lib.hid (HW.out.trans (hb.mono HW.out.size))
  clear hb
  dsimp only
  refine hK.out _ _ (by exact HKS.out _ HW.out) (fun hHeld => ?_)
  clear hK K
  (try simp only [Act.put, List.setIfInBounds_toArray, List.set_cons_zero, List.set_cons_succ])
  refine wpAnyT_take (i := 12) (oi := ⟨some 21, _, _, _, _, _⟩) (v := ?vg1_12) rfl (by kernel_rfl) (by kernel_rfl) (by kernel_rfl) (by kernel_rfl) (fun _ _ _ h => h) (Or.inl ⟨by rfl, ?hg1_12⟩) (by assumption) ?rg1_12
  case hg1_12 => (intro w hSw; (try dsimp only at hSw); first | (go_simp; done) | (go_simp; with_reducible rfl))
  (try simp only [Act.put, List.setIfInBounds_toArray, List.set_cons_zero, List.set_cons_succ])
  refine wpAnyT_take (i := 13) (oi := ⟨some 22, _, _, _, _, _⟩) (v := ?vg1_13) rfl (by kernel_rfl) (by kernel_rfl) (by kernel_rfl) (by kernel_rfl) (fun _ _ _ h => h) (Or.inl ⟨by rfl, ?hg1_13⟩) (by assumption) ?rg1_13
  case hg1_13 => (intro w hSw; (try dsimp only at hSw); first | (go_simp; done) | (go_simp; with_reducible rfl))
  (try simp only [Act.put, List.setIfInBounds_toArray, List.set_cons_zero, List.set_cons_succ])
  refine wpAnyT_done (by kernel_rfl) ?_ _
  obtain ⟨_, cy0⟩ := HKS.out _ HW.out
  clear hHeld
  go_wp2_with fail
  clear cy0
  go_loopw [26] (fun i wl => ∃ j : Nat, i = .int .i64 (j : Int) ∧ j ≤ N ∧ Hid (Below w1.heap.size w1 wl)) (fun i _ => N - (intOf i).toNat)
  case atStart => exact ⟨0, rfl, Nat.zero_le _, HW⟩
  case round =>
    clear HW
    obtain ⟨j, rfl, hj, HBJ⟩ := hrel
    have HWJ := Lib.hid (HB1.out.trans (HBJ.out.mono HB1.out.size))
    by_cases hlt : j < N
    · have hlt' : (j : Int) < N := by omega
      have hjL : j < L.length := by rw [← HN.out.1]; exact hlt
      obtain ⟨g1, d1, e1, hc1⟩ := (HLS.out.later HWJ.out).cell (j := j) (by rw [keysE_len]; exact hjL)
      obtain ⟨g2, d2, e2, hdc⟩ := (HLI.out.later HWJ.out).cell (j := j) (by rw [valsE_len]; exact hjL)
      simp only [Value.slice.injEq] at e1 e2
      obtain ⟨rfl, hdr, rfl⟩ := e1
      obtain ⟨rfl, hdr2, rfl⟩ := e2
      clear hdr hdr2 hdc
      have hkj : (keysE L)[j]'(by rw [keysE_len]; exact hjL) = L[j].1 := by unfold keysE; rw [List.getElem_map]
      have hxj : (valsE L)[j]'(by rw [valsE_len]; exact hjL) = L[j].2 := by unfold valsE; rw [List.getElem_map]
      have hgj : getE L L[j].1 = some L[j].2 := (get_mem HSH.out.1).2 (List.getElem_mem hjL)
      have hsz := HSH.out.2 _ (List.getElem_mem hjL)
      rw [hkj] at hc1
      obtain ⟨⟨ky, xy⟩, hky⟩ : ∃ e, e = L[j] := ⟨_, rfl⟩
      rw [← hky] at hc1 hgj hsz hxj
      simp only at hc1 hgj hsz hxj
      have hget := fun W (hb : Below w.heap.size w W) => HGET.out W hb ky (by omega)
      rw [hgj] at hget
      simp only [Option.getD_some, Option.isSome_some] at hget
      have HG := Lib.hid hget
      have HEL : Hid (∀ V, Below w.heap.size w V → V.cell? ⟨g2, j, none⟩ = some (.int .i64 xy)) := fun V hV => by
        obtain ⟨g', d', e', h'⟩ := (HLI.out.later hV).cell (j := j) (by rw [valsE_len]; exact hjL)
        simp only [Value.slice.injEq, Option.some.injEq, Addr.mk.injEq] at e'
        rw [e'.1.1, h', hxj]
      have HX8 := Lib.hid ((HBJ.out.block _ (by have := HS1.out; omega)).trans HX1.out)
      have cy0 : wr.cell? ⟨w.heap.size + 1, 0, none⟩ = some (.slice (some ⟨g1, 0, none⟩) N c1) := cell_in ((HBJ.out.block _ (by have := HS1.out; omega)).trans HY1.out) rfl
      have HLT := Lib.hid hlt
      clear hkj hxj hgj hsz hky hget hjL
      go_wp2_with (first
        | (refine ld_if (by rfl) 36 _ rfl w.heap.size rfl 36 _ _ _ HX8.out Tryd.underlying36 rfl (by rw [HSZ.out]; exact map_size) ?_)
        | (go_at_call 17; (with_reducible refine (HG.out _ HWJ.out).mono ?_); rintro e w3 ⟨rfl, hb3⟩; have HB3 := Lib.hid (HBJ.out.trans (hb3.mono HBJ.out.size)); have cy1 : w3.cell? ⟨w.heap.size + 1, 1, none⟩ = some (.slice (some ⟨g2, 0, none⟩) N c2) := (cell_in ((HB3.out.block _ (by have := HS1.out; omega)).trans HY1.out) rfl); have cel := HEL.out _ (HB1.out.trans (HB3.out.mono HB1.out.size)); clear hb3))
      go_roundw
      case rel => exact ⟨j + 1, by simp, by have := HLT.out; omega, HB3⟩
      case measure => have := HLT.out; simp [intOf]; omega
    · obtain rfl : j = N := by omega
      go_wp2_with fail
      go_ret
      exact ⟨rfl, HWJ.out⟩
end Go.Proofs.YtlngjabjeodkpaaDoor
