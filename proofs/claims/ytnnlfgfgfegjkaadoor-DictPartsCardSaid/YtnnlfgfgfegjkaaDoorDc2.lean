/- Package dict: change; Conf. (written by tools/gen10/dc2.py) -/
import Derived.Test.YtnnlfgfgfegjkaaDoorDc1
import Derived.Laws.StructEq
namespace Go.Proofs.YtnnlfgfgfegjkaaDoor
open Go.RowKit
set_option maxRecDepth 1000000
set_option linter.unusedSimpArgs false

/-- A Conf that lies in a map is read. -/
theorem ld_cf {ops : Array Oper} {rest : List Oper} {o : Oper} {a : Act} {w : World} {Q : Exit → Act → World → Prop} (hwd : Region.wanted o (yielded ops a.tmps) = true) (y : Operand) (ho : o.op = .load 24 y)
    (b k : Nat) (hx : a.eval y = .pointer (some ⟨b, k, none⟩)) (s : Nat) (n : Int) (hR : w.rangeAt b k (#[.int .u64 (s : Int), .int .i64 n] : Array Value).toList)
    (h : wpList Tryd.prog ops Q rest (a.put o.dst (.agg #[.int .u64 (s : Int), .int .i64 n])) w) : wpList Tryd.prog ops Q (o :: rest) a w :=
  wpList_step fun _ hK => by
    rw [if_pos hwd]
    exact wp_load_mid 24 y ho b k hx _ _ hR Tryd.underlying24 rfl api_size (hK _ _ h)
theorem row_conf {V : World} {X : Nat} {a b : Value} {r : List Value} {c : Array Value} {T : TypeId} {fr : Nat × Nat} (h : V.heap[X]? = some (.cells c T fr)) (hc : c.toList = a :: b :: r) : V.rangeAt X 0 (#[a, b] : Array Value).toList := fun j u hu => by
  refine cell_in h ?_
  rw [Nat.zero_add, ← Array.getElem?_toList, hc]
  rcases j with _ | _ | j
  · simpa using hu
  · simpa using hu
  · simp at hu
set_option maxHeartbeats 2000000 in
theorem hm_Conf (w : World) (s : Nat) (n : Int) (l bb : Nat) (a1 : Option Addr) (n1 c1 : Nat) (a2 : Option Addr) (n2 c2 : Nat) :
    Calls Tryd.prog 54 #[.agg #[.int .u64 (s : Int), .int .i64 n, .int .i64 ((l : Nat) : Int), .int .u32 (bb : Int), .slice a1 n1 c1, .slice a2 n2 c2]] w fun r w' => r = .returned (.agg #[.int .u64 (s : Int), .int .i64 n]) ∧ Below w.heap.size w w' := by
  obtain ⟨w1, hw1⟩ : ∃ w1, (w.alloc (.cells #[.int .u64 (s : Int), .int .i64 n, .int .i64 ((l : Nat) : Int), .int .u32 (bb : Int), .slice a1 n1 c1, .slice a2 n2 c2] 36)).alloc (.cells #[.int .u64 0, .int .i64 0] 24) = w1 := ⟨_, rfl⟩
  obtain ⟨hb1, hx1, hy1, hs1⟩ := two_newG hw1
  have HX1 := Lib.hid hx1
  have HY1 := Lib.hid hy1
  have HB1 := Lib.hid hb1
  clear hx1 hy1 hb1 hs1
  go_enter Tryd.func54, Tryd.ntmps54
  go_upto_region 1 with fail
  clear hw1
  go_wp2_with (first
    | (refine ld_cf (by rfl) _ rfl w.heap.size 0 rfl s n (row_conf HX1.out rfl) ?_)
    | (refine st_agg rfl 24 _ _ rfl (w.heap.size + 1) #[.int .u64 (s : Int), .int .i64 n] rfl rfl 24 _ HY1.out api_size rfl (by simp [Value.oneCell']) ?_; intro w6 h6 k6))
  exact bodyPost_ret (results_cell_row rfl _ _ (w.heap.size + 1) 24 _ (0, 0) _ rfl h6 Tryd.underlying24 rfl api_size) rfl ⟨rfl, HB1.out.trans (k6.below (by omega))⟩
theorem ml_Conf (w : World) (s : Nat) (n : Int) (L : List Ent) (c : Array Value) (h : ML w s n L c) (W : World) :
    Calls Tryd.prog 54 #[.agg c] W fun r w' => r = .returned (.agg #[.int .u64 (s : Int), .int .i64 n]) ∧ Below W.heap.size W w' := by
  obtain ⟨bb, p1, q1, r1, p2, q2, r2, e, _⟩ := h
  rw [e]
  exact hm_Conf W s n L.length bb p1 q1 r1 p2 q2 r2
theorem neq_conf (s : Nat) (n : Int) (w : World) : (binOp .neq 24 (.agg #[.int .u64 (s : Int), .int .i64 n]) (.agg #[.int .u64 (s : Int), .int .i64 n])).run Tryd.prog w = .ok (.bool false) w := by
  have hu : Tryd.prog.underlying 24 = some (.struct (Tryd.prog.fieldsOf 24)) := by kernel_rfl
  have hp : Tryd.prog.stoodInHeld 24 = false := by kernel_rfl
  rw [run_neq_struct, run_equalIn_agg w 9999 _ _ _ hu hp]
  simp [Program.fieldsOf, Tryd.underlying24, Op.eqFields, go_sem]
theorem chg_size : (Tryd.prog.info? 73).map (·.size) = some 5 := by kernel_rfl
theorem int_size1 : (Tryd.prog.info? 3).map (·.size) = some 1 := by kernel_rfl
theorem bool_size1 : (Tryd.prog.info? 4).map (·.size) = some 1 := by kernel_rfl
abbrev chgZ : Array Value := #[.string ⟨#[]⟩, .bool false, .bool false, .int .i64 0, .int .i64 0]
theorem chgC_one (c : Chg) : (chgC c).all (·.oneCell') = true := by simp [Value.oneCell']
set_option maxHeartbeats 4000000 in
theorem dc_change (w : World) (s : Nat) (hss : s < 18446744073709551616) (n : Int) (A : List Ent) (ca : Array Value) (s2 : Nat) (hss2 : s2 < 18446744073709551616) (n2 : Int) (B : List Ent) (cb : Array Value) (k : ByteArray) (hk : k.size ≤ 9223372036854775800)
    (ha : ML w s n A ca) (hb : ML w s2 n2 B cb) (hA : Rise A) (hB : Rise B) (hn : A.length ≤ 40000) (hm : B.length ≤ 40000) :
    Calls Tryd.prog 64 #[.agg ca, .agg cb, .string k] w fun r w' => r = .returned (.agg (chgC (chgE A B k))) ∧ Below w.heap.size w w' := by
  have hga := fun W (h : Below w.heap.size w W) => ml_Get W s hss n A ca k hk (ha.later h) hA (Nat.le_trans hn (by omega))
  have hgb := fun W (h : Below w.heap.size w W) => ml_Get W s2 hss2 n2 B cb k hk (hb.later h) hB (Nat.le_trans hm (by omega))
  unfold chgE
  obtain ⟨xa, hxa⟩ : ∃ x, x = (getE A k).getD 0 := ⟨_, rfl⟩
  obtain ⟨ia, hia⟩ : ∃ x, x = (getE A k).isSome := ⟨_, rfl⟩
  obtain ⟨xb, hxb⟩ : ∃ x, x = (getE B k).getD 0 := ⟨_, rfl⟩
  obtain ⟨ib, hib⟩ : ∃ x, x = (getE B k).isSome := ⟨_, rfl⟩
  rw [← hxa, ← hia] at hga ⊢
  rw [← hxb, ← hib] at hgb ⊢
  obtain ⟨w0, hw0⟩ : ∃ w0, ((w.alloc (.cells ca 36)).alloc (.cells cb 36)).alloc (.cells chgZ 73) = w0 := ⟨_, rfl⟩
  obtain ⟨hb0, hx, hy, hz, hs0⟩ := three_newG hw0
  have HGA := Lib.hid hga
  have HGB := Lib.hid hgb
  have HXA := Lib.hid hx
  have HXB := Lib.hid hy
  have HXR : Hid (w0.heap[w.heap.size + 1 + 1]? = some (.cells chgZ 73 (0, 0))) := hz
  have HB := Lib.hid hb0
  have HZA := Lib.hid ha.size
  have HZB := Lib.hid hb.size
  obtain ⟨X, hX⟩ : ∃ X, X = w0.heap.size := ⟨_, rfl⟩
  have HS : Hid (X = w.heap.size + 3 ∧ w0.heap.size = X) := ⟨by omega, hX.symm⟩
  clear ha hb hA hB hn hm hga hgb hxa hia hxb hib hb0 hx hy hz hs0
  go_enter Tryd.func64, Tryd.ntmps64
  go_upto_region 1 with fail
  clear hw0
  go_upto_region 2 with (first
    | (refine st_agg rfl 73 _ _ rfl w0.heap.size (chgC (k, false, false, 0, 0)) rfl rfl 73 chgZ (heap_alloc_last w0 _) chg_size rfl (chgC_one _) ?_
       intro w1 h1 k1
       have hb1 : Below w0.heap.size w0 w1 := (Below.newly' w0 _).trans (k1.below (Nat.le_refl _))
       have HXC : Hid (w1.heap[X]? = some (.cells (chgC (k, false, false, 0, 0)) 73 (0, 0))) := by show _ = _; rw [hX]; exact h1
       replace HXA := Lib.hid ((hb1.block _ (Array.getElem?_eq_some_iff.1 HXA.out).1).trans HXA.out)
       replace HXB := Lib.hid ((hb1.block _ (Array.getElem?_eq_some_iff.1 HXB.out).1).trans HXB.out)
       replace HXR := Lib.hid ((hb1.block _ (Array.getElem?_eq_some_iff.1 HXR.out).1).trans HXR.out)
       replace HB := Lib.hid (HB.out.trans (hb1.mono HB.out.size))
       clear h1 k1 hb1))
  rw [← hX]
  clear hX
  go_wp2_with (first
    | (refine ld_if (by rfl) 36 _ rfl w.heap.size rfl 36 ca _ _ HXA.out Tryd.underlying36 rfl (by rw [HZA.out]; exact map_size) ?_)
    | (refine ld_if (by rfl) 36 _ rfl (w.heap.size + 1) rfl 36 cb _ _ HXB.out Tryd.underlying36 rfl (by rw [HZB.out]; exact map_size) ?_)
    | (go_at_call 46; (with_reducible refine (HGA.out _ HB.out).mono ?_); rintro r w2 ⟨rfl, hb⟩; replace HXA := Lib.hid ((hb.block _ (Array.getElem?_eq_some_iff.1 HXA.out).1).trans HXA.out); replace HXB := Lib.hid ((hb.block _ (Array.getElem?_eq_some_iff.1 HXB.out).1).trans HXB.out); replace HXR := Lib.hid ((hb.block _ (Array.getElem?_eq_some_iff.1 HXR.out).1).trans HXR.out); replace HXC := Lib.hid ((hb.block _ (Array.getElem?_eq_some_iff.1 HXC.out).1).trans HXC.out); replace HB := Lib.hid (HB.out.trans (hb.mono HB.out.size)); clear hb)
    | (go_at_call 46; (with_reducible refine (HGB.out _ HB.out).mono ?_); rintro r w2 ⟨rfl, hb⟩; replace HXA := Lib.hid ((hb.block _ (Array.getElem?_eq_some_iff.1 HXA.out).1).trans HXA.out); replace HXB := Lib.hid ((hb.block _ (Array.getElem?_eq_some_iff.1 HXB.out).1).trans HXB.out); replace HXR := Lib.hid ((hb.block _ (Array.getElem?_eq_some_iff.1 HXR.out).1).trans HXR.out); replace HXC := Lib.hid ((hb.block _ (Array.getElem?_eq_some_iff.1 HXC.out).1).trans HXC.out); replace HB := Lib.hid (HB.out.trans (hb.mono HB.out.size)); clear hb)
    | (refine st_cell rfl 3 _ _ rfl X 3 _ rfl rfl rfl 73 _ HXC.out int_size1 (show 3 < 5 by omega) ?_; intro w3 h3 k3; replace HXA := Lib.hid (k3.other HXA.out (by have := HS.out; omega)); replace HXB := Lib.hid (k3.other HXB.out (by have := HS.out; omega)); replace HXR := Lib.hid (k3.other HXR.out (by have := HS.out; omega)); replace HB := Lib.hid (HB.out.trans (k3.below (by have := HS.out; omega))); replace HXC : Hid (w3.heap[X]? = some (.cells (chgC (k, false, false, xa, 0)) 73 (0, 0))) := h3; clear h3 k3)
    | (refine st_cell rfl 4 _ _ rfl X 1 _ rfl rfl rfl 73 _ HXC.out bool_size1 (show 1 < 5 by omega) ?_; intro w3 h3 k3; replace HXA := Lib.hid (k3.other HXA.out (by have := HS.out; omega)); replace HXB := Lib.hid (k3.other HXB.out (by have := HS.out; omega)); replace HXR := Lib.hid (k3.other HXR.out (by have := HS.out; omega)); replace HB := Lib.hid (HB.out.trans (k3.below (by have := HS.out; omega))); replace HXC : Hid (w3.heap[X]? = some (.cells (chgC (k, ia, false, xa, 0)) 73 (0, 0))) := h3; clear h3 k3)
    | (refine st_cell rfl 3 _ _ rfl X 4 _ rfl rfl rfl 73 _ HXC.out int_size1 (show 4 < 5 by omega) ?_; intro w3 h3 k3; replace HXA := Lib.hid (k3.other HXA.out (by have := HS.out; omega)); replace HXB := Lib.hid (k3.other HXB.out (by have := HS.out; omega)); replace HXR := Lib.hid (k3.other HXR.out (by have := HS.out; omega)); replace HB := Lib.hid (HB.out.trans (k3.below (by have := HS.out; omega))); replace HXC : Hid (w3.heap[X]? = some (.cells (chgC (k, ia, false, xa, xb)) 73 (0, 0))) := h3; clear h3 k3)
    | (refine st_cell rfl 4 _ _ rfl X 2 _ rfl rfl rfl 73 _ HXC.out bool_size1 (show 2 < 5 by omega) ?_; intro w3 h3 k3; replace HXA := Lib.hid (k3.other HXA.out (by have := HS.out; omega)); replace HXB := Lib.hid (k3.other HXB.out (by have := HS.out; omega)); replace HXR := Lib.hid (k3.other HXR.out (by have := HS.out; omega)); replace HB := Lib.hid (HB.out.trans (k3.below (by have := HS.out; omega))); replace HXC : Hid (w3.heap[X]? = some (.cells (chgC (k, ia, ib, xa, xb)) 73 (0, 0))) := h3; clear h3 k3)
    | (refine ld_if (by rfl) 73 _ rfl X rfl 73 _ _ _ HXC.out Tryd.underlying73 rfl (by exact chg_size) ?_)
    | (refine st_agg rfl 73 _ _ rfl (w.heap.size + 1 + 1) (chgC (k, ia, ib, xa, xb)) rfl rfl 73 chgZ HXR.out chg_size rfl (chgC_one _) ?_; intro w4 h4 k4))
  exact bodyPost_ret (results_cell_row rfl _ _ (w.heap.size + 1 + 1) 73 _ (0, 0) _ rfl h4 Tryd.underlying73 rfl chg_size) rfl ⟨rfl, HB.out.trans (k4.below (by omega))⟩
end Go.Proofs.YtnnlfgfgfegjkaaDoor
