/- Texts put together: Hm10 Hm11 Hm12. -/
import Derived.Test.YtnnlfgfgfegjkaaDoorPkI
import Derived.Test.YtnnlfgfgfegjkaaDoorPkC

/- Package hamt: maps; Sum, Len, Get. (written by tools/gen09/map10.py) -/
namespace Go.Proofs.YtnnlfgfgfegjkaaDoor
open Go.RowKit
set_option maxRecDepth 1000000
set_option linter.unusedSimpArgs false

/-- A key's sum. -/
def hsN (s : Nat) (n : Int) (k : ByteArray) : Nat := narrowN (txtN s k.data.toList) n
theorem hsN_lt (s : Nat) (n : Int) (k : ByteArray) : hsN s n k < 18446744073709551616 := narrowN_lt _ (endN_lt _)
/-- These cells are the map of these keys. -/
def MapAt (S : Nat → Prop) (w : World) (s : Nat) (n : Int) (L : List Ent) (c : Array Value) : Prop :=
  ∃ (bb : Nat) (a1 : Option Addr) (n1 c1 : Nat) (a2 : Option Addr) (n2 c2 : Nat), c = #[.int .u64 (s : Int), .int .i64 n, .int .i64 ((L.length : Nat) : Int), .int .u32 (bb : Int), .slice a1 n1 c1, .slice a2 n2 c2] ∧ NodeAt (hsN s n) S 13 w L #[.int .u32 (bb : Int), .slice a1 n1 c1, .slice a2 n2 c2]
section
variable {S S' : Nat → Prop} {w w' : World} {s : Nat} {n : Int} {L : List Ent} {c : Array Value}
theorem MapAt.imp (h : MapAt S w s n L c) (k : Kp S w w') (hS : ∀ g, S g → g < w.heap.size → S' g) : MapAt S' w' s n L c := by
  obtain ⟨bb, a1, n1, c1, a2, n2, c2, rfl, h⟩ := h
  exact ⟨_, _, _, _, _, _, _, rfl, h.imp k hS⟩
theorem MapAt.kp (h : MapAt S w s n L c) (k : Kp S w w') : MapAt S w' s n L c := h.imp k fun _ h _ => h
theorem MapAt.later (h : MapAt S w s n L c) (hb : Below w.heap.size w w') : MapAt S w' s n L c := h.kp (Kp.later hb)
theorem MapAt.weak (h : MapAt S w s n L c) (hS : ∀ g, S g → S' g) : MapAt S' w s n L c := h.imp (fun _ _ _ _ e => e) fun g h _ => hS g h
theorem MapAt.old (h : MapAt S w s n L c) : MapAt (fun g => S g ∧ g < w.heap.size) w s n L c := h.imp (fun _ _ _ _ e => e) fun _ h h' => ⟨h, h'⟩
theorem MapAt.size (h : MapAt S w s n L c) : c.size = 6 := by
  obtain ⟨_, _, _, _, _, _, _, rfl, _⟩ := h
  rfl
theorem MapAt.one (h : MapAt S w s n L c) : c.all (·.oneCell') = true := by
  obtain ⟨_, _, _, _, _, _, _, rfl, _⟩ := h
  simp [Value.oneCell']
theorem MapAt.zero (S : Nat → Prop) (w : World) (s : Nat) (n : Int) : MapAt S w s n [] #[.int .u64 (s : Int), .int .i64 n, .int .i64 0, .int .u32 0, .slice none 0 0, .slice none 0 0] :=
  ⟨0, none, 0, 0, none, 0, 0, rfl, NodeAt.zero _ _ _ _⟩
end
theorem map_range {V : World} {X : Nat} {x0 x1 x2 a b d : Value} {T : TypeId} {fr : Nat × Nat} (h : V.heap[X]? = some (.cells #[x0, x1, x2, a, b, d] T fr)) : V.rangeAt X 3 (#[a, b, d] : Array Value).toList := fun j u hu => by
  refine cell_in h ?_
  rcases j with _ | _ | _ | j
  · simpa using hu
  · simpa using hu
  · simpa using hu
  · simp at hu
theorem new_below {w w1 : World} {c : Array Value} {T : TypeId} (h : w.alloc (.cells c T) = w1) : Below w.heap.size w w1 ∧ w1.heap[w.heap.size]? = some (.cells c T (0, 0)) ∧ w1.heap.size = w.heap.size + 1 := by
  subst h
  exact ⟨Below.newly' _ _, heap_alloc_last _ _, by simp⟩
theorem hm_Len (w : World) (s : Nat) (n : Int) (l bb : Nat) (a1 : Option Addr) (n1 c1 : Nat) (a2 : Option Addr) (n2 c2 : Nat) :
    Calls Tryd.prog 47 #[.agg #[.int .u64 (s : Int), .int .i64 n, .int .i64 ((l : Nat) : Int), .int .u32 (bb : Int), .slice a1 n1 c1, .slice a2 n2 c2]] w fun r w' => r = .returned (.int .i64 (l : Int)) ∧ Below w.heap.size w w' := by
  obtain ⟨w1, hw1⟩ : ∃ w1, w.alloc (.cells #[.int .u64 (s : Int), .int .i64 n, .int .i64 ((l : Nat) : Int), .int .u32 (bb : Int), .slice a1 n1 c1, .slice a2 n2 c2] 36) = w1 := ⟨_, rfl⟩
  obtain ⟨hb1, hx1, hs1⟩ := new_below hw1
  have ca2 : w1.cell? ⟨w.heap.size, 2, none⟩ = some (.int .i64 (l : Int)) := cell_in hx1 rfl
  have HB1 := Lib.hid hb1
  clear hx1 hs1 hb1
  go_enter Tryd.func47, Tryd.ntmps47
  go_wp2_with fail
  go_ret
  exact ⟨rfl, HB1.out⟩
set_option maxHeartbeats 2000000 in
theorem hm_Sum (w : World) (s : Nat) (hss : s < 18446744073709551616) (n : Int) (l bb : Nat) (a1 : Option Addr) (n1 c1 : Nat) (a2 : Option Addr) (n2 c2 : Nat) (k : ByteArray) (hk : k.size ≤ 9223372036854775800) :
    Calls Tryd.prog 69 #[.agg #[.int .u64 (s : Int), .int .i64 n, .int .i64 ((l : Nat) : Int), .int .u32 (bb : Int), .slice a1 n1 c1, .slice a2 n2 c2], .string k] w fun r w' => r = .returned (.int .u64 (hsN s n k : Nat)) ∧ Below w.heap.size w w' := by
  obtain ⟨w1, hw1⟩ : ∃ w1, w.alloc (.cells #[.int .u64 (s : Int), .int .i64 n, .int .i64 ((l : Nat) : Int), .int .u32 (bb : Int), .slice a1 n1 c1, .slice a2 n2 c2] 36) = w1 := ⟨_, rfl⟩
  obtain ⟨hb1, hx1, hs1⟩ := new_below hw1
  have HX1 := Lib.hid hx1
  have HB1 := Lib.hid hb1
  have HS1 := Lib.hid hs1
  have HTX := Lib.hid (fun W => mix_Text s k hss hk W)
  have HNA := Lib.hid (fun W => mix_Narrow (txtN s k.data.toList) n (endN_lt _) W)
  have hh : narrowN (txtN s k.data.toList) n = hsN s n k := rfl
  rw [hh] at HNA
  obtain ⟨sm, hsm⟩ : ∃ sm, sm = hsN s n k := ⟨_, rfl⟩
  rw [← hsm] at HNA ⊢
  obtain ⟨tx, htx⟩ : ∃ tx, tx = txtN s k.data.toList := ⟨_, rfl⟩
  rw [← htx] at HNA HTX
  clear hx1 hs1 hb1 hh hsm htx hss hk
  go_enter Tryd.func69, Tryd.ntmps69
  go_upto_region 1 with fail
  clear hw1
  have HKS : Hid (∀ V, Below w1.heap.size w1 V → (V.cell? ⟨w.heap.size, 0, none⟩ = some (.int .u64 (s : Int)) ∧ V.cell? ⟨w.heap.size, 1, none⟩ = some (.int .i64 n))) := fun V hV =>
    have h := (hV.block _ (by have := HS1.out; omega)).trans HX1.out
    ⟨cell_in h rfl, cell_in h rfl⟩
  have HW : Hid (Below w1.heap.size w1 w1.drew) := drawn_below w1
  refine wp_region_T (S := (fun V => V.cell? ⟨w.heap.size, 0, none⟩ = some (.int .u64 (s : Int)) ∧ V.cell? ⟨w.heap.size, 1, none⟩ = some (.int .i64 n))) [] (by kernel_rfl) (by exact HKS.out _ HW.out) (fun hHeld => ?_)
  refine wpAnyT_take (i := 0) (oi := ⟨some 5, _, _, _, _, _⟩) (v := ?vg2_0) rfl (by kernel_rfl) (by kernel_rfl) (by kernel_rfl) (by kernel_rfl) (fun _ _ _ h => h) (Or.inl ⟨by rfl, ?hg2_0⟩) (by assumption) ?rg2_0
  case hg2_0 => (intro w hSw; (try dsimp only at hSw); first | (go_simp; done) | (go_simp; with_reducible rfl))
  (try simp only [Act.put, List.setIfInBounds_toArray, List.set_cons_zero, List.set_cons_succ])
  refine wpAnyT_take (i := 1) (oi := ⟨some 6, _, _, _, _, _⟩) (v := ?vg2_1) rfl (by kernel_rfl) (by kernel_rfl) (by kernel_rfl) (by kernel_rfl) (fun _ _ _ h => h) (Or.inl ⟨by rfl, ?hg2_1⟩) (by assumption) ?rg2_1
  case hg2_1 => (intro w hSw; (try dsimp only at hSw); first | (go_simp; done) | (go_simp; with_reducible rfl))
  (try simp only [Act.put, List.setIfInBounds_toArray, List.set_cons_zero, List.set_cons_succ])
  refine wpAnyT_take (i := 2) (oi := ⟨some 7, _, _, _, _, _⟩) (v := ?vg2_2) rfl (by kernel_rfl) (by kernel_rfl) (by kernel_rfl) (by kernel_rfl) (fun _ _ _ h => h) (Or.inl ⟨by rfl, ?hg2_2⟩) (by assumption) ?rg2_2
  case hg2_2 => (intro w hSw; (try dsimp only at hSw); first | (go_simp; done) | (go_simp; with_reducible rfl))
  (try simp only [Act.put, List.setIfInBounds_toArray, List.set_cons_zero, List.set_cons_succ])
  refine wpAnyT_take (i := 3) (oi := ⟨some 8, _, _, _, _, _⟩) (v := ?vg2_3) rfl (by kernel_rfl) (by kernel_rfl) (by kernel_rfl) (by kernel_rfl) (fun _ _ _ h => h) (Or.inl ⟨by rfl, ?hg2_3⟩) (by assumption) ?rg2_3
  case hg2_3 => (intro w hSw; (try dsimp only at hSw); first | (go_simp; done) | (go_simp; with_reducible rfl))
  (try simp only [Act.put, List.setIfInBounds_toArray, List.set_cons_zero, List.set_cons_succ])
  refine wpAnyT_takeC (i := 4) (oi := ⟨some 9, _, _, _, _, _⟩) (v := .int .u64 (tx : Int)) rfl (by kernel_rfl) (by kernel_rfl) (by kernel_rfl) (by kernel_rfl) (fun _ _ _ h => h) ⟨by rfl, fun w hSw => ⟨82, #[.int .u64 (s : Int), .string k], ?hg2_4, (HTX.out w).mono fun _ _ h => ⟨h.1, h.2.symm⟩⟩⟩ (by assumption) ?rg2_4
  case hg2_4 => go_simp
  (try simp only [Act.put, List.setIfInBounds_toArray, List.set_cons_zero, List.set_cons_succ])
  refine wpAnyT_take (i := 5) (oi := ⟨some 10, _, _, _, _, _⟩) (v := ?vg2_5) rfl (by kernel_rfl) (by kernel_rfl) (by kernel_rfl) (by kernel_rfl) (fun _ _ _ h => h) (Or.inl ⟨by rfl, ?hg2_5⟩) (by assumption) ?rg2_5
  case hg2_5 => (intro w hSw; (try dsimp only at hSw); first | (go_simp; done) | (go_simp; with_reducible rfl))
  (try simp only [Act.put, List.setIfInBounds_toArray, List.set_cons_zero, List.set_cons_succ])
  refine wpAnyT_take (i := 6) (oi := ⟨some 11, _, _, _, _, _⟩) (v := ?vg2_6) rfl (by kernel_rfl) (by kernel_rfl) (by kernel_rfl) (by kernel_rfl) (fun _ _ _ h => h) (Or.inl ⟨by rfl, ?hg2_6⟩) (by assumption) ?rg2_6
  case hg2_6 => (intro w hSw; (try dsimp only at hSw); first | (go_simp; done) | (go_simp; with_reducible rfl))
  (try simp only [Act.put, List.setIfInBounds_toArray, List.set_cons_zero, List.set_cons_succ])
  refine wpAnyT_take (i := 7) (oi := ⟨some 12, _, _, _, _, _⟩) (v := ?vg2_7) rfl (by kernel_rfl) (by kernel_rfl) (by kernel_rfl) (by kernel_rfl) (fun _ _ _ h => h) (Or.inl ⟨by rfl, ?hg2_7⟩) (by assumption) ?rg2_7
  case hg2_7 => (intro w hSw; (try dsimp only at hSw); first | (go_simp; done) | (go_simp; with_reducible rfl))
  (try simp only [Act.put, List.setIfInBounds_toArray, List.set_cons_zero, List.set_cons_succ])
  refine wpAnyT_takeC (i := 8) (oi := ⟨some 13, _, _, _, _, _⟩) (v := .int .u64 (sm : Int)) rfl (by kernel_rfl) (by kernel_rfl) (by kernel_rfl) (by kernel_rfl) (fun _ _ _ h => h) ⟨by rfl, fun w hSw => ⟨81, #[.int .u64 (tx : Int), .int .i64 n], ?hg2_8, (HNA.out w).mono fun _ _ h => ⟨h.1, h.2.symm⟩⟩⟩ (by assumption) ?rg2_8
  case hg2_8 => go_simp
  (try simp only [Act.put, List.setIfInBounds_toArray, List.set_cons_zero, List.set_cons_succ])
  refine wpAnyT_take (i := 9) (oi := ⟨some 4, _, _, _, _, _⟩) (v := ?vg2_9) rfl (by kernel_rfl) (by kernel_rfl) (by kernel_rfl) (by kernel_rfl) (fun _ _ _ h => h) (Or.inl ⟨by rfl, ?hg2_9⟩) (by assumption) ?rg2_9
  case hg2_9 => (intro w hSw; (try dsimp only at hSw); first | (go_simp; done) | (go_simp; with_reducible rfl))
  (try simp only [Act.put, List.setIfInBounds_toArray, List.set_cons_zero, List.set_cons_succ])
  refine wpAnyT_done (by kernel_rfl) ?_ _
  clear hHeld
  go_wp2_with fail
  go_ret
  exact ⟨rfl, HB1.out.trans (HW.out.mono HB1.out.size)⟩
set_option maxHeartbeats 4000000 in
theorem hm_Get {S : Nat → Prop} (w : World) (s : Nat) (hss : s < 18446744073709551616) (n : Int) (L : List Ent) (c : Array Value) (k : ByteArray) (hk : k.size ≤ 9223372036854775800) (h : MapAt S w s n L c) (hL : Rise L) (hn : L.length ≤ 50000) :
    Calls Tryd.prog 46 #[.agg c, .string k] w fun r w' => r = .returned (.tuple #[.int .i64 ((getE L k).getD 0), .bool (getE L k).isSome]) ∧ Below w.heap.size w w' := by
  obtain ⟨bb, a1, n1, c1, a2, n2, c2, rfl, hnd⟩ := h
  obtain ⟨l, hl⟩ : ∃ l, l = L.length := ⟨_, rfl⟩
  rw [← hl]
  have HSUM := Lib.hid (fun W => hm_Sum W s hss n l bb a1 n1 c1 a2 n2 c2 k hk)
  have HFI := Lib.hid (fun W (hb : Below w.heap.size w W) => hm_find (hsN s n) (hsN_lt s n) 13 (Nat.le_refl _) (fun g => S g ∧ g < w.heap.size) W L _ k (hnd.old.later hb) hL (Nat.le_trans hn (by omega)))
  rw [show (((13 - 13 : Nat) : Nat) : Int) = 0 from rfl] at HFI
  obtain ⟨sm, hsm⟩ : ∃ sm, sm = hsN s n k := ⟨_, rfl⟩
  rw [← hsm] at HSUM HFI
  obtain ⟨w1, hw1⟩ : ∃ w1, w.alloc (.cells #[.int .u64 (s : Int), .int .i64 n, .int .i64 ((l : Nat) : Int), .int .u32 (bb : Int), .slice a1 n1 c1, .slice a2 n2 c2] 36) = w1 := ⟨_, rfl⟩
  obtain ⟨hb1, hx1, hs1⟩ := new_below hw1
  have HX1 := Lib.hid hx1
  have HB1 := Lib.hid hb1
  have HS1 := Lib.hid hs1
  clear hx1 hs1 hb1 hsm hss hk hnd hL hn hl
  go_enter Tryd.func46, Tryd.ntmps46
  go_upto_region 1 with fail
  clear hw1
  have HKS : Hid (∀ V, Below w1.heap.size w1 V → (V.heap[w.heap.size]? = some (.cells #[.int .u64 (s : Int), .int .i64 n, .int .i64 ((l : Nat) : Int), .int .u32 (bb : Int), .slice a1 n1 c1, .slice a2 n2 c2] 36 (0, 0)))) := fun V hV => (hV.block _ (by have := HS1.out; omega)).trans HX1.out
  have HW : Hid (Below w1.heap.size w1 w1.drew) := drawn_below w1
  refine wp_region_T (S := (fun V => V.heap[w.heap.size]? = some (.cells #[.int .u64 (s : Int), .int .i64 n, .int .i64 ((l : Nat) : Int), .int .u32 (bb : Int), .slice a1 n1 c1, .slice a2 n2 c2] 36 (0, 0)))) [] (by kernel_rfl) (by exact HKS.out _ HW.out) (fun hHeld => ?_)
  refine wpAnyT_take (i := 0) (oi := ⟨some 8, _, _, _, _, _⟩) (v := ?vg1_0) rfl (by kernel_rfl) (by kernel_rfl) (by kernel_rfl) (by kernel_rfl) (fun _ _ _ h => h) (Or.inl ⟨by rfl, ?hg1_0⟩) (by assumption) ?rg1_0
  case hg1_0 => (intro w hSw; (try dsimp only at hSw); first | (go_simp; done) | (go_simp; with_reducible rfl))
  (try simp only [Act.put, List.setIfInBounds_toArray, List.set_cons_zero, List.set_cons_succ])
  refine wpAnyT_take (i := 1) (oi := ⟨some 9, _, _, _, _, _⟩) (v := _) rfl (by kernel_rfl) (by kernel_rfl) (by kernel_rfl) (by kernel_rfl) (fun _ _ _ h => h) (yieldsIf_arr (by rfl) 34 _ rfl w.heap.size 3 rfl #[.int .u32 (bb : Int), .slice a1 n1 c1, .slice a2 n2 c2] _ (fun w hw => (map_range hw)) Tryd.underlying34 rfl (by exact nd_size)) (by assumption) ?_
  (try simp only [Act.put, List.setIfInBounds_toArray, List.set_cons_zero, List.set_cons_succ])
  refine wpAnyT_take (i := 2) (oi := ⟨some 10, _, _, _, _, _⟩) (v := _) rfl (by kernel_rfl) (by kernel_rfl) (by kernel_rfl) (by kernel_rfl) (fun _ _ _ h => h) (yieldsIf_load_row (by rfl) 36 _ rfl w.heap.size rfl #[.int .u64 (s : Int), .int .i64 n, .int .i64 ((l : Nat) : Int), .int .u32 (bb : Int), .slice a1 n1 c1, .slice a2 n2 c2] 36 (0, 0) _ (fun w hw => hw) Tryd.underlying36 rfl (by exact map_size)) (by assumption) ?_
  (try simp only [Act.put, List.setIfInBounds_toArray, List.set_cons_zero, List.set_cons_succ])
  refine wpAnyT_take (i := 3) (oi := ⟨some 11, _, _, _, _, _⟩) (v := ?vg1_3) rfl (by kernel_rfl) (by kernel_rfl) (by kernel_rfl) (by kernel_rfl) (fun _ _ _ h => h) (Or.inl ⟨by rfl, ?hg1_3⟩) (by assumption) ?rg1_3
  case hg1_3 => (intro w hSw; (try dsimp only at hSw); first | (go_simp; done) | (go_simp; with_reducible rfl))
  (try simp only [Act.put, List.setIfInBounds_toArray, List.set_cons_zero, List.set_cons_succ])
  refine wpAnyT_take (i := 5) (oi := ⟨some 13, _, _, _, _, _⟩) (v := ?vg1_5) rfl (by kernel_rfl) (by kernel_rfl) (by kernel_rfl) (by kernel_rfl) (fun _ _ _ h => h) (Or.inl ⟨by rfl, ?hg1_5⟩) (by assumption) ?rg1_5
  case hg1_5 => (intro w hSw; (try dsimp only at hSw); first | (go_simp; done) | (go_simp; with_reducible rfl))
  (try simp only [Act.put, List.setIfInBounds_toArray, List.set_cons_zero, List.set_cons_succ])
  refine wpAnyT_one (i := 4) (o := ⟨some 12, _, _, _, _, _⟩) (by kernel_rfl) rfl (fun K hK => ?_)
  go_simp
  go_at_call 69
  refine (HSUM.out _).mono ?_
  rintro r w2 ⟨rfl, hb⟩
  replace HW := Lib.hid (HW.out.trans (hb.mono HW.out.size))
  clear hb
  dsimp only
  refine hK.out _ _ (by exact HKS.out _ HW.out) (fun hHeld => ?_)
  clear hK K
  (try simp only [Act.put, List.setIfInBounds_toArray, List.set_cons_zero, List.set_cons_succ])
  refine wpAnyT_one (i := 6) (o := ⟨some 14, _, _, _, _, _⟩) (by kernel_rfl) rfl (fun K hK => ?_)
  go_simp
  go_at_call 68
  refine (HFI.out _ (HB1.out.trans (HW.out.mono HB1.out.size))).mono ?_
  rintro r w3 ⟨p, rfl, hp, hb⟩
  have HFO := Lib.hid hp
  replace HW := Lib.hid (HW.out.trans (hb.mono HW.out.size))
  clear hb hp
  dsimp only
  refine hK.out _ _ (by exact HKS.out _ HW.out) (fun hHeld => ?_)
  clear hK K
  (try simp only [Act.put, List.setIfInBounds_toArray, List.set_cons_zero, List.set_cons_succ])
  refine wpAnyT_take (i := 7) (oi := ⟨some 6, _, _, _, _, _⟩) (v := ?vg1_7) rfl (by kernel_rfl) (by kernel_rfl) (by kernel_rfl) (by kernel_rfl) (fun _ _ _ h => h) (Or.inl ⟨by rfl, ?hg1_7⟩) (by assumption) ?rg1_7
  case hg1_7 => (intro w hSw; (try dsimp only at hSw); first | (go_simp; done) | (go_simp; with_reducible rfl))
  (try simp only [Act.put, List.setIfInBounds_toArray, List.set_cons_zero, List.set_cons_succ])
  refine wpAnyT_done (by kernel_rfl) ?_ _
  clear hHeld
  have HWW := Lib.hid (HB1.out.trans (HW.out.mono HB1.out.size))
  have hp := HFO.out
  unfold Found at hp
  cases hg : getE L k with
  | none =>
    rw [hg] at hp
    obtain rfl : p = none := hp
    have HGG := Lib.hid hg
    clear hg HFO
    unfold pv
    go_wp2_with fail
    go_ret2
    exact ⟨by rw [HGG.out]; rfl, HWW.out⟩
  | some x =>
    rw [hg] at hp
    obtain ⟨b, rfl, hb⟩ := hp
    have ce2 : w3.cell? ⟨b, 2, none⟩ = some (.int .i64 x) := by
      obtain ⟨_, fr, h⟩ := hb
      exact cell_in h rfl
    have HGG := Lib.hid hg
    clear hg hb HFO
    unfold pv
    go_wp2_with fail
    go_ret2
    exact ⟨by rw [HGG.out]; rfl, HWW.out⟩
end Go.Proofs.YtnnlfgfgfegjkaaDoor

/- Package hamt: Set and Cut. (written by tools/gen09/map11.py) -/
namespace Go.Proofs.YtnnlfgfgfegjkaaDoor
open Go.RowKit
set_option maxRecDepth 1000000
set_option linter.unusedSimpArgs false

/-- A struct goes into the midst of a variable. -/
theorem st_mid {ops : Array Oper} {rest : List Oper} {o : Oper} {a : Act} {w : World} {Q : Exit → Act → World → Prop} (hgd : o.guard = none) (ty : TypeId) (x y : Operand) (ho : o.op = .store ty x y)
    (X k : Nat) (c' : Array Value) (hx : a.eval x = .pointer (some ⟨X, k, none⟩)) (hy : a.eval y = .agg c') (T : TypeId) (c : Array Value) (hB : w.heap[X]? = some (.cells c T (0, 0)))
    (hi : (Tryd.prog.info? ty).map (·.size) = some c'.size) (hk : k + c'.size ≤ c.size) (h1 : c'.all (·.oneCell') = true) (d : Array Value) (hd : (c.toList.take k ++ c'.toList ++ c.toList.drop (k + c'.size)).toArray = d)
    (h : ∀ w', w'.heap[X]? = some (.cells d T (0, 0)) → Only X w w' → wpList Tryd.prog ops Q rest (a.put o.dst undef) w') : wpList Tryd.prog ops Q (o :: rest) a w :=
  wpList_plain hgd fun _ hK => by
    have := run_storeCells_at (P := Tryd.prog) X k T c'.toList 0 c w hB (by simpa using hk) (fun v hv => (Array.all_eq_true_iff_forall_mem.1 h1) v (by simpa using hv))
    simp only [Nat.add_zero, Array.length_toList, hd] at this
    have hrun : (storeVar ty ⟨X, k, none⟩ (.agg c')).run Tryd.prog w = .ok () (w.setRow X d) := by
      cases hq : Tryd.prog.info? ty with
      | none => simp [hq] at hi
      | some i =>
        have hs : c'.size = i.size := by simp [hq] at hi; omega
        simp [storeVar, sizeOf, typeInfo, hq, Value.cells, hs, this]
    unfold Oper.wp execOp
    simp only [ho, hx, hy, Instr.storeAt, Instr.sureAddr, Sem.run_bind, Sem.run_pure, Result.andThen_ok, hrun]
    exact hK _ _ (h _ (setRow_heap w X _ _ _ _ hB) (only_setRow _ _ _))
theorem map_mid (x0 x1 x2 y0 y1 y2 z0 z1 z2 : Value) : ((#[x0, x1, x2, y0, y1, y2] : Array Value).toList.take 3 ++ (#[z0, z1, z2] : Array Value).toList ++ (#[x0, x1, x2, y0, y1, y2] : Array Value).toList.drop (3 + (#[z0, z1, z2] : Array Value).size)).toArray = #[x0, x1, x2, z0, z1, z2] := rfl
theorem NodeAt.three' {hs : ByteArray → Nat} {S : Nat → Prop} {w : World} {f : Nat} {L : List Ent} {c : Array Value} (h : NodeAt hs S f w L c) : ∃ (b : Nat) (a1 : Option Addr) (n1 c1 : Nat) (a2 : Option Addr) (n2 c2 : Nat), c = #[.int .u32 (b : Int), .slice a1 n1 c1, .slice a2 n2 c2] := h.three
theorem api_size : (Tryd.prog.info? 24).map (·.size) = some 2 := by kernel_rfl
set_option maxHeartbeats 2000000 in
theorem hm_New (w : World) (s : Nat) (n : Int) (S : Nat → Prop) :
    Calls Tryd.prog 48 #[.agg #[.int .u64 (s : Int), .int .i64 n]] w fun r w' => ∃ c, r = .returned (.agg c) ∧ MapAt S w' s n [] c ∧ Below w.heap.size w w' := by
  obtain ⟨w1, hw1⟩ : ∃ w1, (w.alloc (.cells #[.int .u64 (s : Int), .int .i64 n] 24)).alloc (.cells #[.int .u64 0, .int .i64 0, .int .i64 0, .int .u32 0, .slice none 0 0, .slice none 0 0] 36) = w1 := ⟨_, rfl⟩
  obtain ⟨hb1, hx1, hy1, hs1⟩ := two_newG hw1
  have HX1 := Lib.hid hx1
  have HY1 := Lib.hid hy1
  have HB1 := Lib.hid hb1
  clear hx1 hy1 hb1 hs1
  go_enter Tryd.func48, Tryd.ntmps48
  go_upto_region 1 with fail
  clear hw1
  go_wp2_with (first
    | (refine ld_if (by rfl) 24 _ rfl w.heap.size rfl 24 _ _ _ HX1.out Tryd.underlying24 rfl api_size ?_)
    | (refine st_agg rfl 36 _ _ rfl (w.heap.size + 1) #[.int .u64 (s : Int), .int .i64 n, .int .i64 0, .int .u32 0, .slice none 0 0, .slice none 0 0] rfl rfl 36 _ HY1.out map_size rfl (by simp [Value.oneCell']) ?_; intro w6 h6 k6))
  exact bodyPost_ret (results_cell_row rfl _ _ (w.heap.size + 1) 36 _ (0, 0) _ rfl h6 Tryd.underlying36 rfl map_size) rfl ⟨_, rfl, MapAt.zero S _ s n, HB1.out.trans (k6.below (by omega))⟩
set_option maxHeartbeats 4000000 in
theorem hm_Cut {S : Nat → Prop} (w : World) (s : Nat) (hss : s < 18446744073709551616) (n : Int) (L : List Ent) (c : Array Value) (k : ByteArray) (hk : k.size ≤ 9223372036854775800) (h : MapAt S w s n L c) (hL : Rise L) (hn : L.length ≤ 50000) (hT : Tab6 w) :
    Calls Tryd.prog 66 #[.agg c, .string k] w fun r w' => ∃ c', r = .returned (.agg c') ∧ MapAt (fun g => S g ∨ w.heap.size ≤ g) w' s n (delE L k) c' ∧ Below w.heap.size w w' := by
  obtain ⟨bb, a1, n1, c1, a2, n2, c2, rfl, hnd⟩ := h
  obtain ⟨l, hl⟩ : ∃ l, l = L.length := ⟨_, rfl⟩
  rw [← hl]
  have HSUM := Lib.hid (fun W => hm_Sum W s hss n l bb a1 n1 c1 a2 n2 c2 k hk)
  have HFI := Lib.hid (fun W (hb : Below w.heap.size w W) => hm_find (hsN s n) (hsN_lt s n) 13 (Nat.le_refl _) (fun g => S g ∧ g < w.heap.size) W L _ k (hnd.old.later hb) hL (Nat.le_trans hn (by omega)))
  rw [show (((13 - 13 : Nat) : Nat) : Int) = 0 from rfl] at HFI
  obtain ⟨sm, hsm⟩ : ∃ sm, sm = hsN s n k := ⟨_, rfl⟩
  rw [← hsm] at HSUM HFI
  obtain ⟨w1, hw1⟩ : ∃ w1, (w.alloc (.cells #[.int .u64 (s : Int), .int .i64 n, .int .i64 ((l : Nat) : Int), .int .u32 (bb : Int), .slice a1 n1 c1, .slice a2 n2 c2] 36)).alloc (.cells #[.int .u64 0, .int .i64 0, .int .i64 0, .int .u32 0, .slice none 0 0, .slice none 0 0] 36) = w1 := ⟨_, rfl⟩
  obtain ⟨hb1, hx1, hy1, hs1⟩ := two_newG hw1
  have HX1 := Lib.hid hx1
  have HY1 := Lib.hid hy1
  have HB1 := Lib.hid hb1
  have HS1 := Lib.hid hs1
  have HND := Lib.hid hnd
  have HHL := Lib.hid (And.intro hL hn)
  have HTT := Lib.hid hT
  have HLL := Lib.hid hl
  clear hx1 hs1 hy1 hb1 hsm hss hk hnd hL hn hl hT
  go_enter Tryd.func66, Tryd.ntmps66
  go_upto_region 1 with fail
  clear hw1
  have HKS : Hid (∀ V, Below w1.heap.size w1 V → (V.heap[w.heap.size]? = some (.cells #[.int .u64 (s : Int), .int .i64 n, .int .i64 ((l : Nat) : Int), .int .u32 (bb : Int), .slice a1 n1 c1, .slice a2 n2 c2] 36 (0, 0)))) := fun V hV => (hV.block _ (by have := HS1.out; omega)).trans HX1.out
  have HW : Hid (Below w1.heap.size w1 w1.drew) := drawn_below w1
  refine wp_region_T (S := (fun V => V.heap[w.heap.size]? = some (.cells #[.int .u64 (s : Int), .int .i64 n, .int .i64 ((l : Nat) : Int), .int .u32 (bb : Int), .slice a1 n1 c1, .slice a2 n2 c2] 36 (0, 0)))) [] (by kernel_rfl) (by exact HKS.out _ HW.out) (fun hHeld => ?_)
  refine wpAnyT_take (i := 0) (oi := ⟨some 6, _, _, _, _, _⟩) (v := ?vg3_0) rfl (by kernel_rfl) (by kernel_rfl) (by kernel_rfl) (by kernel_rfl) (fun _ _ _ h => h) (Or.inl ⟨by rfl, ?hg3_0⟩) (by assumption) ?rg3_0
  case hg3_0 => (intro w hSw; (try dsimp only at hSw); first | (go_simp; done) | (go_simp; with_reducible rfl))
  (try simp only [Act.put, List.setIfInBounds_toArray, List.set_cons_zero, List.set_cons_succ])
  refine wpAnyT_take (i := 1) (oi := ⟨some 7, _, _, _, _, _⟩) (v := _) rfl (by kernel_rfl) (by kernel_rfl) (by kernel_rfl) (by kernel_rfl) (fun _ _ _ h => h) (yieldsIf_arr (by rfl) 34 _ rfl w.heap.size 3 rfl #[.int .u32 (bb : Int), .slice a1 n1 c1, .slice a2 n2 c2] _ (fun w hw => (map_range hw)) Tryd.underlying34 rfl (by exact nd_size)) (by assumption) ?_
  (try simp only [Act.put, List.setIfInBounds_toArray, List.set_cons_zero, List.set_cons_succ])
  refine wpAnyT_take (i := 2) (oi := ⟨some 8, _, _, _, _, _⟩) (v := _) rfl (by kernel_rfl) (by kernel_rfl) (by kernel_rfl) (by kernel_rfl) (fun _ _ _ h => h) (yieldsIf_load_row (by rfl) 36 _ rfl w.heap.size rfl #[.int .u64 (s : Int), .int .i64 n, .int .i64 ((l : Nat) : Int), .int .u32 (bb : Int), .slice a1 n1 c1, .slice a2 n2 c2] 36 (0, 0) _ (fun w hw => hw) Tryd.underlying36 rfl (by exact map_size)) (by assumption) ?_
  (try simp only [Act.put, List.setIfInBounds_toArray, List.set_cons_zero, List.set_cons_succ])
  refine wpAnyT_take (i := 3) (oi := ⟨some 9, _, _, _, _, _⟩) (v := ?vg3_3) rfl (by kernel_rfl) (by kernel_rfl) (by kernel_rfl) (by kernel_rfl) (fun _ _ _ h => h) (Or.inl ⟨by rfl, ?hg3_3⟩) (by assumption) ?rg3_3
  case hg3_3 => (intro w hSw; (try dsimp only at hSw); first | (go_simp; done) | (go_simp; with_reducible rfl))
  (try simp only [Act.put, List.setIfInBounds_toArray, List.set_cons_zero, List.set_cons_succ])
  refine wpAnyT_take (i := 5) (oi := ⟨some 11, _, _, _, _, _⟩) (v := ?vg3_5) rfl (by kernel_rfl) (by kernel_rfl) (by kernel_rfl) (by kernel_rfl) (fun _ _ _ h => h) (Or.inl ⟨by rfl, ?hg3_5⟩) (by assumption) ?rg3_5
  case hg3_5 => (intro w hSw; (try dsimp only at hSw); first | (go_simp; done) | (go_simp; with_reducible rfl))
  (try simp only [Act.put, List.setIfInBounds_toArray, List.set_cons_zero, List.set_cons_succ])
  refine wpAnyT_one (i := 4) (o := ⟨some 10, _, _, _, _, _⟩) (by kernel_rfl) rfl (fun K hK => ?_)
  go_simp
  go_at_call 69
  refine (HSUM.out _).mono ?_
  rintro r w2 ⟨rfl, hb⟩
  replace HW := Lib.hid (HW.out.trans (hb.mono HW.out.size))
  clear hb
  dsimp only
  refine hK.out _ _ (by exact HKS.out _ HW.out) (fun hHeld => ?_)
  clear hK K
  (try simp only [Act.put, List.setIfInBounds_toArray, List.set_cons_zero, List.set_cons_succ])
  refine wpAnyT_one (i := 6) (o := ⟨some 12, _, _, _, _, _⟩) (by kernel_rfl) rfl (fun K hK => ?_)
  go_simp
  go_at_call 68
  refine (HFI.out _ (HB1.out.trans (HW.out.mono HB1.out.size))).mono ?_
  rintro r w3 ⟨p, rfl, hp, hb⟩
  have HFO := Lib.hid hp
  replace HW := Lib.hid (HW.out.trans (hb.mono HW.out.size))
  clear hb hp
  dsimp only
  refine hK.out _ _ (by exact HKS.out _ HW.out) (fun hHeld => ?_)
  clear hK K
  (try simp only [Act.put, List.setIfInBounds_toArray, List.set_cons_zero, List.set_cons_succ])
  refine wpAnyT_take (i := 7) (oi := ⟨some 5, _, _, _, _, _⟩) (v := ?vg3_7) rfl (by kernel_rfl) (by kernel_rfl) (by kernel_rfl) (by kernel_rfl) (fun _ _ _ h => h) (Or.inl ⟨by rfl, ?hg3_7⟩) (by assumption) ?rg3_7
  case hg3_7 => (intro w hSw; (try dsimp only at hSw); first | (go_simp; done) | (go_simp; with_reducible rfl))
  (try simp only [Act.put, List.setIfInBounds_toArray, List.set_cons_zero, List.set_cons_succ])
  refine wpAnyT_done (by kernel_rfl) ?_ _
  clear hHeld
  have HX3 := Lib.hid (HKS.out _ HW.out)
  have HY3 := Lib.hid ((HW.out.block _ (by have := HS1.out; omega)).trans HY1.out)
  have HWW := Lib.hid (HB1.out.trans (HW.out.mono HB1.out.size))
  have HSL : Hid (w.heap.size + 2 ≤ w3.heap.size) := by show _ ≤ _; have := HW.out.size; have := HS1.out; omega
  clear HKS HW
  have hp := HFO.out
  unfold Found at hp
  cases hg : getE L k with
  | none =>
    rw [hg] at hp
    obtain rfl : p = none := hp
    have HGG := Lib.hid hg
    clear hg HFO
    unfold pv
    go_wp2_with (first
      | (refine ld_if (by rfl) 36 _ rfl w.heap.size rfl 36 _ _ _ HX3.out Tryd.underlying36 rfl map_size ?_)
      | (refine st_agg rfl 36 _ _ rfl (w.heap.size + 1) #[.int .u64 (s : Int), .int .i64 n, .int .i64 ((l : Nat) : Int), .int .u32 (bb : Int), .slice a1 n1 c1, .slice a2 n2 c2] rfl rfl 36 _ HY3.out map_size rfl (by simp [Value.oneCell']) ?_; intro w6 h6 k6))
    refine bodyPost_ret (results_cell_row rfl _ _ (w.heap.size + 1) 36 _ (0, 0) _ rfl h6 Tryd.underlying36 rfl map_size) rfl ⟨_, rfl, ?_, HWW.out.trans (k6.below (by omega))⟩
    rw [del_none HGG.out, HLL.out]
    have hm : MapAt S w s n L #[.int .u64 (s : Int), .int .i64 n, .int .i64 ((L.length : Nat) : Int), .int .u32 (bb : Int), .slice a1 n1 c1, .slice a2 n2 c2] := ⟨_, _, _, _, _, _, _, rfl, HND.out⟩
    exact (hm.later (HWW.out.trans (k6.below (by omega)))).weak fun _ h => .inl h
  | some x =>
    rw [hg] at hp
    obtain ⟨b, rfl, hb⟩ := hp
    have HGG := Lib.hid hg
    have hl0 : 0 < l := by
      rw [HLL.out]
      exact List.length_pos_of_mem ((get_mem HHL.out.1).1 hg)
    have hwr : IntKind.i64.wrap ((l : Int) - 1) = ((l - 1 : Nat) : Int) := by
      have := HHL.out.2
      have := HLL.out
      rw [IntKind.wrap_i64]
      omega
    have hwr2 : wrap64 ((l : Int) - 1) = ((l - 1 : Nat) : Int) := by
      have := HHL.out.2
      have := HLL.out
      unfold wrap64
      omega
    have HL0 := Lib.hid hl0
    have cx2 : w3.cell? ⟨w.heap.size, 2, none⟩ = some (.int .i64 (l : Int)) := cell_in HX3.out rfl
    have HE3 := Lib.hid hb
    have HWO := Lib.hid (fun W (hb' : Below w.heap.size w W) (he : EntAt (hsN s n) (fun g => S g ∧ g < w.heap.size) W b (k, x)) => hm_without (hsN s n) (hsN_lt s n) 13 (Nat.le_refl _) (fun g => S g ∧ g < w.heap.size) W L _ b k x (HND.out.old.later hb') HHL.out.1 HHL.out.2 (by rw [HGG.out]; rfl) (fun h => by cases h) he (HTT.out.below hb'))
    rw [show (((13 - 13 : Nat) : Nat) : Int) = 0 from rfl] at HWO
    unfold pv at HWO ⊢
    clear hg hb HFO hl0
    go_wp2_with (first
      | (refine st_cell rfl 3 _ _ rfl w.heap.size 2 (.int .i64 ((l - 1 : Nat) : Int)) rfl rfl rfl 36 _ HX3.out int_sz (by simp) ?_; intro w4 h4 k4; have HX4 : Hid (w4.heap[w.heap.size]? = some (.cells #[.int .u64 (s : Int), .int .i64 n, .int .i64 (((l - 1) : Nat) : Int), .int .u32 (bb : Int), .slice a1 n1 c1, .slice a2 n2 c2] 36 (0, 0))) := h4; have HY4 := Lib.hid (k4.other HY3.out (by omega)); have HB4 := Lib.hid (HWW.out.trans (k4.below (Nat.le_refl _))); have HSL4 := Lib.hid k4.size; have HC4 := Lib.hid (HWO.out w4 HB4.out (HE3.out.kp (Kp.only k4 (fun h => Nat.lt_irrefl _ h.2)))); clear h4 k4 cx2)
      | (refine wpList_load_mid rfl 34 _ rfl w.heap.size 3 rfl [.int .u32 (bb : Int), .slice a1 n1 c1, .slice a2 n2 c2] _ (map_range HX4.out) Tryd.underlying34 rfl nd_size ?_)
      | (go_at_call 77; (with_reducible refine HC4.out.mono ?_); rintro r w5 ⟨c5, rfl, hn5, hb5⟩; have HN5 := Lib.hid hn5; obtain ⟨bb5, b1, m1, d1, b2, m2, d2, rfl⟩ := hn5.three; have HX5 := Lib.hid ((hb5.block _ (by have := HSL.out; have := HSL4.out; omega)).trans HX4.out); have HY5 := Lib.hid ((hb5.block _ (by have := HSL.out; have := HSL4.out; omega)).trans HY4.out); have HB5 := Lib.hid (HB4.out.trans (hb5.mono HB4.out.size)); clear hn5 hb5)
      | (refine st_mid rfl 34 _ _ rfl w.heap.size 3 #[.int .u32 (bb5 : Int), .slice b1 m1 d1, .slice b2 m2 d2] rfl rfl 36 _ HX5.out nd_size (by simp) (by simp [Value.oneCell']) _ (map_mid _ _ _ _ _ _ _ _ _) ?_; intro w6 h6 k6; have HX6 := Lib.hid h6; have HK6 := Lib.hid k6; have HY6 := Lib.hid (k6.other HY5.out (by omega)); have HB6 := Lib.hid (HB5.out.trans (k6.below (Nat.le_refl _))); clear h6 k6)
      | (refine ld_if (by rfl) 36 _ rfl w.heap.size rfl 36 _ _ _ HX6.out Tryd.underlying36 rfl map_size ?_)
      | (refine st_agg rfl 36 _ _ rfl (w.heap.size + 1) #[.int .u64 (s : Int), .int .i64 n, .int .i64 ((l - 1 : Nat) : Int), .int .u32 (bb5 : Int), .slice b1 m1 d1, .slice b2 m2 d2] rfl rfl 36 _ HY6.out map_size rfl (by simp [Value.oneCell']) ?_; intro w7 h7 k7))
    refine bodyPost_ret (results_cell_row rfl _ _ (w.heap.size + 1) 36 _ (0, 0) _ rfl h7 Tryd.underlying36 rfl map_size) rfl ⟨_, rfl, ?_, HB6.out.trans (k7.below (by omega))⟩
    have h1 := HSL.out
    have h2 := HSL4.out
    refine ⟨bb5, b1, m1, d1, b2, m2, d2, ?_, ?_⟩
    · rw [len_del HHL.out.1, HGG.out, ← HLL.out]
      rfl
    · exact ((HN5.out.kp (Kp.only HK6.out (fun h => by omega))).kp (Kp.only k7 (fun h => by omega))).weak fun g hg => by
        rcases hg with hg | hg
        · exact .inl hg.1
        · exact .inr (by omega)
end Go.Proofs.YtnnlfgfgfegjkaaDoor

/- Package hamt: Set. (written by tools/gen09/map12.py) -/
namespace Go.Proofs.YtnnlfgfgfegjkaaDoor
open Go.RowKit
set_option maxRecDepth 1000000
set_option linter.unusedSimpArgs false

set_option maxHeartbeats 4000000 in
theorem hm_Set {S : Nat → Prop} (w : World) (s : Nat) (hss : s < 18446744073709551616) (n : Int) (L : List Ent) (c : Array Value) (k : ByteArray) (x : Int) (hk : k.size ≤ 9223372036854775800) (h : MapAt S w s n L c) (hL : Rise L) (hn : L.length ≤ 50000) (hT : Tab6 w) :
    Calls Tryd.prog 49 #[.agg c, .string k, .int .i64 x] w fun r w' => ∃ c', r = .returned (.agg c') ∧ MapAt (fun g => S g ∨ w.heap.size ≤ g) w' s n (insE L k x) c' ∧ Below w.heap.size w w' := by
  obtain ⟨bb, a1, n1, c1, a2, n2, c2, rfl, hnd⟩ := h
  obtain ⟨l, hl⟩ : ∃ l, l = L.length := ⟨_, rfl⟩
  rw [← hl]
  have HSUM := Lib.hid (fun W => hm_Sum W s hss n l bb a1 n1 c1 a2 n2 c2 k hk)
  have hfi := (fun W (hb : Below w.heap.size w W) => hm_find (hsN s n) (hsN_lt s n) 13 (Nat.le_refl _) (fun g => S g ∧ g < w.heap.size) W L _ k (hnd.old.later hb) hL (Nat.le_trans hn (by omega)))
  rw [show (((13 - 13 : Nat) : Nat) : Int) = 0 from rfl] at hfi
  have HWI := Lib.hid (fun W (hb' : Below w.heap.size w W) b (he : EntAt (hsN s n) (fun g => (S g ∧ g < w.heap.size) ∨ w.heap.size + 2 ≤ g) W b (k, x)) => hm_with (hsN s n) (hsN_lt s n) 13 (Nat.le_refl _) (fun g => (S g ∧ g < w.heap.size) ∨ w.heap.size + 2 ≤ g) W L _ b k x ((hnd.old.later hb').weak fun _ h => .inl h) hL hn he (hT.below hb'))
  rw [show (((13 - 13 : Nat) : Nat) : Int) = 0 from rfl] at HWI
  obtain ⟨sm, hsm⟩ : ∃ sm, sm = hsN s n k := ⟨_, rfl⟩
  rw [← hsm] at HSUM hfi
  have hent : entC (hsN s n) (k, x) = #[.string k, .int .u64 (sm : Int), .int .i64 x] := by rw [hsm]; rfl
  unfold EntAt at HWI
  rw [hent] at HWI
  obtain ⟨w1, hw1⟩ : ∃ w1, (w.alloc (.cells #[.int .u64 (s : Int), .int .i64 n, .int .i64 ((l : Nat) : Int), .int .u32 (bb : Int), .slice a1 n1 c1, .slice a2 n2 c2] 36)).alloc (.cells #[.int .u64 0, .int .i64 0, .int .i64 0, .int .u32 0, .slice none 0 0, .slice none 0 0] 36) = w1 := ⟨_, rfl⟩
  obtain ⟨hb1, hx1, hy1, hs1⟩ := two_newG hw1
  have HX1 := Lib.hid hx1
  have HY1 := Lib.hid hy1
  have HB1 := Lib.hid hb1
  have HS1 := Lib.hid hs1
  have HHL := Lib.hid (And.intro hL hn)
  have HLL := Lib.hid hl
  cases hg : getE L k with
  | none =>
    have HFI : Hid (∀ W, Below w.heap.size w W → Calls Tryd.prog 68 #[.agg #[.int .u32 (bb : Int), .slice a1 n1 c1, .slice a2 n2 c2], .int .i64 0, .int .u64 (sm : Int), .string k] W fun r w' => r = .returned (.pointer none) ∧ Below W.heap.size W w') := fun W hb => (hfi W hb).mono fun _ _ h => by
      obtain ⟨p, h1, h2, h3⟩ := h
      unfold Found at h2
      rw [hg] at h2
      have h2 : p = none := h2
      subst h2
      exact ⟨h1, h3⟩
    have HGG := Lib.hid hg
    clear hx1 hs1 hy1 hb1 hsm hss hk hnd hL hn hl hT hfi hent hg
    unfold pv at HWI
    go_enter Tryd.func49, Tryd.ntmps49
    go_upto_region 1 with fail
    clear hw1
    go_upto_region 2 with (first
      | (refine ld_if (by rfl) 36 _ rfl w.heap.size rfl 36 _ _ _ HX1.out Tryd.underlying36 rfl map_size ?_)
      | (go_at_call 69; refine (HSUM.out _).mono ?_; rintro r w2 ⟨rfl, hb⟩; have HX2 := Lib.hid ((hb.block _ (by have := HS1.out; omega)).trans HX1.out); have HY2 := Lib.hid ((hb.block _ (by have := HS1.out; omega)).trans HY1.out); have HB2' := Lib.hid (HB1.out.trans (hb.mono HB1.out.size)); have HS2 : Hid (w.heap.size + 2 ≤ w2.heap.size) := (by show _ ≤ _; have := hb.size; have := HS1.out; omega); clear hb))
    obtain ⟨X, hX⟩ : ∃ X, X = w2.heap.size := ⟨_, rfl⟩
    obtain ⟨V2, hV2⟩ : ∃ V2, w2.alloc (.cells #[.string k, .int .u64 (sm : Int), .int .i64 x] 110) = V2 := ⟨_, rfl⟩
    rw [hV2, ← hX]
    obtain ⟨hb2, he2, hs2⟩ := new_below hV2
    rw [← hX] at he2 hs2
    have HXX : Hid (w.heap.size + 2 ≤ X) := by show _ ≤ _; rw [hX]; exact HS2.out
    have HB2 := Lib.hid (HB2'.out.trans (hb2.mono HB2'.out.size))
    have HE2 := Lib.hid he2
    have HXV := Lib.hid ((hb2.block _ (by have := HS2.out; omega)).trans HX2.out)
    have HYV := Lib.hid ((hb2.block _ (by have := HS2.out; omega)).trans HY2.out)
    have HSV := Lib.hid hs2
    clear hX hV2 hb2 he2 hs2
    have HKS : Hid (∀ V, Below V2.heap.size V2 V → (V.heap[w.heap.size]? = some (.cells #[.int .u64 (s : Int), .int .i64 n, .int .i64 ((l : Nat) : Int), .int .u32 (bb : Int), .slice a1 n1 c1, .slice a2 n2 c2] 36 (0, 0)) ∧ V.cell? ⟨X, 1, none⟩ = some (.int .u64 (sm : Int)))) := fun V hV =>
      ⟨(hV.block _ (by have := HSV.out; have := HXX.out; omega)).trans HXV.out, cell_in ((hV.block _ (by have := HSV.out; omega)).trans HE2.out) rfl⟩
    have HW : Hid (Below V2.heap.size V2 V2.drew) := drawn_below V2
    refine wp_region_T (S := (fun V => V.heap[w.heap.size]? = some (.cells #[.int .u64 (s : Int), .int .i64 n, .int .i64 ((l : Nat) : Int), .int .u32 (bb : Int), .slice a1 n1 c1, .slice a2 n2 c2] 36 (0, 0)) ∧ V.cell? ⟨X, 1, none⟩ = some (.int .u64 (sm : Int)))) [] (by kernel_rfl) (by exact HKS.out _ HW.out) (fun hHeld => ?_)
    refine wpAnyT_take (i := 0) (oi := ⟨some 15, _, _, _, _, _⟩) (v := ?vg3_0) rfl (by kernel_rfl) (by kernel_rfl) (by kernel_rfl) (by kernel_rfl) (fun _ _ _ h => h) (Or.inl ⟨by rfl, ?hg3_0⟩) (by assumption) ?rg3_0
    case hg3_0 => (intro w hSw; (try dsimp only at hSw); first | (go_simp; done) | (go_simp; with_reducible rfl))
    (try simp only [Act.put, List.setIfInBounds_toArray, List.set_cons_zero, List.set_cons_succ])
    refine wpAnyT_take (i := 1) (oi := ⟨some 16, _, _, _, _, _⟩) (v := _) rfl (by kernel_rfl) (by kernel_rfl) (by kernel_rfl) (by kernel_rfl) (fun _ _ _ h => h) (yieldsIf_arr (by rfl) 34 _ rfl w.heap.size 3 rfl #[.int .u32 (bb : Int), .slice a1 n1 c1, .slice a2 n2 c2] _ (fun w hw => (map_range hw.1)) Tryd.underlying34 rfl (by exact nd_size)) (by assumption) ?_
    (try simp only [Act.put, List.setIfInBounds_toArray, List.set_cons_zero, List.set_cons_succ])
    refine wpAnyT_take (i := 2) (oi := ⟨some 17, _, _, _, _, _⟩) (v := ?vg3_2) rfl (by kernel_rfl) (by kernel_rfl) (by kernel_rfl) (by kernel_rfl) (fun _ _ _ h => h) (Or.inl ⟨by rfl, ?hg3_2⟩) (by assumption) ?rg3_2
    case hg3_2 => (intro w hSw; (try dsimp only at hSw); first | (go_simp; done) | (go_simp; with_reducible rfl))
    (try simp only [Act.put, List.setIfInBounds_toArray, List.set_cons_zero, List.set_cons_succ])
    refine wpAnyT_take (i := 3) (oi := ⟨some 18, _, _, _, _, _⟩) (v := ?vg3_3) rfl (by kernel_rfl) (by kernel_rfl) (by kernel_rfl) (by kernel_rfl) (fun _ _ _ h => h) (Or.inl ⟨by rfl, ?hg3_3⟩) (by assumption) ?rg3_3
    case hg3_3 => (intro w hSw; (try dsimp only at hSw); first | (go_simp; done) | (go_simp; with_reducible rfl))
    (try simp only [Act.put, List.setIfInBounds_toArray, List.set_cons_zero, List.set_cons_succ])
    refine wpAnyT_take (i := 4) (oi := ⟨some 19, _, _, _, _, _⟩) (v := ?vg3_4) rfl (by kernel_rfl) (by kernel_rfl) (by kernel_rfl) (by kernel_rfl) (fun _ _ _ h => h) (Or.inl ⟨by rfl, ?hg3_4⟩) (by assumption) ?rg3_4
    case hg3_4 => (intro w hSw; (try dsimp only at hSw); first | (go_simp; done) | (go_simp; with_reducible rfl))
    (try simp only [Act.put, List.setIfInBounds_toArray, List.set_cons_zero, List.set_cons_succ])
    refine wpAnyT_take (i := 5) (oi := ⟨some 20, _, _, _, _, _⟩) (v := ?vg3_5) rfl (by kernel_rfl) (by kernel_rfl) (by kernel_rfl) (by kernel_rfl) (fun _ _ _ h => h) (Or.inl ⟨by rfl, ?hg3_5⟩) (by assumption) ?rg3_5
    case hg3_5 => (intro w hSw; (try dsimp only at hSw); first | (go_simp; done) | (go_simp; with_reducible rfl))
    (try simp only [Act.put, List.setIfInBounds_toArray, List.set_cons_zero, List.set_cons_succ])
    refine wpAnyT_take (i := 6) (oi := ⟨some 21, _, _, _, _, _⟩) (v := ?vg3_6) rfl (by kernel_rfl) (by kernel_rfl) (by kernel_rfl) (by kernel_rfl) (fun _ _ _ h => h) (Or.inl ⟨by rfl, ?hg3_6⟩) (by assumption) ?rg3_6
    case hg3_6 => (intro w hSw; (try dsimp only at hSw); first | (go_simp; done) | (go_simp; with_reducible rfl))
    (try simp only [Act.put, List.setIfInBounds_toArray, List.set_cons_zero, List.set_cons_succ])
    refine wpAnyT_one (i := 7) (o := ⟨some 22, _, _, _, _, _⟩) (by kernel_rfl) rfl (fun K hK => ?_)
    go_simp
    go_at_call 68
    refine (HFI.out _ (HB2.out.trans (HW.out.mono HB2.out.size))).mono ?_
    rintro r w3 ⟨rfl, hb⟩
    replace HW := Lib.hid (HW.out.trans (hb.mono HW.out.size))
    clear hb
    dsimp only
    refine hK.out _ _ (by exact HKS.out _ HW.out) (fun hHeld => ?_)
    clear hK K
    (try simp only [Act.put, List.setIfInBounds_toArray, List.set_cons_zero, List.set_cons_succ])
    refine wpAnyT_take (i := 8) (oi := ⟨some 23, _, _, _, _, _⟩) (v := ?vg3_8) rfl (by kernel_rfl) (by kernel_rfl) (by kernel_rfl) (by kernel_rfl) (fun _ _ _ h => h) (Or.inl ⟨by rfl, ?hg3_8⟩) (by assumption) ?rg3_8
    case hg3_8 => (intro w hSw; (try dsimp only at hSw); first | (go_simp; done) | (go_simp; with_reducible rfl))
    (try simp only [Act.put, List.setIfInBounds_toArray, List.set_cons_zero, List.set_cons_succ])
    refine wpAnyT_done (by kernel_rfl) ?_ _
    clear hHeld
    have HX3 := Lib.hid (HKS.out _ HW.out).1
    have HY3 := Lib.hid ((HW.out.block _ (by have := HSV.out; have := HXX.out; omega)).trans HYV.out)
    have HE3 := Lib.hid ((HW.out.block _ (by have := HSV.out; omega)).trans HE2.out)
    have HWW := Lib.hid (HB2.out.trans (HW.out.mono HB2.out.size))
    have HSL : Hid (X < w3.heap.size) := by show _ < _; have := HW.out.size; have := HSV.out; omega
    clear HKS HW
    have cx2 : w3.cell? ⟨w.heap.size, 2, none⟩ = some (.int .i64 (l : Int)) := cell_in HX3.out rfl
    obtain ⟨l5, hl5⟩ : ∃ l5, l5 = l + 1 := ⟨_, rfl⟩
    have HL5 := Lib.hid hl5
    have hwr2 : wrap64 ((l : Int) + 1) = (l5 : Int) := by
      have := HHL.out.2
      have := HLL.out
      unfold wrap64
      omega
    have hwr : IntKind.i64.wrap ((l : Int) + 1) = (l5 : Int) := by
      have := HHL.out.2
      have := HLL.out
      rw [IntKind.wrap_i64]
      omega
    clear hl5
    go_wp2_with (first
      | (refine st_cell rfl 3 _ _ rfl w.heap.size 2 (.int .i64 (l5 : Int)) rfl rfl rfl 36 _ HX3.out int_sz (by simp) ?_; intro w4 h4 k4; have HX4 : Hid (w4.heap[w.heap.size]? = some (.cells #[.int .u64 (s : Int), .int .i64 n, .int .i64 ((l5 : Nat) : Int), .int .u32 (bb : Int), .slice a1 n1 c1, .slice a2 n2 c2] 36 (0, 0))) := h4; have HY4 := Lib.hid (k4.other HY3.out (by omega)); have HE4 := Lib.hid (k4.other HE3.out (by have := HXX.out; omega)); have HB4 := Lib.hid (HWW.out.trans (k4.below (Nat.le_refl _))); have HSL4 := Lib.hid k4.size; have HC4 := Lib.hid (HWI.out w4 HB4.out X ⟨.inr HXX.out, _, HE4.out⟩); clear h4 k4 cx2)
      | (refine wpList_load_mid rfl 34 _ rfl w.heap.size 3 rfl [.int .u32 (bb : Int), .slice a1 n1 c1, .slice a2 n2 c2] _ (map_range HX4.out) Tryd.underlying34 rfl nd_size ?_)
      | (go_at_call 70; (with_reducible refine HC4.out.mono ?_); rintro r w5 ⟨c5, rfl, hn5, hb5⟩; have HN5 := Lib.hid hn5; obtain ⟨bb5, b1, m1, d1, b2, m2, d2, rfl⟩ := hn5.three; have HX5 := Lib.hid ((hb5.block _ (by have := HSL.out; have := HSL4.out; have := HXX.out; omega)).trans HX4.out); have HY5 := Lib.hid ((hb5.block _ (by have := HSL.out; have := HSL4.out; have := HXX.out; omega)).trans HY4.out); have HB5 := Lib.hid (HB4.out.trans (hb5.mono HB4.out.size)); clear hn5 hb5)
      | (refine st_mid rfl 34 _ _ rfl w.heap.size 3 #[.int .u32 (bb5 : Int), .slice b1 m1 d1, .slice b2 m2 d2] rfl rfl 36 _ HX5.out nd_size (by simp) (by simp [Value.oneCell']) _ (map_mid _ _ _ _ _ _ _ _ _) ?_; intro w6 h6 k6; have HX6 := Lib.hid h6; have HK6 := Lib.hid k6; have HY6 := Lib.hid (k6.other HY5.out (by omega)); have HB6 := Lib.hid (HB5.out.trans (k6.below (Nat.le_refl _))); clear h6 k6)
      | (refine ld_if (by rfl) 36 _ rfl w.heap.size rfl 36 _ _ _ HX6.out Tryd.underlying36 rfl map_size ?_)
      | (refine st_agg rfl 36 _ _ rfl (w.heap.size + 1) #[.int .u64 (s : Int), .int .i64 n, .int .i64 ((l5 : Nat) : Int), .int .u32 (bb5 : Int), .slice b1 m1 d1, .slice b2 m2 d2] rfl rfl 36 _ HY6.out map_size rfl (by simp [Value.oneCell']) ?_; intro w7 h7 k7))
    refine bodyPost_ret (results_cell_row rfl _ _ (w.heap.size + 1) 36 _ (0, 0) _ rfl h7 Tryd.underlying36 rfl map_size) rfl ⟨_, rfl, ?_, HB6.out.trans (k7.below (by omega))⟩
    have h1 := HSL.out
    have h2 := HSL4.out
    have h3 := HXX.out
    refine ⟨bb5, b1, m1, d1, b2, m2, d2, ?_, ?_⟩
    · rw [len_ins HHL.out.1, HGG.out, ← HLL.out]
      first | rfl | rw [HL5.out]; rfl
    · exact ((HN5.out.kp (Kp.only HK6.out (fun h => by omega))).kp (Kp.only k7 (fun h => by omega))).weak fun g hg => by
        rcases hg with (hg | hg) | hg
        · exact .inl hg.1
        · exact .inr (by omega)
        · exact .inr (by omega)
  | some y =>
    have HFI : Hid (∀ W, Below w.heap.size w W → Calls Tryd.prog 68 #[.agg #[.int .u32 (bb : Int), .slice a1 n1 c1, .slice a2 n2 c2], .int .i64 0, .int .u64 (sm : Int), .string k] W fun r w' => ∃ b : Nat, r = .returned (.pointer (some ⟨b, 0, none⟩)) ∧ Below W.heap.size W w') := fun W hb => (hfi W hb).mono fun _ _ h => by
      obtain ⟨p, h1, h2, h3⟩ := h
      unfold Found at h2
      rw [hg] at h2
      obtain ⟨b, rfl, _⟩ := h2
      exact ⟨b, h1, h3⟩
    have HGG := Lib.hid hg
    clear hx1 hs1 hy1 hb1 hsm hss hk hnd hL hn hl hT hfi hent hg
    unfold pv at HWI
    go_enter Tryd.func49, Tryd.ntmps49
    go_upto_region 1 with fail
    clear hw1
    go_upto_region 2 with (first
      | (refine ld_if (by rfl) 36 _ rfl w.heap.size rfl 36 _ _ _ HX1.out Tryd.underlying36 rfl map_size ?_)
      | (go_at_call 69; refine (HSUM.out _).mono ?_; rintro r w2 ⟨rfl, hb⟩; have HX2 := Lib.hid ((hb.block _ (by have := HS1.out; omega)).trans HX1.out); have HY2 := Lib.hid ((hb.block _ (by have := HS1.out; omega)).trans HY1.out); have HB2' := Lib.hid (HB1.out.trans (hb.mono HB1.out.size)); have HS2 : Hid (w.heap.size + 2 ≤ w2.heap.size) := (by show _ ≤ _; have := hb.size; have := HS1.out; omega); clear hb))
    obtain ⟨X, hX⟩ : ∃ X, X = w2.heap.size := ⟨_, rfl⟩
    obtain ⟨V2, hV2⟩ : ∃ V2, w2.alloc (.cells #[.string k, .int .u64 (sm : Int), .int .i64 x] 110) = V2 := ⟨_, rfl⟩
    rw [hV2, ← hX]
    obtain ⟨hb2, he2, hs2⟩ := new_below hV2
    rw [← hX] at he2 hs2
    have HXX : Hid (w.heap.size + 2 ≤ X) := by show _ ≤ _; rw [hX]; exact HS2.out
    have HB2 := Lib.hid (HB2'.out.trans (hb2.mono HB2'.out.size))
    have HE2 := Lib.hid he2
    have HXV := Lib.hid ((hb2.block _ (by have := HS2.out; omega)).trans HX2.out)
    have HYV := Lib.hid ((hb2.block _ (by have := HS2.out; omega)).trans HY2.out)
    have HSV := Lib.hid hs2
    clear hX hV2 hb2 he2 hs2
    have HKS : Hid (∀ V, Below V2.heap.size V2 V → (V.heap[w.heap.size]? = some (.cells #[.int .u64 (s : Int), .int .i64 n, .int .i64 ((l : Nat) : Int), .int .u32 (bb : Int), .slice a1 n1 c1, .slice a2 n2 c2] 36 (0, 0)) ∧ V.cell? ⟨X, 1, none⟩ = some (.int .u64 (sm : Int)))) := fun V hV =>
      ⟨(hV.block _ (by have := HSV.out; have := HXX.out; omega)).trans HXV.out, cell_in ((hV.block _ (by have := HSV.out; omega)).trans HE2.out) rfl⟩
    have HW : Hid (Below V2.heap.size V2 V2.drew) := drawn_below V2
    refine wp_region_T (S := (fun V => V.heap[w.heap.size]? = some (.cells #[.int .u64 (s : Int), .int .i64 n, .int .i64 ((l : Nat) : Int), .int .u32 (bb : Int), .slice a1 n1 c1, .slice a2 n2 c2] 36 (0, 0)) ∧ V.cell? ⟨X, 1, none⟩ = some (.int .u64 (sm : Int)))) [] (by kernel_rfl) (by exact HKS.out _ HW.out) (fun hHeld => ?_)
    refine wpAnyT_take (i := 0) (oi := ⟨some 15, _, _, _, _, _⟩) (v := ?vg4_0) rfl (by kernel_rfl) (by kernel_rfl) (by kernel_rfl) (by kernel_rfl) (fun _ _ _ h => h) (Or.inl ⟨by rfl, ?hg4_0⟩) (by assumption) ?rg4_0
    case hg4_0 => (intro w hSw; (try dsimp only at hSw); first | (go_simp; done) | (go_simp; with_reducible rfl))
    (try simp only [Act.put, List.setIfInBounds_toArray, List.set_cons_zero, List.set_cons_succ])
    refine wpAnyT_take (i := 1) (oi := ⟨some 16, _, _, _, _, _⟩) (v := _) rfl (by kernel_rfl) (by kernel_rfl) (by kernel_rfl) (by kernel_rfl) (fun _ _ _ h => h) (yieldsIf_arr (by rfl) 34 _ rfl w.heap.size 3 rfl #[.int .u32 (bb : Int), .slice a1 n1 c1, .slice a2 n2 c2] _ (fun w hw => (map_range hw.1)) Tryd.underlying34 rfl (by exact nd_size)) (by assumption) ?_
    (try simp only [Act.put, List.setIfInBounds_toArray, List.set_cons_zero, List.set_cons_succ])
    refine wpAnyT_take (i := 2) (oi := ⟨some 17, _, _, _, _, _⟩) (v := ?vg4_2) rfl (by kernel_rfl) (by kernel_rfl) (by kernel_rfl) (by kernel_rfl) (fun _ _ _ h => h) (Or.inl ⟨by rfl, ?hg4_2⟩) (by assumption) ?rg4_2
    case hg4_2 => (intro w hSw; (try dsimp only at hSw); first | (go_simp; done) | (go_simp; with_reducible rfl))
    (try simp only [Act.put, List.setIfInBounds_toArray, List.set_cons_zero, List.set_cons_succ])
    refine wpAnyT_take (i := 3) (oi := ⟨some 18, _, _, _, _, _⟩) (v := ?vg4_3) rfl (by kernel_rfl) (by kernel_rfl) (by kernel_rfl) (by kernel_rfl) (fun _ _ _ h => h) (Or.inl ⟨by rfl, ?hg4_3⟩) (by assumption) ?rg4_3
    case hg4_3 => (intro w hSw; (try dsimp only at hSw); first | (go_simp; done) | (go_simp; with_reducible rfl))
    (try simp only [Act.put, List.setIfInBounds_toArray, List.set_cons_zero, List.set_cons_succ])
    refine wpAnyT_take (i := 4) (oi := ⟨some 19, _, _, _, _, _⟩) (v := ?vg4_4) rfl (by kernel_rfl) (by kernel_rfl) (by kernel_rfl) (by kernel_rfl) (fun _ _ _ h => h) (Or.inl ⟨by rfl, ?hg4_4⟩) (by assumption) ?rg4_4
    case hg4_4 => (intro w hSw; (try dsimp only at hSw); first | (go_simp; done) | (go_simp; with_reducible rfl))
    (try simp only [Act.put, List.setIfInBounds_toArray, List.set_cons_zero, List.set_cons_succ])
    refine wpAnyT_take (i := 5) (oi := ⟨some 20, _, _, _, _, _⟩) (v := ?vg4_5) rfl (by kernel_rfl) (by kernel_rfl) (by kernel_rfl) (by kernel_rfl) (fun _ _ _ h => h) (Or.inl ⟨by rfl, ?hg4_5⟩) (by assumption) ?rg4_5
    case hg4_5 => (intro w hSw; (try dsimp only at hSw); first | (go_simp; done) | (go_simp; with_reducible rfl))
    (try simp only [Act.put, List.setIfInBounds_toArray, List.set_cons_zero, List.set_cons_succ])
    refine wpAnyT_take (i := 6) (oi := ⟨some 21, _, _, _, _, _⟩) (v := ?vg4_6) rfl (by kernel_rfl) (by kernel_rfl) (by kernel_rfl) (by kernel_rfl) (fun _ _ _ h => h) (Or.inl ⟨by rfl, ?hg4_6⟩) (by assumption) ?rg4_6
    case hg4_6 => (intro w hSw; (try dsimp only at hSw); first | (go_simp; done) | (go_simp; with_reducible rfl))
    (try simp only [Act.put, List.setIfInBounds_toArray, List.set_cons_zero, List.set_cons_succ])
    refine wpAnyT_one (i := 7) (o := ⟨some 22, _, _, _, _, _⟩) (by kernel_rfl) rfl (fun K hK => ?_)
    go_simp
    go_at_call 68
    refine (HFI.out _ (HB2.out.trans (HW.out.mono HB2.out.size))).mono ?_
    rintro r w3 ⟨b0, rfl, hb⟩
    replace HW := Lib.hid (HW.out.trans (hb.mono HW.out.size))
    clear hb
    dsimp only
    refine hK.out _ _ (by exact HKS.out _ HW.out) (fun hHeld => ?_)
    clear hK K
    (try simp only [Act.put, List.setIfInBounds_toArray, List.set_cons_zero, List.set_cons_succ])
    refine wpAnyT_take (i := 8) (oi := ⟨some 23, _, _, _, _, _⟩) (v := ?vg4_8) rfl (by kernel_rfl) (by kernel_rfl) (by kernel_rfl) (by kernel_rfl) (fun _ _ _ h => h) (Or.inl ⟨by rfl, ?hg4_8⟩) (by assumption) ?rg4_8
    case hg4_8 => (intro w hSw; (try dsimp only at hSw); first | (go_simp; done) | (go_simp; with_reducible rfl))
    (try simp only [Act.put, List.setIfInBounds_toArray, List.set_cons_zero, List.set_cons_succ])
    refine wpAnyT_done (by kernel_rfl) ?_ _
    clear hHeld
    have HX3 := Lib.hid (HKS.out _ HW.out).1
    have HY3 := Lib.hid ((HW.out.block _ (by have := HSV.out; have := HXX.out; omega)).trans HYV.out)
    have HE3 := Lib.hid ((HW.out.block _ (by have := HSV.out; omega)).trans HE2.out)
    have HWW := Lib.hid (HB2.out.trans (HW.out.mono HB2.out.size))
    have HSL : Hid (X < w3.heap.size) := by show _ < _; have := HW.out.size; have := HSV.out; omega
    clear HKS HW
    obtain ⟨w4, hw4⟩ : ∃ w4, w3 = w4 := ⟨_, rfl⟩
    subst hw4
    have HX4 := HX3
    have HY4 := HY3
    have HB4 := HWW
    have HSL4 : Hid (w3.heap.size ≤ w3.heap.size) := Nat.le_refl _
    have HC4 := Lib.hid (HWI.out w3 HB4.out X ⟨.inr HXX.out, _, HE3.out⟩)
    go_wp2_with (first
      | (refine wpList_load_mid rfl 34 _ rfl w.heap.size 3 rfl [.int .u32 (bb : Int), .slice a1 n1 c1, .slice a2 n2 c2] _ (map_range HX4.out) Tryd.underlying34 rfl nd_size ?_)
      | (go_at_call 70; (with_reducible refine HC4.out.mono ?_); rintro r w5 ⟨c5, rfl, hn5, hb5⟩; have HN5 := Lib.hid hn5; obtain ⟨bb5, b1, m1, d1, b2, m2, d2, rfl⟩ := hn5.three; have HX5 := Lib.hid ((hb5.block _ (by have := HSL.out; have := HSL4.out; have := HXX.out; omega)).trans HX4.out); have HY5 := Lib.hid ((hb5.block _ (by have := HSL.out; have := HSL4.out; have := HXX.out; omega)).trans HY4.out); have HB5 := Lib.hid (HB4.out.trans (hb5.mono HB4.out.size)); clear hn5 hb5)
      | (refine st_mid rfl 34 _ _ rfl w.heap.size 3 #[.int .u32 (bb5 : Int), .slice b1 m1 d1, .slice b2 m2 d2] rfl rfl 36 _ HX5.out nd_size (by simp) (by simp [Value.oneCell']) _ (map_mid _ _ _ _ _ _ _ _ _) ?_; intro w6 h6 k6; have HX6 := Lib.hid h6; have HK6 := Lib.hid k6; have HY6 := Lib.hid (k6.other HY5.out (by omega)); have HB6 := Lib.hid (HB5.out.trans (k6.below (Nat.le_refl _))); clear h6 k6)
      | (refine ld_if (by rfl) 36 _ rfl w.heap.size rfl 36 _ _ _ HX6.out Tryd.underlying36 rfl map_size ?_)
      | (refine st_agg rfl 36 _ _ rfl (w.heap.size + 1) #[.int .u64 (s : Int), .int .i64 n, .int .i64 ((l : Nat) : Int), .int .u32 (bb5 : Int), .slice b1 m1 d1, .slice b2 m2 d2] rfl rfl 36 _ HY6.out map_size rfl (by simp [Value.oneCell']) ?_; intro w7 h7 k7))
    refine bodyPost_ret (results_cell_row rfl _ _ (w.heap.size + 1) 36 _ (0, 0) _ rfl h7 Tryd.underlying36 rfl map_size) rfl ⟨_, rfl, ?_, HB6.out.trans (k7.below (by omega))⟩
    have h1 := HSL.out
    have h2 := HSL4.out
    have h3 := HXX.out
    refine ⟨bb5, b1, m1, d1, b2, m2, d2, ?_, ?_⟩
    · rw [len_ins HHL.out.1, HGG.out, ← HLL.out]
      rfl
    · exact ((HN5.out.kp (Kp.only HK6.out (fun h => by omega))).kp (Kp.only k7 (fun h => by omega))).weak fun g hg => by
        rcases hg with (hg | hg) | hg
        · exact .inl hg.1
        · exact .inr (by omega)
        · exact .inr (by omega)
end Go.Proofs.YtnnlfgfgfegjkaaDoor
