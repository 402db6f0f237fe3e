/- Layer 8's laws: one operation. (written by tools/gen08/one8.py) -/
import Derived.Test.YtldemoflgahdgaaLaw08Live
import Derived.Test.YtldemoflgahdgaaRegionY
namespace Go.Proofs.Ytldemoflgahdgaa
open Go.RowKit
set_option maxRecDepth 1000000
set_option linter.unusedSimpArgs false

/-- The document's list behind one operation of one rope. -/
def do8 (l : List Int) (o : Op8) : List Int :=
  if o.1 = 0 then (if 0 ≤ o.2.1 ∧ o.2.1 ≤ l.length then insL l o.2.1.toNat o.2.2.2.1 else l)
  else if o.1 = 1 then (if 0 ≤ o.2.1 ∧ o.2.1 < l.length then l.set o.2.1.toNat o.2.2.2.1 else l)
  else if o.1 = 2 then (if 0 ≤ o.2.1 ∧ o.2.1 < l.length then remL l o.2.1.toNat else l)
  else if o.1 = 3 then cutL l o.2.1 o.2.2.1
  else if o.1 = 6 then runL o.2.2.2.1 o.2.2.2.2.2.toNat
  else l
/-- The four variables of one: the rope, what is done, the result, what comes of it. -/
structure Fr8 (n0 : Nat) (w0 : World) (c : Array Value) (o : Op8) (s : Array Value) (w : World) : Prop where
  box : w.heap[n0]? = some (.cells c 35 (0, 0))
  op : w.heap[n0 + 1]? = some (.cells (op8C o) 57 (0, 0))
  out : w.heap[n0 + 1 + 1]? = some (.cells zeroR 35 (0, 0))
  var : w.heap[n0 + 1 + 1 + 1]? = some (.cells s 35 (0, 0))
  bel : Below n0 w0 w
  siz : n0 + 4 ≤ w.heap.size
section
variable {n0 : Nat} {w0 w w' : World} {c s s' : Array Value} {o : Op8}
theorem Fr8.later (h : Fr8 n0 w0 c o s w) (hb : Below w.heap.size w w') : Fr8 n0 w0 c o s w' :=
  ⟨(hb.block _ (by have := h.siz; omega)).trans h.box, (hb.block _ (by have := h.siz; omega)).trans h.op, (hb.block _ (by have := h.siz; omega)).trans h.out, (hb.block _ (by have := h.siz; omega)).trans h.var, h.bel.trans (hb.mono (by have := h.siz; omega)), Nat.le_trans h.siz hb.size⟩
theorem Fr8.put (h : Fr8 n0 w0 c o s w) (k : Only (n0 + 1 + 1 + 1) w w') (hv : w'.heap[n0 + 1 + 1 + 1]? = some (.cells s' 35 (0, 0))) : Fr8 n0 w0 c o s' w' :=
  ⟨k.other h.box (by omega), k.other h.op (by omega), k.other h.out (by omega), hv, h.bel.trans (k.below (by omega)), by rw [k.size]; exact h.siz⟩
theorem fr8_new (w : World) (c : Array Value) (o : Op8) {w4 : World} (e : (((w.alloc (.cells c 35)).alloc (.cells (op8C o) 57)).alloc (.cells zeroR 35)).alloc (.cells zeroR 35) = w4) : Fr8 w.heap.size w c o zeroR w4 := by
  subst e
  obtain ⟨h1, h2, h3, h4⟩ := two_new (W := w) (c := c) (d := op8C o) (T := 35) (T' := 57) rfl
  generalize (w.alloc (.cells c 35)).alloc (.cells (op8C o) 57) = w2 at h1 h2 h3 h4
  obtain ⟨g1, g2, g3, g4⟩ := two_new (W := w2) (c := zeroR) (d := zeroR) (T := 35) (T' := 35) rfl
  rw [h4] at g2 g3 g4
  exact ⟨(g1.block _ (by omega)).trans h2, (g1.block _ (by omega)).trans h3, g2, g3, h1.trans (g1.mono (by omega)), by omega⟩
end
/-- What one answers. -/
def One8 (w : World) (c : Array Value) (v : Value) (o : Op8) (l' : List Int) : Prop :=
  Calls Try.prog 26 #[.agg c, v, .agg (op8C o)] w fun e w' => ∃ (c' : Array Value) (v' : Value), e = .returned (.tuple #[.agg c', v', .bool true]) ∧ RL w' c' l' ∧ Lst (fun _ => True) w' v' l' ∧ Below w.heap.size w w'
theorem Owns.any {B : Nat} {v : Value} {l : List Int} {w : World} (h : Owns B v l w) : Lst (fun _ => True) w v l := h.lst.weak fun _ _ => trivial
theorem ref_InsertL (v : Value) (l : List Int) (i : Nat) (x : Int) (V : World) (hl : Lst (fun _ => True) V v l) (hi : i ≤ l.length) (hN : l.length ≤ 40000) : Calls Try.prog 39 #[v, .int .i64 (i : Int), .int .i64 x] V fun e w' => ∃ v', e = .returned (.tuple #[v', .int .i64 0]) ∧ Lst (fun _ => True) w' v' (insL l i x) ∧ Below V.heap.size V w' :=
  (ref_Insert v l i x V hl.cutI hi (by omega)).mono fun _ _ ⟨v', h1, h2, h3⟩ => ⟨v', h1, h2.any, h3⟩
theorem ref_RemoveL (v : Value) (l : List Int) (i : Nat) (V : World) (hl : Lst (fun _ => True) V v l) (hi : i < l.length) (hN : l.length ≤ 40000) : Calls Try.prog 42 #[v, .int .i64 (i : Int)] V fun e w' => ∃ v', e = .returned (.tuple #[v', .int .i64 0]) ∧ Lst (fun _ => True) w' v' (remL l i) ∧ Below V.heap.size V w' :=
  (ref_Remove v l i V hl.cutI hi (by omega)).mono fun _ _ ⟨v', h1, h2, h3⟩ => ⟨v', h1, h2.any, h3⟩
theorem ref_SetL (v : Value) (l : List Int) (i : Nat) (x : Int) (V : World) (hl : Lst (fun _ => True) V v l) (hi : i < l.length) (hN : l.length ≤ 40000) : Calls Try.prog 41 #[v, .int .i64 (i : Int), .int .i64 x] V fun e w' => ∃ v', e = .returned (.tuple #[v', .int .i64 0]) ∧ Lst (fun _ => True) w' v' (l.set i x) ∧ Below V.heap.size V w' := by
  refine (ref_Set7 v l (i : Int) x V hl (by omega)).mono ?_
  rintro e w' ⟨v', rfl, h2, h3⟩
  have hc : 0 ≤ (i : Int) ∧ (i : Int) < l.length := by omega
  rw [if_pos hc]
  exact ⟨v', rfl, h2 hc, h3⟩
theorem ref_Set_outL (v : Value) (l : List Int) (i : Int) (x : Int) (V : World) (hl : Lst (fun _ => True) V v l) (hi : ¬ (0 ≤ i ∧ i < l.length)) (hN : l.length ≤ 40000) : Calls Try.prog 41 #[v, .int .i64 i, .int .i64 x] V fun e w' => ∃ v', e = .returned (.tuple #[v', .int .i64 4]) ∧ Below V.heap.size V w' := by
  refine (ref_Set7 v l i x V hl (by omega)).mono ?_
  rintro e w' ⟨v', rfl, h2, h3⟩
  rw [if_neg hi]
  exact ⟨v', rfl, h3⟩
set_option maxHeartbeats 4000000 in
theorem one_insert (w : World) (c : Array Value) (v : Value) (l : List Int) (i : Nat) (J X K N : Int) (hr : RL w c l) (hl : Lst (fun _ => True) w v l) (hi : i ≤ l.length) (hN : l.length ≤ 40000) : One8 w c v (0, (i : Int), J, X, K, N) (insL l i X) := by
  unfold One8
  obtain ⟨w4, hw4⟩ : ∃ w4, (((w.alloc (.cells c 35)).alloc (.cells (op8C (0, (i : Int), J, X, K, N)) 57)).alloc (.cells zeroR 35)).alloc (.cells zeroR 35) = w4 := ⟨_, rfl⟩
  have H4 := Lib.hid (fr8_new w c (0, (i : Int), J, X, K, N) hw4)
  have HS := Lib.hid hr.size
  have HR4 := Lib.hid (hr.later (hb := by subst hw4; exact Below.more (Below.more (Below.more (Below.newly' _ _) _) _) _) : RL w4 c l)
  have HC1 := Lib.hid (rp_Insert w4 HR4.out i X hi (by omega))
  have HC2 := Lib.hid (fun V (h : Below w.heap.size w V) => ref_InsertL v l i X V (hl.later h) hi hN)
  obtain ⟨a, cp, rfl, _⟩ := hl.shape
  obtain ⟨l', hl'⟩ : ∃ l', l' = insL l i X := ⟨_, rfl⟩
  
  rw [← hl'] at HC1 HC2 ⊢
  have q0 : w4.cell? ⟨w.heap.size + 1, 0, none⟩ = some (.int .i64 0) := cell_in H4.out.op rfl
  have q1w4 : w4.cell? ⟨w.heap.size + 1, 1, none⟩ = some (.int .i64 (i : Int)) := cell_in H4.out.op rfl
  have q3w4 : w4.cell? ⟨w.heap.size + 1, 3, none⟩ = some (.int .i64 X) := cell_in H4.out.op rfl
  clear hr hl hi hN hl'
  go_enter Try.func26, Try.ntmps26
  go_upto_region 4 with fail
  simp only [zeroR] at hw4
  rw [hw4]
  clear hw4
  go_wp2_with (first
    | (refine ld_if (by rfl) 35 _ rfl w.heap.size rfl 35 _ _ _ H4.out.box Try.underlying35 rfl (by rw [HS.out]; exact rope_size) ?_)
    | (go_at_call 24; (with_reducible refine HC1.out.mono ?_); rintro e w5 ⟨c5, rfl, hr5, hb5⟩; have H5 := Lib.hid (H4.out.later hb5); have R5 := Lib.hid hr5.rl; clear hr5 hb5)
    | (refine st_agg rfl 35 _ _ rfl (w.heap.size + 1 + 1 + 1) c5 rfl rfl 35 _ H5.out.var (by rw [R5.out.size]; exact rope_size) (by rw [R5.out.size]; rfl) R5.out.one ?_; intro w6 h6 k6; have H6 := Lib.hid (H5.out.put k6 h6); have R6 := Lib.hid (R5.out.but k6 H5.out.var (by decide) (by decide)); have q1w6 : w6.cell? ⟨w.heap.size + 1, 1, none⟩ = some (.int .i64 (i : Int)) := cell_in H6.out.op rfl; have q3w6 : w6.cell? ⟨w.heap.size + 1, 3, none⟩ = some (.int .i64 X) := cell_in H6.out.op rfl; clear h6 k6)
    | (go_at_call 39; (with_reducible refine (HC2.out w6 H6.out.bel).mono ?_); rintro e w7 ⟨v7, rfl, hi7, hb7⟩; have H7 := Lib.hid (H6.out.later hb7); have R7 := Lib.hid (R6.out.later hb7); have I7 := Lib.hid hi7; clear hi7 hb7)
    | (refine ld_if (by rfl) 35 _ rfl (w.heap.size + 1 + 1 + 1) rfl 35 _ _ _ H7.out.var Try.underlying35 rfl (by rw [R5.out.size]; exact rope_size) ?_)
    | (refine st_agg rfl 35 _ _ rfl (w.heap.size + 1 + 1) c5 rfl rfl 35 _ H7.out.out (by rw [R5.out.size]; exact rope_size) (by rw [R5.out.size]; rfl) R5.out.one ?_; intro w8 h8 k8))
  refine bodyPost_ret (results_cell_row2 rfl _ _ (w.heap.size + 1 + 1) 35 _ (0, 0) _ rfl h8 Try.underlying35 rfl (by rw [R5.out.size]; exact rope_size)) rfl ⟨_, _, rfl, ?_, ?_, ?_⟩
  · exact R7.out.but k8 H7.out.out (by decide) (by decide)
  · exact I7.out.but k8 H7.out.out (by decide)
  · exact H7.out.bel.trans (k8.below (by omega))
set_option maxHeartbeats 4000000 in
theorem one_set (w : World) (c : Array Value) (v : Value) (l : List Int) (i : Nat) (J X K N : Int) (hr : RL w c l) (hl : Lst (fun _ => True) w v l) (hi : i < l.length) (hN : l.length ≤ 40000) : One8 w c v (1, (i : Int), J, X, K, N) (l.set i X) := by
  unfold One8
  obtain ⟨w4, hw4⟩ : ∃ w4, (((w.alloc (.cells c 35)).alloc (.cells (op8C (1, (i : Int), J, X, K, N)) 57)).alloc (.cells zeroR 35)).alloc (.cells zeroR 35) = w4 := ⟨_, rfl⟩
  have H4 := Lib.hid (fr8_new w c (1, (i : Int), J, X, K, N) hw4)
  have HS := Lib.hid hr.size
  have HR4 := Lib.hid (hr.later (hb := by subst hw4; exact Below.more (Below.more (Below.more (Below.newly' _ _) _) _) _) : RL w4 c l)
  have HC1 := Lib.hid (rp_Set w4 HR4.out i X hi (by omega))
  have HC2 := Lib.hid (fun V (h : Below w.heap.size w V) => ref_SetL v l i X V (hl.later h) hi hN)
  obtain ⟨a, cp, rfl, _⟩ := hl.shape
  obtain ⟨l', hl'⟩ : ∃ l', l' = l.set i X := ⟨_, rfl⟩
  
  rw [← hl'] at HC1 HC2 ⊢
  have q0 : w4.cell? ⟨w.heap.size + 1, 0, none⟩ = some (.int .i64 1) := cell_in H4.out.op rfl
  have q1w4 : w4.cell? ⟨w.heap.size + 1, 1, none⟩ = some (.int .i64 (i : Int)) := cell_in H4.out.op rfl
  have q3w4 : w4.cell? ⟨w.heap.size + 1, 3, none⟩ = some (.int .i64 X) := cell_in H4.out.op rfl
  clear hr hl hi hN hl'
  go_enter Try.func26, Try.ntmps26
  go_upto_region 4 with fail
  simp only [zeroR] at hw4
  rw [hw4]
  clear hw4
  go_wp2_with (first
    | (refine ld_if (by rfl) 35 _ rfl w.heap.size rfl 35 _ _ _ H4.out.box Try.underlying35 rfl (by rw [HS.out]; exact rope_size) ?_)
    | (go_at_call 40; (with_reducible refine HC1.out.mono ?_); rintro e w5 ⟨c5, rfl, hr5, hb5⟩; have H5 := Lib.hid (H4.out.later hb5); have R5 := Lib.hid hr5.rl; clear hr5 hb5)
    | (refine st_agg rfl 35 _ _ rfl (w.heap.size + 1 + 1 + 1) c5 rfl rfl 35 _ H5.out.var (by rw [R5.out.size]; exact rope_size) (by rw [R5.out.size]; rfl) R5.out.one ?_; intro w6 h6 k6; have H6 := Lib.hid (H5.out.put k6 h6); have R6 := Lib.hid (R5.out.but k6 H5.out.var (by decide) (by decide)); have q1w6 : w6.cell? ⟨w.heap.size + 1, 1, none⟩ = some (.int .i64 (i : Int)) := cell_in H6.out.op rfl; have q3w6 : w6.cell? ⟨w.heap.size + 1, 3, none⟩ = some (.int .i64 X) := cell_in H6.out.op rfl; clear h6 k6)
    | (go_at_call 41; (with_reducible refine (HC2.out w6 H6.out.bel).mono ?_); rintro e w7 ⟨v7, rfl, hi7, hb7⟩; have H7 := Lib.hid (H6.out.later hb7); have R7 := Lib.hid (R6.out.later hb7); have I7 := Lib.hid hi7; clear hi7 hb7)
    | (refine ld_if (by rfl) 35 _ rfl (w.heap.size + 1 + 1 + 1) rfl 35 _ _ _ H7.out.var Try.underlying35 rfl (by rw [R5.out.size]; exact rope_size) ?_)
    | (refine st_agg rfl 35 _ _ rfl (w.heap.size + 1 + 1) c5 rfl rfl 35 _ H7.out.out (by rw [R5.out.size]; exact rope_size) (by rw [R5.out.size]; rfl) R5.out.one ?_; intro w8 h8 k8))
  refine bodyPost_ret (results_cell_row2 rfl _ _ (w.heap.size + 1 + 1) 35 _ (0, 0) _ rfl h8 Try.underlying35 rfl (by rw [R5.out.size]; exact rope_size)) rfl ⟨_, _, rfl, ?_, ?_, ?_⟩
  · exact R7.out.but k8 H7.out.out (by decide) (by decide)
  · exact I7.out.but k8 H7.out.out (by decide)
  · exact H7.out.bel.trans (k8.below (by omega))
set_option maxHeartbeats 4000000 in
theorem one_remove (w : World) (c : Array Value) (v : Value) (l : List Int) (i : Nat) (J X K N : Int) (hr : RL w c l) (hl : Lst (fun _ => True) w v l) (hi : i < l.length) (hN : l.length ≤ 40000) : One8 w c v (2, (i : Int), J, X, K, N) (remL l i) := by
  unfold One8
  obtain ⟨w4, hw4⟩ : ∃ w4, (((w.alloc (.cells c 35)).alloc (.cells (op8C (2, (i : Int), J, X, K, N)) 57)).alloc (.cells zeroR 35)).alloc (.cells zeroR 35) = w4 := ⟨_, rfl⟩
  have H4 := Lib.hid (fr8_new w c (2, (i : Int), J, X, K, N) hw4)
  have HS := Lib.hid hr.size
  have HR4 := Lib.hid (hr.later (hb := by subst hw4; exact Below.more (Below.more (Below.more (Below.newly' _ _) _) _) _) : RL w4 c l)
  have HC1 := Lib.hid (rp_Remove w4 HR4.out i hi (by omega))
  have HC2 := Lib.hid (fun V (h : Below w.heap.size w V) => ref_RemoveL v l i V (hl.later h) hi hN)
  obtain ⟨a, cp, rfl, _⟩ := hl.shape
  obtain ⟨l', hl'⟩ : ∃ l', l' = remL l i := ⟨_, rfl⟩
  
  rw [← hl'] at HC1 HC2 ⊢
  have q0 : w4.cell? ⟨w.heap.size + 1, 0, none⟩ = some (.int .i64 2) := cell_in H4.out.op rfl
  have q1w4 : w4.cell? ⟨w.heap.size + 1, 1, none⟩ = some (.int .i64 (i : Int)) := cell_in H4.out.op rfl
  clear hr hl hi hN hl'
  go_enter Try.func26, Try.ntmps26
  go_upto_region 4 with fail
  simp only [zeroR] at hw4
  rw [hw4]
  clear hw4
  go_wp2_with (first
    | (refine ld_if (by rfl) 35 _ rfl w.heap.size rfl 35 _ _ _ H4.out.box Try.underlying35 rfl (by rw [HS.out]; exact rope_size) ?_)
    | (go_at_call 25; (with_reducible refine HC1.out.mono ?_); rintro e w5 ⟨c5, rfl, hr5, hb5⟩; have H5 := Lib.hid (H4.out.later hb5); have R5 := Lib.hid hr5.rl; clear hr5 hb5)
    | (refine st_agg rfl 35 _ _ rfl (w.heap.size + 1 + 1 + 1) c5 rfl rfl 35 _ H5.out.var (by rw [R5.out.size]; exact rope_size) (by rw [R5.out.size]; rfl) R5.out.one ?_; intro w6 h6 k6; have H6 := Lib.hid (H5.out.put k6 h6); have R6 := Lib.hid (R5.out.but k6 H5.out.var (by decide) (by decide)); have q1w6 : w6.cell? ⟨w.heap.size + 1, 1, none⟩ = some (.int .i64 (i : Int)) := cell_in H6.out.op rfl; clear h6 k6)
    | (go_at_call 42; (with_reducible refine (HC2.out w6 H6.out.bel).mono ?_); rintro e w7 ⟨v7, rfl, hi7, hb7⟩; have H7 := Lib.hid (H6.out.later hb7); have R7 := Lib.hid (R6.out.later hb7); have I7 := Lib.hid hi7; clear hi7 hb7)
    | (refine ld_if (by rfl) 35 _ rfl (w.heap.size + 1 + 1 + 1) rfl 35 _ _ _ H7.out.var Try.underlying35 rfl (by rw [R5.out.size]; exact rope_size) ?_)
    | (refine st_agg rfl 35 _ _ rfl (w.heap.size + 1 + 1) c5 rfl rfl 35 _ H7.out.out (by rw [R5.out.size]; exact rope_size) (by rw [R5.out.size]; rfl) R5.out.one ?_; intro w8 h8 k8))
  refine bodyPost_ret (results_cell_row2 rfl _ _ (w.heap.size + 1 + 1) 35 _ (0, 0) _ rfl h8 Try.underlying35 rfl (by rw [R5.out.size]; exact rope_size)) rfl ⟨_, _, rfl, ?_, ?_, ?_⟩
  · exact R7.out.but k8 H7.out.out (by decide) (by decide)
  · exact I7.out.but k8 H7.out.out (by decide)
  · exact H7.out.bel.trans (k8.below (by omega))
set_option maxHeartbeats 4000000 in
theorem one_insert_out (w : World) (c : Array Value) (v : Value) (l : List Int) (I J X K N : Int) (hr : RL w c l) (hl : Lst (fun _ => True) w v l) (hi : ¬ (0 ≤ I ∧ I ≤ l.length)) (_hN : l.length ≤ 40000) : One8 w c v (0, I, J, X, K, N) l := by
  unfold One8
  obtain ⟨w4, hw4⟩ : ∃ w4, (((w.alloc (.cells c 35)).alloc (.cells (op8C (0, I, J, X, K, N)) 57)).alloc (.cells zeroR 35)).alloc (.cells zeroR 35) = w4 := ⟨_, rfl⟩
  have H4 := Lib.hid (fr8_new w c (0, I, J, X, K, N) hw4)
  have HS := Lib.hid hr.size
  have HR4 := Lib.hid (hr.later (hb := by subst hw4; exact Below.more (Below.more (Below.more (Below.newly' _ _) _) _) _) : RL w4 c l)
  have HONE := Lib.hid hr.one
  have HC1 := Lib.hid (rp_Insert_out w4 HR4.out I X hi)
  have HC2 : Hid (∀ V, Below w.heap.size w V → Calls Try.prog 39 #[v, .int .i64 I, .int .i64 X] V fun e w' => ∃ v', e = .returned (.tuple #[v', .int .i64 4]) ∧ Below V.heap.size V w') := fun V h => (ref_Insert_out v l I X V (hl.later h).cutI hi).mono fun _ _ ⟨h1, h2⟩ => ⟨_, h1, h2⟩
  have HI := Lib.hid hl
  obtain ⟨a, cp, rfl, _⟩ := hl.shape
  obtain ⟨n, hn⟩ : ∃ n, n = l.length := ⟨_, rfl⟩
  rw [← hn] at HI HC2 ⊢
  have q0 : w4.cell? ⟨w.heap.size + 1, 0, none⟩ = some (.int .i64 0) := cell_in H4.out.op rfl
  have q1w4 : w4.cell? ⟨w.heap.size + 1, 1, none⟩ = some (.int .i64 I) := cell_in H4.out.op rfl
  have q3w4 : w4.cell? ⟨w.heap.size + 1, 3, none⟩ = some (.int .i64 X) := cell_in H4.out.op rfl
  clear hr hl hi _hN hn
  go_enter Try.func26, Try.ntmps26
  go_upto_region 4 with fail
  simp only [zeroR] at hw4
  rw [hw4]
  clear hw4
  go_upto_region 27 with (first
    | (refine ld_if (by rfl) 35 _ rfl w.heap.size rfl 35 _ _ _ H4.out.box Try.underlying35 rfl (by rw [HS.out]; exact rope_size) ?_)
    | (go_at_call 24; (with_reducible refine HC1.out.mono ?_); rintro e w5 ⟨rfl, hb5⟩; have H5 := Lib.hid (H4.out.later hb5); have R5 := Lib.hid (HR4.out.later hb5); clear hb5)
    | (refine st_agg rfl 35 _ _ rfl (w.heap.size + 1 + 1 + 1) zeroR rfl rfl 35 _ H5.out.var rope_size rfl (one4 rfl rfl rfl rfl) ?_; intro w6 h6 k6; have H6 := Lib.hid (H5.out.put k6 h6); have R6 := Lib.hid (R5.out.but k6 H5.out.var (by decide) (by decide)); have q1w6 : w6.cell? ⟨w.heap.size + 1, 1, none⟩ = some (.int .i64 I) := cell_in H6.out.op rfl; have q3w6 : w6.cell? ⟨w.heap.size + 1, 3, none⟩ = some (.int .i64 X) := cell_in H6.out.op rfl; clear h6 k6)
    | (go_at_call 39; (with_reducible refine (HC2.out w6 H6.out.bel).mono ?_); rintro e w7 ⟨v7, rfl, hb7⟩; have H7 := Lib.hid (H6.out.later hb7); have R7 := Lib.hid (R6.out.later hb7); clear hb7))
  obtain ⟨w8, hw8⟩ : ∃ w8, w8 = w7.drew := ⟨_, rfl⟩
  have hd8 : Below w7.heap.size w7 w8 := by rw [hw8]; exact drawn_below w7
  have H8 := Lib.hid (H7.out.later hd8)
  have R8 := Lib.hid (R7.out.later hd8)
  have I8 := Lib.hid (HI.out.later H8.out.bel)
  clear hd8 H4 H5 H6 H7 R5 R6 R7 HR4 HC1 HC2
  refine wp_region_T (S := fun V => V.heap[w.heap.size]? = some (.cells c 35 (0, 0)) ∧ V.heap[w.heap.size + 1 + 1 + 1]? = some (.cells zeroR 35 (0, 0))) [12] (by kernel_rfl) (by rw [← hw8]; exact ⟨H8.out.box, H8.out.var⟩) (fun hHeld => ?_)
  rw [← hw8] at hHeld ⊢
  clear hw8
  refine wpAnyT_take (i := 0) (oi := ⟨some 118, _, _, _, _, _⟩) (v := _) rfl (by kernel_rfl) (by kernel_rfl) (by kernel_rfl) (by kernel_rfl) (fun _ _ _ h => h) (yieldsIf_load_row (by rfl) 35 _ rfl w.heap.size rfl c 35 (0, 0) _ (fun w hw => hw.1) Try.underlying35 rfl (by rw [HS.out]; exact rope_size)) (by assumption) ?_
  (try simp only [Act.put, List.setIfInBounds_toArray, List.set_cons_zero, List.set_cons_succ])
  refine wpAnyT_take (i := 1) (oi := ⟨some 119, _, _, _, _, _⟩) (v := ?vg1_1) rfl (by kernel_rfl) (by kernel_rfl) (by kernel_rfl) (by kernel_rfl) (fun _ _ _ h => h) (Or.inl ⟨by rfl, ?hg1_1⟩) (by assumption) ?rg1_1
  case hg1_1 => (intro w hSw; (try dsimp only at hSw); first | (go_simp; done) | (go_simp; with_reducible rfl))
  (try simp only [Act.put, List.setIfInBounds_toArray, List.set_cons_zero, List.set_cons_succ])
  refine wpAnyT_take (i := 2) (oi := ⟨some 120, _, _, _, _, _⟩) (v := ?vg1_2) rfl (by kernel_rfl) (by kernel_rfl) (by kernel_rfl) (by kernel_rfl) (fun _ _ _ h => h) (Or.inl ⟨by rfl, ?hg1_2⟩) (by assumption) ?rg1_2
  case hg1_2 => (intro w hSw; (try dsimp only at hSw); first | (go_simp; done) | (go_simp; with_reducible rfl))
  (try simp only [Act.put, List.setIfInBounds_toArray, List.set_cons_zero, List.set_cons_succ])
  refine wpAnyT_take (i := 3) (oi := ⟨some 121, _, _, _, _, _⟩) (v := ?vg1_3) rfl (by kernel_rfl) (by kernel_rfl) (by kernel_rfl) (by kernel_rfl) (fun _ _ _ h => h) (Or.inl ⟨by rfl, ?hg1_3⟩) (by assumption) ?rg1_3
  case hg1_3 => (intro w hSw; (try dsimp only at hSw); first | (go_simp; done) | (go_simp; with_reducible rfl))
  (try simp only [Act.put, List.setIfInBounds_toArray, List.set_cons_zero, List.set_cons_succ])
  refine wpAnyT_take (i := 4) (oi := ⟨some 122, _, _, _, _, _⟩) (v := ?vg1_4) rfl (by kernel_rfl) (by kernel_rfl) (by kernel_rfl) (by kernel_rfl) (fun _ _ _ h => h) (Or.inl ⟨by rfl, ?hg1_4⟩) (by assumption) ?rg1_4
  case hg1_4 => (intro w hSw; (try dsimp only at hSw); first | (go_simp; done) | (go_simp; with_reducible rfl))
  (try simp only [Act.put, List.setIfInBounds_toArray, List.set_cons_zero, List.set_cons_succ])
  refine wpAnyT_take (i := 5) (oi := ⟨some 123, _, _, _, _, _⟩) (v := ?vg1_5) rfl (by kernel_rfl) (by kernel_rfl) (by kernel_rfl) (by kernel_rfl) (fun _ _ _ h => h) (Or.inl ⟨by rfl, ?hg1_5⟩) (by assumption) ?rg1_5
  case hg1_5 => (intro w hSw; (try dsimp only at hSw); first | (go_simp; done) | (go_simp; with_reducible rfl))
  (try simp only [Act.put, List.setIfInBounds_toArray, List.set_cons_zero, List.set_cons_succ])
  refine wpAnyT_take (i := 6) (oi := ⟨some 124, _, _, _, _, _⟩) (v := _) rfl (by kernel_rfl) (by kernel_rfl) (by kernel_rfl) (by kernel_rfl) (fun _ _ _ h => h) (yieldsIf_load_row (by rfl) 35 _ rfl (w.heap.size + 1 + 1 + 1) rfl zeroR 35 (0, 0) _ (fun w hw => hw.2) Try.underlying35 rfl (by exact rope_size)) (by assumption) ?_
  (try simp only [Act.put, List.setIfInBounds_toArray, List.set_cons_zero, List.set_cons_succ])
  refine wpAnyT_one (i := 7) (o := ⟨some 125, _, _, _, _, _⟩) (by kernel_rfl) rfl (fun K hK => ?_)
  go_simp
  go_at_call 21
  refine (rp_Len w8 (RL.zero w8)).mono ?_
  rintro e w9 ⟨rfl, hw9⟩
  have hb9 : Below w8.heap.size w8 w9 := by rw [hw9]; exact Below.newly' _ _
  have H9 := Lib.hid (H8.out.later hb9)
  have R9 := Lib.hid (R8.out.later hb9)
  have I9 := Lib.hid (I8.out.later hb9)
  clear hw9 hb9
  (try dsimp only)
  refine hK.out _ _ (by first | exact HK10.out | exact ⟨H9.out.box, H9.out.var⟩ | exact ⟨H8.out.box, H8.out.var⟩) (fun hHeld => ?_)
  clear hK K
  (try simp only [Act.put, List.setIfInBounds_toArray, List.set_cons_zero, List.set_cons_succ])
  refine wpAnyT_take (i := 8) (oi := ⟨some 126, _, _, _, _, _⟩) (v := ?vg1_8) rfl (by kernel_rfl) (by kernel_rfl) (by kernel_rfl) (by kernel_rfl) (fun _ _ _ h => h) (Or.inl ⟨by rfl, ?hg1_8⟩) (by assumption) ?rg1_8
  case hg1_8 => (intro w hSw; (try dsimp only at hSw); first | (go_simp; done) | (go_simp; with_reducible rfl))
  (try simp only [Act.put, List.setIfInBounds_toArray, List.set_cons_zero, List.set_cons_succ])
  refine wpAnyT_take (i := 9) (oi := ⟨some 127, _, _, _, _, _⟩) (v := ?vg1_9) rfl (by kernel_rfl) (by kernel_rfl) (by kernel_rfl) (by kernel_rfl) (fun _ _ _ h => h) (Or.inl ⟨by rfl, ?hg1_9⟩) (by assumption) ?rg1_9
  case hg1_9 => (intro w hSw; (try dsimp only at hSw); first | (go_simp; done) | (go_simp; with_reducible rfl))
  (try simp only [Act.put, List.setIfInBounds_toArray, List.set_cons_zero, List.set_cons_succ])
  refine wpAnyT_one (i := 10) (o := ⟨none, _, _, _, _, _⟩) (by kernel_rfl) rfl (fun K hK => ?_)
  refine st_agg_wp 35 _ _ rfl (w.heap.size + 1 + 1) c rfl rfl 35 _ H9.out.out (by rw [HS.out]; exact rope_size) (by rw [HS.out]; rfl) HONE.out ?_
  intro w10 h10 k10
  have HK10 : Hid (w10.heap[w.heap.size]? = some (.cells c 35 (0, 0)) ∧ w10.heap[w.heap.size + 1 + 1 + 1]? = some (.cells zeroR 35 (0, 0))) := ⟨k10.other H9.out.box (by omega), k10.other H9.out.var (by omega)⟩
  have R10 := Lib.hid (R9.out.but k10 H9.out.out (by decide) (by decide))
  have I10 := Lib.hid (I9.out.but k10 H9.out.out (by decide))
  have B10 := Lib.hid (H9.out.bel.trans (k10.below (by omega)))
  have HX10 := Lib.hid h10
  clear h10 k10
  refine hK.out _ _ (by first | exact HK10.out | exact ⟨H9.out.box, H9.out.var⟩ | exact ⟨H8.out.box, H8.out.var⟩) (fun hHeld => ?_)
  clear hK K
  (try simp only [Act.put, List.setIfInBounds_toArray, List.set_cons_zero, List.set_cons_succ])
  refine wpAnyT_take (i := 11) (oi := ⟨some 7, _, _, _, _, _⟩) (v := ?vg1_11) rfl (by kernel_rfl) (by kernel_rfl) (by kernel_rfl) (by kernel_rfl) (fun _ _ _ h => h) (Or.inl ⟨by rfl, ?hg1_11⟩) (by assumption) ?rg1_11
  case hg1_11 => (intro w hSw; (try dsimp only at hSw); first | (go_simp; done) | (go_simp; with_reducible rfl))
  (try simp only [Act.put, List.setIfInBounds_toArray, List.set_cons_zero, List.set_cons_succ])
  refine wpAnyT_last (i := 12) (o := ⟨some 8, _, _, _, _, _⟩) (by kernel_rfl) (by decide) rfl (fun K hK => ?_)
  go_simp
  refine hK.out _ _ ?_
  clear hK K
  (try simp only [Act.put, List.setIfInBounds_toArray, List.set_cons_zero, List.set_cons_succ])
  refine wpAnyT_done (by kernel_rfl) ?_ _
  go_wp2_with fail
  exact bodyPost_ret (results_cell_row2 rfl _ _ (w.heap.size + 1 + 1) 35 _ (0, 0) _ rfl HX10.out Try.underlying35 rfl (by rw [HS.out]; exact rope_size)) rfl ⟨_, _, rfl, R10.out, I10.out, B10.out⟩
set_option maxHeartbeats 4000000 in
theorem one_set_out (w : World) (c : Array Value) (v : Value) (l : List Int) (I J X K N : Int) (hr : RL w c l) (hl : Lst (fun _ => True) w v l) (hi : ¬ (0 ≤ I ∧ I < l.length)) (hN : l.length ≤ 40000) : One8 w c v (1, I, J, X, K, N) l := by
  unfold One8
  obtain ⟨w4, hw4⟩ : ∃ w4, (((w.alloc (.cells c 35)).alloc (.cells (op8C (1, I, J, X, K, N)) 57)).alloc (.cells zeroR 35)).alloc (.cells zeroR 35) = w4 := ⟨_, rfl⟩
  have H4 := Lib.hid (fr8_new w c (1, I, J, X, K, N) hw4)
  have HS := Lib.hid hr.size
  have HR4 := Lib.hid (hr.later (hb := by subst hw4; exact Below.more (Below.more (Below.more (Below.newly' _ _) _) _) _) : RL w4 c l)
  have HONE := Lib.hid hr.one
  have HC1 := Lib.hid (rp_Set_out w4 HR4.out I X hi)
  have HC2 : Hid (∀ V, Below w.heap.size w V → Calls Try.prog 41 #[v, .int .i64 I, .int .i64 X] V fun e w' => ∃ v', e = .returned (.tuple #[v', .int .i64 4]) ∧ Below V.heap.size V w') := fun V h => ref_Set_outL v l I X V (hl.later h) hi hN
  have HI := Lib.hid hl
  obtain ⟨a, cp, rfl, _⟩ := hl.shape
  obtain ⟨n, hn⟩ : ∃ n, n = l.length := ⟨_, rfl⟩
  rw [← hn] at HI HC2 ⊢
  have q0 : w4.cell? ⟨w.heap.size + 1, 0, none⟩ = some (.int .i64 1) := cell_in H4.out.op rfl
  have q1w4 : w4.cell? ⟨w.heap.size + 1, 1, none⟩ = some (.int .i64 I) := cell_in H4.out.op rfl
  have q3w4 : w4.cell? ⟨w.heap.size + 1, 3, none⟩ = some (.int .i64 X) := cell_in H4.out.op rfl
  clear hr hl hi hN hn
  go_enter Try.func26, Try.ntmps26
  go_upto_region 4 with fail
  simp only [zeroR] at hw4
  rw [hw4]
  clear hw4
  go_upto_region 27 with (first
    | (refine ld_if (by rfl) 35 _ rfl w.heap.size rfl 35 _ _ _ H4.out.box Try.underlying35 rfl (by rw [HS.out]; exact rope_size) ?_)
    | (go_at_call 40; (with_reducible refine HC1.out.mono ?_); rintro e w5 ⟨rfl, hb5⟩; have H5 := Lib.hid (H4.out.later hb5); have R5 := Lib.hid (HR4.out.later hb5); clear hb5)
    | (refine st_agg rfl 35 _ _ rfl (w.heap.size + 1 + 1 + 1) zeroR rfl rfl 35 _ H5.out.var rope_size rfl (one4 rfl rfl rfl rfl) ?_; intro w6 h6 k6; have H6 := Lib.hid (H5.out.put k6 h6); have R6 := Lib.hid (R5.out.but k6 H5.out.var (by decide) (by decide)); have q1w6 : w6.cell? ⟨w.heap.size + 1, 1, none⟩ = some (.int .i64 I) := cell_in H6.out.op rfl; have q3w6 : w6.cell? ⟨w.heap.size + 1, 3, none⟩ = some (.int .i64 X) := cell_in H6.out.op rfl; clear h6 k6)
    | (go_at_call 41; (with_reducible refine (HC2.out w6 H6.out.bel).mono ?_); rintro e w7 ⟨v7, rfl, hb7⟩; have H7 := Lib.hid (H6.out.later hb7); have R7 := Lib.hid (R6.out.later hb7); clear hb7))
  obtain ⟨w8, hw8⟩ : ∃ w8, w8 = w7.drew := ⟨_, rfl⟩
  have hd8 : Below w7.heap.size w7 w8 := by rw [hw8]; exact drawn_below w7
  have H8 := Lib.hid (H7.out.later hd8)
  have R8 := Lib.hid (R7.out.later hd8)
  have I8 := Lib.hid (HI.out.later H8.out.bel)
  clear hd8 H4 H5 H6 H7 R5 R6 R7 HR4 HC1 HC2
  refine wp_region_T (S := fun V => V.heap[w.heap.size]? = some (.cells c 35 (0, 0)) ∧ V.heap[w.heap.size + 1 + 1 + 1]? = some (.cells zeroR 35 (0, 0))) [12] (by kernel_rfl) (by rw [← hw8]; exact ⟨H8.out.box, H8.out.var⟩) (fun hHeld => ?_)
  rw [← hw8] at hHeld ⊢
  clear hw8
  refine wpAnyT_take (i := 0) (oi := ⟨some 118, _, _, _, _, _⟩) (v := _) rfl (by kernel_rfl) (by kernel_rfl) (by kernel_rfl) (by kernel_rfl) (fun _ _ _ h => h) (yieldsIf_load_row (by rfl) 35 _ rfl w.heap.size rfl c 35 (0, 0) _ (fun w hw => hw.1) Try.underlying35 rfl (by rw [HS.out]; exact rope_size)) (by assumption) ?_
  (try simp only [Act.put, List.setIfInBounds_toArray, List.set_cons_zero, List.set_cons_succ])
  refine wpAnyT_take (i := 1) (oi := ⟨some 119, _, _, _, _, _⟩) (v := ?vg2_1) rfl (by kernel_rfl) (by kernel_rfl) (by kernel_rfl) (by kernel_rfl) (fun _ _ _ h => h) (Or.inl ⟨by rfl, ?hg2_1⟩) (by assumption) ?rg2_1
  case hg2_1 => (intro w hSw; (try dsimp only at hSw); first | (go_simp; done) | (go_simp; with_reducible rfl))
  (try simp only [Act.put, List.setIfInBounds_toArray, List.set_cons_zero, List.set_cons_succ])
  refine wpAnyT_take (i := 2) (oi := ⟨some 120, _, _, _, _, _⟩) (v := ?vg2_2) rfl (by kernel_rfl) (by kernel_rfl) (by kernel_rfl) (by kernel_rfl) (fun _ _ _ h => h) (Or.inl ⟨by rfl, ?hg2_2⟩) (by assumption) ?rg2_2
  case hg2_2 => (intro w hSw; (try dsimp only at hSw); first | (go_simp; done) | (go_simp; with_reducible rfl))
  (try simp only [Act.put, List.setIfInBounds_toArray, List.set_cons_zero, List.set_cons_succ])
  refine wpAnyT_take (i := 3) (oi := ⟨some 121, _, _, _, _, _⟩) (v := ?vg2_3) rfl (by kernel_rfl) (by kernel_rfl) (by kernel_rfl) (by kernel_rfl) (fun _ _ _ h => h) (Or.inl ⟨by rfl, ?hg2_3⟩) (by assumption) ?rg2_3
  case hg2_3 => (intro w hSw; (try dsimp only at hSw); first | (go_simp; done) | (go_simp; with_reducible rfl))
  (try simp only [Act.put, List.setIfInBounds_toArray, List.set_cons_zero, List.set_cons_succ])
  refine wpAnyT_take (i := 4) (oi := ⟨some 122, _, _, _, _, _⟩) (v := ?vg2_4) rfl (by kernel_rfl) (by kernel_rfl) (by kernel_rfl) (by kernel_rfl) (fun _ _ _ h => h) (Or.inl ⟨by rfl, ?hg2_4⟩) (by assumption) ?rg2_4
  case hg2_4 => (intro w hSw; (try dsimp only at hSw); first | (go_simp; done) | (go_simp; with_reducible rfl))
  (try simp only [Act.put, List.setIfInBounds_toArray, List.set_cons_zero, List.set_cons_succ])
  refine wpAnyT_take (i := 5) (oi := ⟨some 123, _, _, _, _, _⟩) (v := ?vg2_5) rfl (by kernel_rfl) (by kernel_rfl) (by kernel_rfl) (by kernel_rfl) (fun _ _ _ h => h) (Or.inl ⟨by rfl, ?hg2_5⟩) (by assumption) ?rg2_5
  case hg2_5 => (intro w hSw; (try dsimp only at hSw); first | (go_simp; done) | (go_simp; with_reducible rfl))
  (try simp only [Act.put, List.setIfInBounds_toArray, List.set_cons_zero, List.set_cons_succ])
  refine wpAnyT_take (i := 6) (oi := ⟨some 124, _, _, _, _, _⟩) (v := _) rfl (by kernel_rfl) (by kernel_rfl) (by kernel_rfl) (by kernel_rfl) (fun _ _ _ h => h) (yieldsIf_load_row (by rfl) 35 _ rfl (w.heap.size + 1 + 1 + 1) rfl zeroR 35 (0, 0) _ (fun w hw => hw.2) Try.underlying35 rfl (by exact rope_size)) (by assumption) ?_
  (try simp only [Act.put, List.setIfInBounds_toArray, List.set_cons_zero, List.set_cons_succ])
  refine wpAnyT_one (i := 7) (o := ⟨some 125, _, _, _, _, _⟩) (by kernel_rfl) rfl (fun K hK => ?_)
  go_simp
  go_at_call 21
  refine (rp_Len w8 (RL.zero w8)).mono ?_
  rintro e w9 ⟨rfl, hw9⟩
  have hb9 : Below w8.heap.size w8 w9 := by rw [hw9]; exact Below.newly' _ _
  have H9 := Lib.hid (H8.out.later hb9)
  have R9 := Lib.hid (R8.out.later hb9)
  have I9 := Lib.hid (I8.out.later hb9)
  clear hw9 hb9
  (try dsimp only)
  refine hK.out _ _ (by first | exact HK10.out | exact ⟨H9.out.box, H9.out.var⟩ | exact ⟨H8.out.box, H8.out.var⟩) (fun hHeld => ?_)
  clear hK K
  (try simp only [Act.put, List.setIfInBounds_toArray, List.set_cons_zero, List.set_cons_succ])
  refine wpAnyT_take (i := 8) (oi := ⟨some 126, _, _, _, _, _⟩) (v := ?vg2_8) rfl (by kernel_rfl) (by kernel_rfl) (by kernel_rfl) (by kernel_rfl) (fun _ _ _ h => h) (Or.inl ⟨by rfl, ?hg2_8⟩) (by assumption) ?rg2_8
  case hg2_8 => (intro w hSw; (try dsimp only at hSw); first | (go_simp; done) | (go_simp; with_reducible rfl))
  (try simp only [Act.put, List.setIfInBounds_toArray, List.set_cons_zero, List.set_cons_succ])
  refine wpAnyT_take (i := 9) (oi := ⟨some 127, _, _, _, _, _⟩) (v := ?vg2_9) rfl (by kernel_rfl) (by kernel_rfl) (by kernel_rfl) (by kernel_rfl) (fun _ _ _ h => h) (Or.inl ⟨by rfl, ?hg2_9⟩) (by assumption) ?rg2_9
  case hg2_9 => (intro w hSw; (try dsimp only at hSw); first | (go_simp; done) | (go_simp; with_reducible rfl))
  (try simp only [Act.put, List.setIfInBounds_toArray, List.set_cons_zero, List.set_cons_succ])
  refine wpAnyT_one (i := 10) (o := ⟨none, _, _, _, _, _⟩) (by kernel_rfl) rfl (fun K hK => ?_)
  refine st_agg_wp 35 _ _ rfl (w.heap.size + 1 + 1) c rfl rfl 35 _ H9.out.out (by rw [HS.out]; exact rope_size) (by rw [HS.out]; rfl) HONE.out ?_
  intro w10 h10 k10
  have HK10 : Hid (w10.heap[w.heap.size]? = some (.cells c 35 (0, 0)) ∧ w10.heap[w.heap.size + 1 + 1 + 1]? = some (.cells zeroR 35 (0, 0))) := ⟨k10.other H9.out.box (by omega), k10.other H9.out.var (by omega)⟩
  have R10 := Lib.hid (R9.out.but k10 H9.out.out (by decide) (by decide))
  have I10 := Lib.hid (I9.out.but k10 H9.out.out (by decide))
  have B10 := Lib.hid (H9.out.bel.trans (k10.below (by omega)))
  have HX10 := Lib.hid h10
  clear h10 k10
  refine hK.out _ _ (by first | exact HK10.out | exact ⟨H9.out.box, H9.out.var⟩ | exact ⟨H8.out.box, H8.out.var⟩) (fun hHeld => ?_)
  clear hK K
  (try simp only [Act.put, List.setIfInBounds_toArray, List.set_cons_zero, List.set_cons_succ])
  refine wpAnyT_take (i := 11) (oi := ⟨some 7, _, _, _, _, _⟩) (v := ?vg2_11) rfl (by kernel_rfl) (by kernel_rfl) (by kernel_rfl) (by kernel_rfl) (fun _ _ _ h => h) (Or.inl ⟨by rfl, ?hg2_11⟩) (by assumption) ?rg2_11
  case hg2_11 => (intro w hSw; (try dsimp only at hSw); first | (go_simp; done) | (go_simp; with_reducible rfl))
  (try simp only [Act.put, List.setIfInBounds_toArray, List.set_cons_zero, List.set_cons_succ])
  refine wpAnyT_last (i := 12) (o := ⟨some 8, _, _, _, _, _⟩) (by kernel_rfl) (by decide) rfl (fun K hK => ?_)
  go_simp
  refine hK.out _ _ ?_
  clear hK K
  (try simp only [Act.put, List.setIfInBounds_toArray, List.set_cons_zero, List.set_cons_succ])
  refine wpAnyT_done (by kernel_rfl) ?_ _
  go_wp2_with fail
  exact bodyPost_ret (results_cell_row2 rfl _ _ (w.heap.size + 1 + 1) 35 _ (0, 0) _ rfl HX10.out Try.underlying35 rfl (by rw [HS.out]; exact rope_size)) rfl ⟨_, _, rfl, R10.out, I10.out, B10.out⟩
set_option maxHeartbeats 4000000 in
theorem one_remove_out (w : World) (c : Array Value) (v : Value) (l : List Int) (I J X K N : Int) (hr : RL w c l) (hl : Lst (fun _ => True) w v l) (hi : ¬ (0 ≤ I ∧ I < l.length)) (_hN : l.length ≤ 40000) : One8 w c v (2, I, J, X, K, N) l := by
  unfold One8
  obtain ⟨w4, hw4⟩ : ∃ w4, (((w.alloc (.cells c 35)).alloc (.cells (op8C (2, I, J, X, K, N)) 57)).alloc (.cells zeroR 35)).alloc (.cells zeroR 35) = w4 := ⟨_, rfl⟩
  have H4 := Lib.hid (fr8_new w c (2, I, J, X, K, N) hw4)
  have HS := Lib.hid hr.size
  have HR4 := Lib.hid (hr.later (hb := by subst hw4; exact Below.more (Below.more (Below.more (Below.newly' _ _) _) _) _) : RL w4 c l)
  have HONE := Lib.hid hr.one
  have HC1 := Lib.hid (rp_Remove_out w4 HR4.out I hi)
  have HC2 : Hid (∀ V, Below w.heap.size w V → Calls Try.prog 42 #[v, .int .i64 I] V fun e w' => ∃ v', e = .returned (.tuple #[v', .int .i64 4]) ∧ Below V.heap.size V w') := fun V h => (ref_Remove_out v l I V (hl.later h).cutI hi).mono fun _ _ ⟨h1, h2⟩ => ⟨_, h1, h2⟩
  have HI := Lib.hid hl
  obtain ⟨a, cp, rfl, _⟩ := hl.shape
  obtain ⟨n, hn⟩ : ∃ n, n = l.length := ⟨_, rfl⟩
  rw [← hn] at HI HC2 ⊢
  have q0 : w4.cell? ⟨w.heap.size + 1, 0, none⟩ = some (.int .i64 2) := cell_in H4.out.op rfl
  have q1w4 : w4.cell? ⟨w.heap.size + 1, 1, none⟩ = some (.int .i64 I) := cell_in H4.out.op rfl
  clear hr hl hi _hN hn
  go_enter Try.func26, Try.ntmps26
  go_upto_region 4 with fail
  simp only [zeroR] at hw4
  rw [hw4]
  clear hw4
  go_upto_region 27 with (first
    | (refine ld_if (by rfl) 35 _ rfl w.heap.size rfl 35 _ _ _ H4.out.box Try.underlying35 rfl (by rw [HS.out]; exact rope_size) ?_)
    | (go_at_call 25; (with_reducible refine HC1.out.mono ?_); rintro e w5 ⟨rfl, hb5⟩; have H5 := Lib.hid (H4.out.later hb5); have R5 := Lib.hid (HR4.out.later hb5); clear hb5)
    | (refine st_agg rfl 35 _ _ rfl (w.heap.size + 1 + 1 + 1) zeroR rfl rfl 35 _ H5.out.var rope_size rfl (one4 rfl rfl rfl rfl) ?_; intro w6 h6 k6; have H6 := Lib.hid (H5.out.put k6 h6); have R6 := Lib.hid (R5.out.but k6 H5.out.var (by decide) (by decide)); have q1w6 : w6.cell? ⟨w.heap.size + 1, 1, none⟩ = some (.int .i64 I) := cell_in H6.out.op rfl; clear h6 k6)
    | (go_at_call 42; (with_reducible refine (HC2.out w6 H6.out.bel).mono ?_); rintro e w7 ⟨v7, rfl, hb7⟩; have H7 := Lib.hid (H6.out.later hb7); have R7 := Lib.hid (R6.out.later hb7); clear hb7))
  obtain ⟨w8, hw8⟩ : ∃ w8, w8 = w7.drew := ⟨_, rfl⟩
  have hd8 : Below w7.heap.size w7 w8 := by rw [hw8]; exact drawn_below w7
  have H8 := Lib.hid (H7.out.later hd8)
  have R8 := Lib.hid (R7.out.later hd8)
  have I8 := Lib.hid (HI.out.later H8.out.bel)
  clear hd8 H4 H5 H6 H7 R5 R6 R7 HR4 HC1 HC2
  refine wp_region_T (S := fun V => V.heap[w.heap.size]? = some (.cells c 35 (0, 0)) ∧ V.heap[w.heap.size + 1 + 1 + 1]? = some (.cells zeroR 35 (0, 0))) [12] (by kernel_rfl) (by rw [← hw8]; exact ⟨H8.out.box, H8.out.var⟩) (fun hHeld => ?_)
  rw [← hw8] at hHeld ⊢
  clear hw8
  refine wpAnyT_take (i := 0) (oi := ⟨some 118, _, _, _, _, _⟩) (v := _) rfl (by kernel_rfl) (by kernel_rfl) (by kernel_rfl) (by kernel_rfl) (fun _ _ _ h => h) (yieldsIf_load_row (by rfl) 35 _ rfl w.heap.size rfl c 35 (0, 0) _ (fun w hw => hw.1) Try.underlying35 rfl (by rw [HS.out]; exact rope_size)) (by assumption) ?_
  (try simp only [Act.put, List.setIfInBounds_toArray, List.set_cons_zero, List.set_cons_succ])
  refine wpAnyT_take (i := 1) (oi := ⟨some 119, _, _, _, _, _⟩) (v := ?vg3_1) rfl (by kernel_rfl) (by kernel_rfl) (by kernel_rfl) (by kernel_rfl) (fun _ _ _ h => h) (Or.inl ⟨by rfl, ?hg3_1⟩) (by assumption) ?rg3_1
  case hg3_1 => (intro w hSw; (try dsimp only at hSw); first | (go_simp; done) | (go_simp; with_reducible rfl))
  (try simp only [Act.put, List.setIfInBounds_toArray, List.set_cons_zero, List.set_cons_succ])
  refine wpAnyT_take (i := 2) (oi := ⟨some 120, _, _, _, _, _⟩) (v := ?vg3_2) rfl (by kernel_rfl) (by kernel_rfl) (by kernel_rfl) (by kernel_rfl) (fun _ _ _ h => h) (Or.inl ⟨by rfl, ?hg3_2⟩) (by assumption) ?rg3_2
  case hg3_2 => (intro w hSw; (try dsimp only at hSw); first | (go_simp; done) | (go_simp; with_reducible rfl))
  (try simp only [Act.put, List.setIfInBounds_toArray, List.set_cons_zero, List.set_cons_succ])
  refine wpAnyT_take (i := 3) (oi := ⟨some 121, _, _, _, _, _⟩) (v := ?vg3_3) rfl (by kernel_rfl) (by kernel_rfl) (by kernel_rfl) (by kernel_rfl) (fun _ _ _ h => h) (Or.inl ⟨by rfl, ?hg3_3⟩) (by assumption) ?rg3_3
  case hg3_3 => (intro w hSw; (try dsimp only at hSw); first | (go_simp; done) | (go_simp; with_reducible rfl))
  (try simp only [Act.put, List.setIfInBounds_toArray, List.set_cons_zero, List.set_cons_succ])
  refine wpAnyT_take (i := 4) (oi := ⟨some 122, _, _, _, _, _⟩) (v := ?vg3_4) rfl (by kernel_rfl) (by kernel_rfl) (by kernel_rfl) (by kernel_rfl) (fun _ _ _ h => h) (Or.inl ⟨by rfl, ?hg3_4⟩) (by assumption) ?rg3_4
  case hg3_4 => (intro w hSw; (try dsimp only at hSw); first | (go_simp; done) | (go_simp; with_reducible rfl))
  (try simp only [Act.put, List.setIfInBounds_toArray, List.set_cons_zero, List.set_cons_succ])
  refine wpAnyT_take (i := 5) (oi := ⟨some 123, _, _, _, _, _⟩) (v := ?vg3_5) rfl (by kernel_rfl) (by kernel_rfl) (by kernel_rfl) (by kernel_rfl) (fun _ _ _ h => h) (Or.inl ⟨by rfl, ?hg3_5⟩) (by assumption) ?rg3_5
  case hg3_5 => (intro w hSw; (try dsimp only at hSw); first | (go_simp; done) | (go_simp; with_reducible rfl))
  (try simp only [Act.put, List.setIfInBounds_toArray, List.set_cons_zero, List.set_cons_succ])
  refine wpAnyT_take (i := 6) (oi := ⟨some 124, _, _, _, _, _⟩) (v := _) rfl (by kernel_rfl) (by kernel_rfl) (by kernel_rfl) (by kernel_rfl) (fun _ _ _ h => h) (yieldsIf_load_row (by rfl) 35 _ rfl (w.heap.size + 1 + 1 + 1) rfl zeroR 35 (0, 0) _ (fun w hw => hw.2) Try.underlying35 rfl (by exact rope_size)) (by assumption) ?_
  (try simp only [Act.put, List.setIfInBounds_toArray, List.set_cons_zero, List.set_cons_succ])
  refine wpAnyT_one (i := 7) (o := ⟨some 125, _, _, _, _, _⟩) (by kernel_rfl) rfl (fun K hK => ?_)
  go_simp
  go_at_call 21
  refine (rp_Len w8 (RL.zero w8)).mono ?_
  rintro e w9 ⟨rfl, hw9⟩
  have hb9 : Below w8.heap.size w8 w9 := by rw [hw9]; exact Below.newly' _ _
  have H9 := Lib.hid (H8.out.later hb9)
  have R9 := Lib.hid (R8.out.later hb9)
  have I9 := Lib.hid (I8.out.later hb9)
  clear hw9 hb9
  (try dsimp only)
  refine hK.out _ _ (by first | exact HK10.out | exact ⟨H9.out.box, H9.out.var⟩ | exact ⟨H8.out.box, H8.out.var⟩) (fun hHeld => ?_)
  clear hK K
  (try simp only [Act.put, List.setIfInBounds_toArray, List.set_cons_zero, List.set_cons_succ])
  refine wpAnyT_take (i := 8) (oi := ⟨some 126, _, _, _, _, _⟩) (v := ?vg3_8) rfl (by kernel_rfl) (by kernel_rfl) (by kernel_rfl) (by kernel_rfl) (fun _ _ _ h => h) (Or.inl ⟨by rfl, ?hg3_8⟩) (by assumption) ?rg3_8
  case hg3_8 => (intro w hSw; (try dsimp only at hSw); first | (go_simp; done) | (go_simp; with_reducible rfl))
  (try simp only [Act.put, List.setIfInBounds_toArray, List.set_cons_zero, List.set_cons_succ])
  refine wpAnyT_take (i := 9) (oi := ⟨some 127, _, _, _, _, _⟩) (v := ?vg3_9) rfl (by kernel_rfl) (by kernel_rfl) (by kernel_rfl) (by kernel_rfl) (fun _ _ _ h => h) (Or.inl ⟨by rfl, ?hg3_9⟩) (by assumption) ?rg3_9
  case hg3_9 => (intro w hSw; (try dsimp only at hSw); first | (go_simp; done) | (go_simp; with_reducible rfl))
  (try simp only [Act.put, List.setIfInBounds_toArray, List.set_cons_zero, List.set_cons_succ])
  refine wpAnyT_one (i := 10) (o := ⟨none, _, _, _, _, _⟩) (by kernel_rfl) rfl (fun K hK => ?_)
  refine st_agg_wp 35 _ _ rfl (w.heap.size + 1 + 1) c rfl rfl 35 _ H9.out.out (by rw [HS.out]; exact rope_size) (by rw [HS.out]; rfl) HONE.out ?_
  intro w10 h10 k10
  have HK10 : Hid (w10.heap[w.heap.size]? = some (.cells c 35 (0, 0)) ∧ w10.heap[w.heap.size + 1 + 1 + 1]? = some (.cells zeroR 35 (0, 0))) := ⟨k10.other H9.out.box (by omega), k10.other H9.out.var (by omega)⟩
  have R10 := Lib.hid (R9.out.but k10 H9.out.out (by decide) (by decide))
  have I10 := Lib.hid (I9.out.but k10 H9.out.out (by decide))
  have B10 := Lib.hid (H9.out.bel.trans (k10.below (by omega)))
  have HX10 := Lib.hid h10
  clear h10 k10
  refine hK.out _ _ (by first | exact HK10.out | exact ⟨H9.out.box, H9.out.var⟩ | exact ⟨H8.out.box, H8.out.var⟩) (fun hHeld => ?_)
  clear hK K
  (try simp only [Act.put, List.setIfInBounds_toArray, List.set_cons_zero, List.set_cons_succ])
  refine wpAnyT_take (i := 11) (oi := ⟨some 7, _, _, _, _, _⟩) (v := ?vg3_11) rfl (by kernel_rfl) (by kernel_rfl) (by kernel_rfl) (by kernel_rfl) (fun _ _ _ h => h) (Or.inl ⟨by rfl, ?hg3_11⟩) (by assumption) ?rg3_11
  case hg3_11 => (intro w hSw; (try dsimp only at hSw); first | (go_simp; done) | (go_simp; with_reducible rfl))
  (try simp only [Act.put, List.setIfInBounds_toArray, List.set_cons_zero, List.set_cons_succ])
  refine wpAnyT_last (i := 12) (o := ⟨some 8, _, _, _, _, _⟩) (by kernel_rfl) (by decide) rfl (fun K hK => ?_)
  go_simp
  refine hK.out _ _ ?_
  clear hK K
  (try simp only [Act.put, List.setIfInBounds_toArray, List.set_cons_zero, List.set_cons_succ])
  refine wpAnyT_done (by kernel_rfl) ?_ _
  go_wp2_with fail
  exact bodyPost_ret (results_cell_row2 rfl _ _ (w.heap.size + 1 + 1) 35 _ (0, 0) _ rfl HX10.out Try.underlying35 rfl (by rw [HS.out]; exact rope_size)) rfl ⟨_, _, rfl, R10.out, I10.out, B10.out⟩
end Go.Proofs.Ytldemoflgahdgaa
