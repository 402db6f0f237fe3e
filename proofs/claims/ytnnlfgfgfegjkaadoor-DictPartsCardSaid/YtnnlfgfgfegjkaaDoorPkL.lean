/- Texts put together: Hm16 Hm17. -/
import Derived.Test.YtnnlfgfgfegjkaaDoorPkG
import Derived.Test.YtnnlfgfgfegjkaaDoorPkC
import Derived.Test.YtnnlfgfgfegjkaaDoorPkD
import Derived.Test.YtnnlfgfgfegjkaaDoorPkJ
import Derived.Test.YtnnlfgfgfegjkaaDoorPkK
import Derived.Test.YtnnlfgfgfegjkaaDoorPkB

/- Package hamt: Shape. -/
namespace Go.Proofs.YtnnlfgfgfegjkaaDoor
open Go.RowKit Go.Shelf
set_option maxRecDepth 1000000
set_option linter.unusedSimpArgs false
attribute [local go_sem] Oper.semAt_some

section
variable {B b : Nat} {l : List UInt8} {V W X : World}
theorem Keeps.later (h : Below V.heap.size V W) (hB : B ≤ V.heap.size) : Keeps B b V W := ⟨h.mono hB, fun k _ hk _ _ => (h.block k (Array.getElem?_eq_some_iff.1 hk).1).trans hk⟩
theorem Keeps.trans (h : Keeps B b V W) (k : Keeps B b W X) : Keeps B b V X := ⟨h.1.trans k.1, h.2.trans k.2⟩
theorem Keeps.row {k : Nat} {cs : Array Value} {T : TypeId} {fr : Nat × Nat} (h : Keeps B b V W) (hk : V.heap[k]? = some (.cells cs T fr)) (hkb : k ≠ b) (hT : T ≠ 5) : W.heap[k]? = some (.cells cs T fr) :=
  h.2 k _ hk (fun e => hkb (Option.some.inj e)) (fun c fz e => by cases e; exact hT rfl)
end

theorem new_belowS {w w1 : World} {c : Array Value} {T : TypeId} (h : w.alloc (.cells c T) = w1) : Below w.heap.size w w1 ∧ w1.heap[w.heap.size]? = some (.cells c T (0, 0)) ∧ w1.heap.size = w.heap.size + 1 := by
  subst h
  exact ⟨Below.newly' _ _, heap_alloc_last _ _, by simp⟩
theorem row_rangeS {V : World} {X : Nat} {a b d : Value} {T : TypeId} {fr : Nat × Nat} (h : V.heap[X]? = some (.cells #[a, b, d] T fr)) : V.rangeAt X 0 (#[a, b] : Array Value).toList := fun j u hu => by
  refine cell_in h ?_
  rcases j with _ | _ | j
  · simpa using hu
  · simpa using hu
  · simp at hu
/-- What shape gives of a place. -/
def PShapeOk (hs : ByteArray → Nat) (f : Nat) : Prop := ∀ (S : Nat → Prop) (w : World) (L : List Ent) (p : Pl), PlAt hs S w (NodeAt hs S f w) L (some p) → L.length ≤ 50000 → Tab6 w → Tab w →
    Calls Tryd.prog 145 #[.agg (plc p)] w fun r w' => r = .returned (.string ⟨(restF hs f (keysE L)).toArray⟩) ∧ Below w.heap.size w w'
theorem inr_small {n : Nat} (h : n ≤ 9223372036854775807) : InR (n : Int) := ⟨by omega, by omega⟩
theorem eps_some (p : Addr) (n c : Nat) (w : World) : (binOp .neq 32 (.slice (some p) n c) (.slice none 0 0)).run Tryd.prog w = .ok (.bool true) w := by
  have hu := run_underlying (w := w) Tryd.underlying32
  have hm : Op.maxDepth = (Op.maxDepth - 1) + 1 := by decide
  unfold binOp
  simp only []
  unfold Op.equal
  rw [hm]
  unfold Op.equalIn
  simp [Sem.run_bind, hu, Result.andThen]
theorem eps_none (w : World) : (binOp .neq 32 (.slice none 0 0) (.slice none 0 0)).run Tryd.prog w = .ok (.bool false) w := by
  have hu := run_underlying (w := w) Tryd.underlying32
  have hm : Op.maxDepth = (Op.maxDepth - 1) + 1 := by decide
  unfold binOp
  simp only []
  unfold Op.equal
  rw [hm]
  unfold Op.equalIn
  simp [Sem.run_bind, hu, Result.andThen]
end Go.Proofs.YtnnlfgfgfegjkaaDoor

/- Package hamt: Map.Shape, entries, the iterator of All. (written by tools/gen09/ent17.py) -/
namespace Go.Proofs.YtnnlfgfgfegjkaaDoor
open Go.RowKit Go.Shelf
set_option maxRecDepth 1000000
set_option linter.unusedSimpArgs false
attribute [local go_sem] Oper.semAt_some

theorem eps_make_wp {o : Oper} {a : Act} {K : Act → World → Prop} {Q : Exit → Act → World → Prop} {w : World} (l c : Operand) (hop : o.op = .makeSlice 32 l c)
    {B : Nat} (kl kc : IntKind) (C : Int) (n : Nat) (hl : a.eval l = .int kl 0) (hc : a.eval c = .int kc C) (hC : C = (n : Int)) (hn : n ≤ 10000000) (hB : B ≤ w.heap.size)
    (h : ∀ w', Eps B (.slice (some ⟨w.heap.size, 0, none⟩) 0 n) [] w' → Below w.heap.size w w' → K (a.put o.dst (.slice (some ⟨w.heap.size, 0, none⟩) 0 n)) w') : o.wp Tryd.prog a w K Q := by
  obtain ⟨i, hi, hz, h1, h2⟩ := info_parts eptr_info
  obtain ⟨w', hrun, r1, r2⟩ := run_make_own (P := Tryd.prog) w B 32 106 i (.pointer none) 1 Tryd.underlying32 hi hz h1 kl kc n (by rw [h2]; omega) (by unfold maxLen; omega) hB
  subst hC
  unfold Oper.wp
  simp [execOp, hop, hl, hc, hrun, Result.andThen]
  have hb : Below w.heap.size w w' := (Below.refl _ _).grown r2 (Nat.le_refl _) (fun k hk => by cases hk)
  exact h w' ⟨r1, Nat.le_trans hB hb.size⟩ hb
theorem eps_new_lt {B g n : Nat} {w : World} (h : Eps B (.slice (some ⟨g, 0, none⟩) 0 n) [] w) : g < w.heap.size := by
  obtain ⟨cur, hc⟩ := h.typed g 0 n rfl
  exact (Array.getElem?_eq_some_iff.1 hc).1
/-- v is a list of these keys' blocks, at the head of a block from B on. -/
def LstE (B : Nat) (w : World) (v : Value) (qs : List (Nat × Ent)) : Prop := ∃ (a : Option Addr) (c : Nat), v = .slice a qs.length c ∧ (0 < qs.length → ∃ g cur, a = some ⟨g, 0, none⟩ ∧ B ≤ g ∧ w.heap[g]? = some (.cells cur 106 (0, 0)) ∧ ∀ j (hj : j < qs.length), cur[j]? = some (pv (some qs[j].1)))
theorem lst_of {B B' : Nat} {w : World} {v : Value} {qs : List (Nat × Ent)} (hv : ∃ a c, v = .slice a qs.length c ∧ (∀ p, a = some p → p.off = 0 ∧ p.spot = none)) (hc : CutAt (fun g => B ≤ g) w 1 v (en enE (qs.map (·.1))) qs.length) (hT : TypedE w v) (hB : B' ≤ B) : LstE B' w v qs := by
  obtain ⟨a, c, rfl, h0⟩ := hv
  refine ⟨a, c, rfl, fun hp => ?_⟩
  obtain ⟨g, o, c', e, _, hg, _, hcell⟩ := hc.pos hp
  simp only [Value.slice.injEq] at e
  obtain ⟨rfl, _, rfl⟩ := e
  obtain ⟨rfl, _⟩ := h0 _ rfl
  obtain ⟨cur, hcur⟩ := hT g _ _ rfl
  refine ⟨g, cur, rfl, Nat.le_trans hB hg, hcur, fun j hj => ?_⟩
  have h := hcell j (pv (some qs[j].1)) (by rw [flat_ps, List.getElem?_eq_getElem hj]; rfl)
  rw [Nat.zero_add, Lib.cell_of_heap hcur] at h
  exact h
set_option maxHeartbeats 4000000 in
theorem hm_entries {S : Nat → Prop} (w : World) (s : Nat) (n : Int) (L : List Ent) (c : Array Value) (h : MapAt S w s n L c) (hL : Rise L) (hn : L.length ≤ 50000) (hT : Tab6 w) :
    Calls Tryd.prog 75 #[.agg c] w fun r w' => ∃ (v : Value) (qs : List (Nat × Ent)), r = .returned v ∧ qs.map (·.2) = L ∧ (∀ q ∈ qs, EntAt (hsN s n) (fun g => S g ∧ g < w.heap.size) w' q.1 q.2) ∧ LstE w.heap.size w' v qs ∧ Below w.heap.size w w' ∧ w.heap.size + 2 ≤ w'.heap.size := by
  have htn : 1 < w.heap.size := World.block_lt_of_cell? w _ (hT 0 (by decide))
  obtain ⟨bb, a1, n1, c1, a2, n2, c2, rfl, hnd⟩ := h
  obtain ⟨l, hl⟩ : ∃ l, l = L.length := ⟨_, rfl⟩
  rw [← hl]
  obtain ⟨w1, hw1⟩ : ∃ w1, w.alloc (.cells #[.int .u64 (s : Int), .int .i64 n, .int .i64 ((l : Nat) : Int), .int .u32 (bb : Int), .slice a1 n1 c1, .slice a2 n2 c2] 36) = w1 := ⟨_, rfl⟩
  obtain ⟨hb1, hx1, hs1⟩ := new_below hw1
  have HAPP : Hid (∀ W, Below w1.heap.size w1 W → ∀ v, Eps w.heap.size v [] W → Calls Tryd.prog 86 #[.agg #[.int .u32 (bb : Int), .slice a1 n1 c1, .slice a2 n2 c2], v] W (AppRes (hsN s n) (fun g => S g ∧ g < w.heap.size) w.heap.size W [] L)) := fun W hW v hv =>
    hm_app (hsN s n) 13 (Nat.le_refl _) (fun g => S g ∧ g < w.heap.size) w.heap.size W L _ v [] (fun g h => h.2) htn (hnd.old.later (hb1.trans (hW.mono hb1.size))) hn hv (by simp) (hT.below (hb1.trans (hW.mono hb1.size)))
  have HX1 := Lib.hid hx1
  have HB1 := Lib.hid hb1
  have HS1 := Lib.hid hs1
  have HLN : Hid (l ≤ 50000) := by show _ ≤ _; omega
  have HL := Lib.hid (And.intro hL hl)
  have HKS : Hid (∀ V, Below w1.heap.size w1 V → (V.heap[w.heap.size]? = some (.cells #[.int .u64 (s : Int), .int .i64 n, .int .i64 ((l : Nat) : Int), .int .u32 (bb : Int), .slice a1 n1 c1, .slice a2 n2 c2] 36 (0, 0)) ∧ V.cell? ⟨w.heap.size, 2, none⟩ = some (.int .i64 (l : Int)))) := fun V hV => by
    have h := (hV.block _ (by have := HS1.out; omega)).trans HX1.out
    exact ⟨h, cell_in h rfl⟩
  have HW : Hid (Below w1.heap.size w1 w1.drew) := drawn_below w1
  clear hnd hx1 hb1 hs1 hT hn hL hl htn
  go_enter Tryd.func75, Tryd.ntmps75
  go_upto_region 1 with fail
  clear hw1
  refine wp_region_T (S := (fun V => V.heap[w.heap.size]? = some (.cells #[.int .u64 (s : Int), .int .i64 n, .int .i64 ((l : Nat) : Int), .int .u32 (bb : Int), .slice a1 n1 c1, .slice a2 n2 c2] 36 (0, 0)) ∧ V.cell? ⟨w.heap.size, 2, none⟩ = some (.int .i64 (l : Int)))) [] (by kernel_rfl) (by first | exact HKS.out _ HW.out | exact ⟨HX4.out, cell_in HX4.out rfl⟩) (fun hHeld => ?_)
  refine wpAnyT_take (i := 0) (oi := ⟨some 4, _, _, _, _, _⟩) (v := ?vg1_0) rfl (by kernel_rfl) (by kernel_rfl) (by kernel_rfl) (by kernel_rfl) (fun _ _ _ h => h) (Or.inl ⟨by rfl, ?hg1_0⟩) (by assumption) ?rg1_0
  case hg1_0 => (intro w hSw; (try dsimp only at hSw); first | (go_simp; done) | (go_simp; with_reducible rfl))
  (try simp only [Act.put, List.setIfInBounds_toArray, List.set_cons_zero, List.set_cons_succ])
  refine wpAnyT_take (i := 1) (oi := ⟨some 5, _, _, _, _, _⟩) (v := _) rfl (by kernel_rfl) (by kernel_rfl) (by kernel_rfl) (by kernel_rfl) (fun _ _ _ h => h) (yieldsIf_arr (by rfl) 34 _ rfl w.heap.size 3 rfl #[.int .u32 (bb : Int), .slice a1 n1 c1, .slice a2 n2 c2] _ (fun w hw => (map_range hw.1)) Tryd.underlying34 rfl (by exact nd_size)) (by assumption) ?_
  (try simp only [Act.put, List.setIfInBounds_toArray, List.set_cons_zero, List.set_cons_succ])
  refine wpAnyT_take (i := 2) (oi := ⟨some 6, _, _, _, _, _⟩) (v := ?vg1_2) rfl (by kernel_rfl) (by kernel_rfl) (by kernel_rfl) (by kernel_rfl) (fun _ _ _ h => h) (Or.inl ⟨by rfl, ?hg1_2⟩) (by assumption) ?rg1_2
  case hg1_2 => (intro w hSw; (try dsimp only at hSw); first | (go_simp; done) | (go_simp; with_reducible rfl))
  (try simp only [Act.put, List.setIfInBounds_toArray, List.set_cons_zero, List.set_cons_succ])
  refine wpAnyT_take (i := 3) (oi := ⟨some 7, _, _, _, _, _⟩) (v := ?vg1_3) rfl (by kernel_rfl) (by kernel_rfl) (by kernel_rfl) (by kernel_rfl) (fun _ _ _ h => h) (Or.inl ⟨by rfl, ?hg1_3⟩) (by assumption) ?rg1_3
  case hg1_3 => (intro w hSw; (try dsimp only at hSw); first | (go_simp; done) | (go_simp; with_reducible rfl))
  (try simp only [Act.put, List.setIfInBounds_toArray, List.set_cons_zero, List.set_cons_succ])
  refine wpAnyT_one (i := 4) (o := ⟨some 8, _, _, _, _, _⟩) (by kernel_rfl) rfl (fun K hK => ?_)
  rw [if_pos (by rfl)]
  refine eps_make_wp _ _ rfl (B := w.heap.size) .i64 .i64 _ l rfl rfl rfl (by have := HLN.out; omega) (by have := HW.out.size; have := HB1.out.size; omega) ?_
  intro w3 hi3 hb
  have HI3 := Lib.hid hi3
  have HG3 : Hid (w.heap.size + 1 ≤ w1.drew.heap.size) := by show _ ≤ _; have := HW.out.size; have := HS1.out; omega
  replace HW := Lib.hid (HW.out.trans (hb.mono HW.out.size))
  have HSZ3 : Hid (w.heap.size + 2 ≤ w3.heap.size) := by
    show _ ≤ _
    have := eps_new_lt hi3
    have := HG3.out
    omega
  clear hi3 hb
  refine hK.out _ _ (by first | exact HKS.out _ HW.out | exact ⟨HX4.out, cell_in HX4.out rfl⟩) (fun hHeld => ?_)
  clear hK K
  (try simp only [Act.put, List.setIfInBounds_toArray, List.set_cons_zero, List.set_cons_succ])
  refine wpAnyT_one (i := 5) (o := ⟨some 9, _, _, _, _, _⟩) (by kernel_rfl) rfl (fun K hK => ?_)
  go_simp
  go_at_call 86
  refine (HAPP.out w3 (by exact HW.out) _ HI3.out).mono ?_
  rintro r w4 ⟨v4, qs4, rfl, hp4, hq4, he4, ha4⟩
  have HP4 := Lib.hid hp4
  have HQ4 := Lib.hid hq4
  have HE4 := Lib.hid he4
  have HA4 := Lib.hid ha4
  have HW4 : Hid (Below w.heap.size w1 w4) := by show Below _ _ _; exact (HW.out.mono HB1.out.size).trans ha4.below
  have HX4 : Hid (w4.heap[w.heap.size]? = some (.cells #[.int .u64 (s : Int), .int .i64 n, .int .i64 ((l : Nat) : Int), .int .u32 (bb : Int), .slice a1 n1 c1, .slice a2 n2 c2] 36 (0, 0))) := ha4.row ((HW.out.block _ (by have := HS1.out; omega)).trans HX1.out) (by decide)
  clear hp4 hq4 he4 ha4
  dsimp only
  refine hK.out _ _ (by first | exact HKS.out _ HW.out | exact ⟨HX4.out, cell_in HX4.out rfl⟩) (fun hHeld => ?_)
  clear hK K
  (try simp only [Act.put, List.setIfInBounds_toArray, List.set_cons_zero, List.set_cons_succ])
  refine wpAnyT_take (i := 6) (oi := ⟨some 3, _, _, _, _, _⟩) (v := ?vg1_6) rfl (by kernel_rfl) (by kernel_rfl) (by kernel_rfl) (by kernel_rfl) (fun _ _ _ h => h) (Or.inl ⟨by rfl, ?hg1_6⟩) (by assumption) ?rg1_6
  case hg1_6 => (intro w hSw; (try dsimp only at hSw); first | (go_simp; done) | (go_simp; with_reducible rfl))
  (try simp only [Act.put, List.setIfInBounds_toArray, List.set_cons_zero, List.set_cons_succ])
  refine wpAnyT_done (by kernel_rfl) ?_ _
  clear hHeld
  have hqn : qs4.length ≤ 50000 := by
    have h := HP4.out.length_eq
    rw [List.length_map] at h
    have := HLN.out
    have := HL.out.2
    omega
  have HE4' : Hid (Eps w.heap.size v4 (qs4.map (·.1)) w4) := HE4.out
  have hsrt := hm_sort (hsN s n) (fun g => S g ∧ g < w.heap.size) w.heap.size w4 v4 qs4 HE4'.out HQ4.out (by omega)
  have HSRT := Lib.hid hsrt
  clear hsrt
  go_wp2_with (go_at_call 87; (with_reducible refine HSRT.out.mono ?_); rintro r w5 ⟨rfl, qs5, hp5, hs5, hc5, ht5, ha5⟩; have HR5 := Lib.hid (And.intro hp5 (And.intro hs5 (And.intro hc5 (And.intro ht5 ha5)))); clear hp5 hs5 hc5 ht5 ha5)
  obtain ⟨hp5, hs5, hc5, ht5, ha5⟩ := HR5.out
  have hlen5 : qs5.length = qs4.length := hp5.length_eq
  have hv : ∃ a c, v4 = .slice a qs5.length c ∧ (∀ p, a = some p → p.off = 0 ∧ p.spot = none) := by
    obtain ⟨⟨_, h2⟩, _⟩ := HE4'.out
    rw [List.length_map] at h2
    rcases h2 with ⟨rfl, h2⟩ | ⟨g, cap, cur, rfl, _⟩
    · exact ⟨none, 0, by rw [hlen5, h2], fun p e => by cases e⟩
    · exact ⟨_, _, by rw [hlen5], fun p e => by cases e; exact ⟨rfl, rfl⟩⟩
  have hbw5 : Below w.heap.size w w5 := (HB1.out.trans HW4.out).trans ha5.below
  have hfin : ∃ (v : Value) (qs : List (Nat × Ent)), Ending.returned v4 = .returned v ∧ qs.map (·.2) = L ∧ (∀ q ∈ qs, EntAt (hsN s n) (fun g => S g ∧ g < w.heap.size) w5 q.1 q.2) ∧ LstE w.heap.size w5 v qs ∧ Below w.heap.size w w5 ∧ w.heap.size + 2 ≤ w5.heap.size := by
    refine ⟨v4, qs5, rfl, sorted_eq HL.out.1 ((hp5.map _).trans HP4.out) hs5, fun q hq => ?_, lst_of hv hc5 ht5 (Nat.le_refl _), hbw5, ?_⟩
    · exact (HQ4.out q (hp5.mem_iff.1 hq)).kp (ha5.kp fun g h => h.2)
    · have h1 := HSZ3.out
      have h2 := HA4.out.below.size
      have h3 := ha5.below.size
      omega
  go_ret
  exact hfin
end Go.Proofs.YtnnlfgfgfegjkaaDoor
