import Derived.Test.YtpodmgihlomglaaGreatDoorP9
import Derived.Deep.RegionHeld3
namespace Go.Proofs.YtpodmgihlomglaaGreatDoor
open Go.RowKit
set_option maxRecDepth 1000000
set_option linter.unusedSimpArgs false
theorem HeadAt.all {S : Nat → Prop} {W : World} {T : TypeId} {s n : Nat} {v : Value} {cs : List Value} (h : HeadAt S W T s v cs n) : HeadAt (fun _ => True) W T s v cs n := h.weak fun _ _ => trivial
theorem three_newG {w w' : World} {p q r : Array Value} {T U V : TypeId} (e : ((w.alloc (.cells p T)).alloc (.cells q U)).alloc (.cells r V) = w') :
  Below w.heap.size w w' ∧ w'.heap[w.heap.size]? = some (.cells p T (0, 0)) ∧ w'.heap[w.heap.size + 1]? = some (.cells q U (0, 0)) ∧ w'.heap[w.heap.size + 2]? = some (.cells r V (0, 0)) ∧ w'.heap.size = w.heap.size + 3 := by
 obtain ⟨w1, hw1⟩ : ∃ w1, (w.alloc (.cells p T)).alloc (.cells q U) = w1 := ⟨_, rfl⟩
 obtain ⟨h1, h2, h3, h4⟩ := two_newG hw1
 rw [hw1] at e
 subst e
 have h := heap_alloc_last w1 (.cells r V)
 rw [h4] at h
 exact ⟨Below.more h1 _, ((Below.newly' _ _).block _ (by omega)).trans h2, ((Below.newly' _ _).block _ (by omega)).trans h3, h, by simp; omega⟩
theorem pl_cuts {S : Nat → Prop} {W : World} {v : Value} {xs : List Pl} {n : Nat} (h : HeadAt S W 190 2 v (en enPl xs) n) (lo hi : Nat) (hlo : lo ≤ n) (hhi : hi ≤ n) :
  ∃ a1 c1 a3 c3, CutAt S W 2 (.slice a1 lo c1) (en enPl (xs.take lo)) lo ∧ CutAt S W 2 (.slice a3 (n - hi) c3) (en enPl (xs.drop hi)) (n - hi) ∧
  (∀ w, (Instr.slice 114 v none (some (.int .i64 (lo : Int))) none).run Tryz.prog w = .ok (.slice a1 lo c1) w) ∧ (∀ w, (Instr.slice 114 v (some (.int .i64 (hi : Int))) none none).run Tryz.prog w = .ok (.slice a3 (n - hi) c3) w) := by
 obtain ⟨a1, c1, h1, h2⟩ := cut_h (P := Tryz.prog) 114 pl_under pl_elem h.cut hlo
 obtain ⟨a3, c3, h3, h4⟩ := cut_l (P := Tryz.prog) 114 pl_under pl_elem h.cut hhi
 rw [en_take enPl_len] at h1
 rw [en_drop enPl_len] at h3
 exact ⟨a1, c1, a3, c3, h1, h3, h2, h4⟩
theorem pl_lit {W : World} {g : Nat} {x : Pl} (h : W.heap[g]? = some (.cells (plc x) 190 (0, 0))) : CutAt (fun _ => True) W 2 (.slice (some ⟨g, 0, none⟩) 1 1) (en enPl [x]) 1 :=
 ⟨_, 1, rfl, Nat.le_refl _, rfl, .inr ⟨g, 0, rfl, trivial, (Array.getElem?_eq_some_iff.1 h).1, fun j u hu => by
  rw [Nat.zero_add]
  refine cell_in h ?_
  simpa [en, enPl, plc] using hu⟩⟩
set_option maxHeartbeats 4000000 in
theorem pr_Set {S : Nat → Prop} (W : World) (R : Rg Pl) (c : Array Value) (j : Nat) (hj : j < 32) (x : Pl) (h : AtR S W R c) :
    Calls Tryz.prog 149 #[.agg c, .int .i64 (j : Int), .agg (plc x)] W fun e W' => ∃ c', e = .returned (.agg c') ∧ AtR (fun g => W.heap.size ≤ g) W' (setG R j x) c' ∧ Below W.heap.size W W' := by
  have HB := Lib.hid (sp_bit_on j hj)
  obtain ⟨v, rfl, h2⟩ := h
  have hz := set_bitsG R x j
  have hm := and_bit_onG R hj
  obtain ⟨b', hb'⟩ : ∃ b', b' = bitsG (setG R j x) 32 := ⟨_, rfl⟩
  rw [← hb'] at hz
  obtain ⟨p, hp⟩ : ∃ p, p = 2 ^ j := ⟨_, rfl⟩
  rw [← hp] at HB hz hm
  have hpn : ((p : Int) == 0) = false := beq_eq_false_iff_ne.2 (by have : 0 < p := by rw [hp]; exact Nat.two_pow_pos j
                                                                   omega)
  have HA := Lib.hid (fun w => pr_around (bitsG R 32) (lt_32G R) v j hj w)
  rw [rk_cntG R j (by omega), rk_cntG R (j + 1) (by omega)] at HA
  have HS := Lib.hid (lis_setG R x hj)
  have hc1 := cnt_monoG R (show j ≤ j + 1 by omega)
  have hc2 := cnt_monoG R (show j + 1 ≤ 32 by omega)
  have HC3 := Lib.hid (cnt_leG R 32)
  have HLL := Lib.hid (lisG_len R)
  obtain ⟨a1, c1, a3, c3, hs1, hs3, hr1, hr3⟩ := pl_cuts h2 (cntG R j) (cntG R (j + 1)) (by omega) hc2
  have HS1 := Lib.hid hs1
  have HS3 := Lib.hid hs3
  have HJ := Lib.hid (And.intro hc1 hc2)
  have HP := Lib.hid hp
  have HB' := Lib.hid hb'
  obtain ⟨w1, hw1⟩ : ∃ w1, ((W.alloc (.cells #[.int .u32 (bitsG R 32 : Nat), v] 116)).alloc (.cells (plc x) 190)).alloc (.cells #[.int .u32 0, .slice none 0 0] 116) = w1 := ⟨_, rfl⟩
  obtain ⟨hb1, hx1, hy1, hz1', hs1'⟩ := three_newG hw1
  have HX1 := Lib.hid hx1
  have HZ1 := Lib.hid hz1'
  have HB1 := Lib.hid hb1
  have HSZ := Lib.hid hs1'
  have HY1 := Lib.hid hy1
  have ca0 : w1.cell? ⟨W.heap.size, 0, none⟩ = some (.int .u32 (bitsG R 32 : Nat)) := cell_in hx1 rfl
  clear h2 hs1 hs3 hc1 hc2 hp hb' hb1 hx1 hz1' hs1' hm hy1
  go_enter Tryz.func149, Tryz.ntmps149
  go_upto_region 1 with fail
  clear hw1
  obtain ⟨w2, hw2⟩ : ∃ w2, w2 = w1 := ⟨_, rfl⟩
  have HX2 : Hid (w2.heap[W.heap.size]? = some (.cells #[.int .u32 (bitsG R 32 : Nat), v] 116 (0, 0))) := by show _ = _; rw [hw2]; exact HX1.out
  have HY2 : Hid (w2.heap[W.heap.size + 1]? = some (.cells (plc x) 190 (0, 0))) := by show _ = _; rw [hw2]; exact HY1.out
  have HZ2 : Hid (w2.heap[W.heap.size + 2]? = some (.cells #[.int .u32 0, .slice none 0 0] 116 (0, 0))) := by show _ = _; rw [hw2]; exact HZ1.out
  have HB2 : Hid (Below W.heap.size W w2) := by show Below _ _ _; rw [hw2]; exact HB1.out
  have HS2 : Hid (W.heap.size + 3 ≤ w2.heap.size) := by show _ ≤ _; rw [hw2]; exact Nat.le_of_eq HSZ.out.symm
  rw [← hw2]
  clear hw2 ca0
  go_upto_region 4 with (first
    | (go_at_call 158; refine (HB.out _).mono ?_; rintro e w1' ⟨rfl, hw⟩; obtain rfl := hw.symm)
    | (refine ld_if (by rfl) 116 _ rfl W.heap.size rfl 116 _ _ _ HX2.out Tryz.underlying116 rfl row_size ?_)
    | (go_at_call 159; refine (HA.out _).mono ?_; rintro e w3 ⟨rfl, hb⟩; have HB3 := Lib.hid hb; clear hb))
  have HKS : Hid (∀ V, Below w2.heap.size w2 V → (V.cell? ⟨W.heap.size, 0, none⟩ = some (.int .u32 (bitsG R 32 : Nat)) ∧ V.cell? ⟨W.heap.size, 1, none⟩ = some v ∧ V.heap[W.heap.size + 1]? = some (.cells (plc x) 190 (0, 0)))) := fun V hV => by
    have hx := (hV.block _ (by have := HS2.out; omega)).trans HX2.out
    exact ⟨cell_in hx rfl, cell_in hx rfl, (hV.block _ (by have := HS2.out; omega)).trans HY2.out⟩
  have HW : Hid (Below w2.heap.size w2 w3.drew) := HB3.out.trans ((drawn_below w3).mono HB3.out.size)
  clear HB3
  refine wp_region_T (S := (fun V => V.cell? ⟨W.heap.size, 0, none⟩ = some (.int .u32 (bitsG R 32 : Nat)) ∧ V.cell? ⟨W.heap.size, 1, none⟩ = some v ∧ V.heap[W.heap.size + 1]? = some (.cells (plc x) 190 (0, 0)))) [18] (by kernel_rfl) (by exact HKS.out _ HW.out) (fun hHeld => ?_)
  refine tkA 0 19 (h := ?_)
  refine tkA 1 20 (h := ?_)
  refine tkA 2 21 (h := ?_)
  (try simp only [pq])
  refine wpAnyT_takeC (i := 3) (oi := ⟨some 22, _, _, _, _, _⟩) (v := .int .u32 (p : Int)) rfl (by kernel_rfl) (by kernel_rfl) (by kernel_rfl) (by kernel_rfl) (fun _ _ _ h => h) ⟨by rfl, fun w hSw => ⟨158, #[.int .i64 (j : Int)], ?hg1_3, HB.out w⟩⟩ (by assumption) ?rg1_3
  case hg1_3 => go_simp
  (try simp only [pq])
  refine tkA 4 23 (h := ?_)
  refine tkA 5 24 (h := ?_)
  refine tkA 6 25 (h := ?_)
  refine tkA 7 26 (h := ?_)
  refine tkA 8 27 (h := ?_)
  refine tyA 9 28 (hy := yieldsIf_load_row (by rfl) 190 _ rfl (W.heap.size + 1) rfl (plc x) 190 (0, 0) _ (fun w hw => hw.2.2) Tryz.underlying190 rfl (by exact pl_size)) (h := ?_)
  refine tkA 11 30 (h := ?_)
  refine tkA 12 31 (h := ?_)
  refine tkA 13 32 (h := ?_)
  refine tkA 14 33 (h := ?_)
  (try simp only [pq])
  refine tkO 10 (some 29) (h := fun K hK => ?_)
  rw [if_pos (by rfl)]
  refine bs_wp 114 190 _ rfl (plc x) 2 (.agg #[.pointer none, .pointer none]) rfl rfl (by decide) (by decide) Tryz.underlying114 (by kernel_rfl) ?_
  intro w4 h4 hb hs4
  have HG4 := Lib.hid h4
  have HS4 := Lib.hid hs4
  replace HW := Lib.hid (tW HW.out hb)
  clear h4 hb hs4
  refine hK.out _ _ (by exact HKS.out _ HW.out) (fun hHeld => ?_)
  clear hK K
  (try simp only [pq])
  refine tkO 15 (some 34) (h := fun K hK => ?_)
  go_simp
  have hb := Below.newly' w4 (.cells #[.slice a1 (cntG R j) c1, .slice (some ⟨w3.drew.heap.size, 0, none⟩) 1 1, .slice a3 (cntG R 32 - cntG R (j + 1)) c3] 114)
  have HQ := Lib.hid (heap_alloc_last w4 (.cells #[.slice a1 (cntG R j) c1, .slice (some ⟨w3.drew.heap.size, 0, none⟩) 1 1, .slice a3 (cntG R 32 - cntG R (j + 1)) c3] 114))
  replace HW := Lib.hid (tW HW.out hb)
  clear hb
  refine hK.out _ _ (by exact HKS.out _ HW.out) (fun hHeld => ?_)
  clear hK K
  (try simp only [pq])
  refine tkO 16 (some 35) (h := fun K hK => ?_)
  go_simp
  go_at_call 170
  refine (pl_joined _ _ [(.slice a1 (cntG R j) c1, (lisG R).take (cntG R j)), (.slice (some ⟨w3.drew.heap.size, 0, none⟩) 1 1, [x]), (.slice a3 (cntG R 32 - cntG R (j + 1)) c3, (lisG R).drop (cntG R (j + 1)))] (fun k hk => by
    match k, hk with
    | 0, _ => exact cell_in HQ.out rfl
    | 1, _ => exact cell_in HQ.out rfl
    | 2, _ => exact cell_in HQ.out rfl) (fun q hq => by
    have hj1 := HJ.out
    have hll := HLL.out
    simp only [List.mem_cons, List.not_mem_nil, or_false] at hq
    rcases hq with rfl | rfl | rfl
    · simp only
      rw [List.length_take, Nat.min_eq_left (by omega)]
      exact (HS1.out.later (tW HB2.out HW.out)).weak fun _ _ => trivial
    · exact pl_lit (((Below.newly' _ _).block _ (Array.getElem?_eq_some_iff.1 HG4.out).1).trans HG4.out)
    · simp only
      rw [List.length_drop, hll]
      exact (HS3.out.later (tW HB2.out HW.out)).weak fun _ _ => trivial) (by
    have hj1 := HJ.out
    have hll := HLL.out
    have h32 := HC3.out
    simp [catE]
    omega) (by simp)).mono ?_
  rintro e w5 ⟨a5, n5, c5, rfl, hl5, hb⟩
  have HL5 := Lib.hid hl5
  have HB5 := Lib.hid hb
  have HWS := Lib.hid HW.out.size
  have HZ5 := Lib.hid ((hb.block _ (Nat.lt_of_lt_of_le (by have := HS2.out; omega) HWS.out)).trans ((HW.out.block _ (by have := HS2.out; omega)).trans HZ2.out))
  replace HW := Lib.hid (tW HW.out hb)
  clear hl5 hb
  dsimp only
  refine hK.out _ _ (by exact HKS.out _ HW.out) (fun hHeld => ?_)
  clear hK K
  (try simp only [pq])
  refine tkA 17 36 (h := ?_)
  (try simp only [pq])
  refine tkU 18 none (h := fun K hK => ?_)
  refine st_agg_wp 116 _ _ rfl (W.heap.size + 2) #[.int .u32 (b' : Int), .slice a5 n5 c5] rfl rfl 116 #[.int .u32 0, .slice none 0 0] HZ5.out row_size rfl (by simp [Value.oneCell']) ?_
  intro w6 h6 k6
  refine hK.out _ _ ?_
  clear hK K
  (try simp only [pq])
  refine wpAnyT_done (by kernel_rfl) ?_ _
  go_wp2_with fail
  refine bodyPost_ret (results_cell_row rfl _ _ (W.heap.size + 2) 116 _ (0, 0) _ rfl h6 Tryz.underlying116 rfl row_size) rfl ⟨_, rfl, ⟨_, by rw [HB'.out], ?_⟩, (tW HB2.out HW.out).trans (k6.below (by omega))⟩
  have hl := HL5.out
  simp only [catE, List.length_cons, List.length_nil, List.take_succ_cons, List.take_zero, List.flatMap_cons, List.flatMap_nil, List.append_nil] at hl
  rw [← HS.out, lisG_len] at hl
  refine HeadAt.weak (HeadAt.kept hl k6.by_ (fun X e h => ?_)) (fun g hg => ?_)
  · cases e
    exact absurd h (Nat.not_le.2 (Nat.lt_of_lt_of_le (by have := HS2.out; omega) HWS.out))
  · exact Nat.le_trans (Nat.le_trans HB2.out.size HWS.out) hg
end Go.Proofs.YtpodmgihlomglaaGreatDoor
namespace Go.Proofs.YtpodmgihlomglaaGreatDoor
open Go.RowKit Go.Shelf
set_option maxRecDepth 1000000
set_option linter.unusedSimpArgs false
def IterR {α : Type} (P : Program) (gf : Nat) (lb : Array Value) (encs : α → Array Value) (RK IK : Nat → World → World → Prop) (S Sp Pr : List α → Prop) (w0 : World) : Prop :=
 ∀ (l : Nat) (J Jx : List α → World → Prop) (W : World), Below w0.heap.size w0 W → (∀ s A B, J s A → IK W.heap.size A B → J s B) →
  (∀ m pre x V, J pre V → W.heap.size ≤ V.heap.size → Pr (pre ++ [x]) → YieldAt Fence.wide m P l (encs x) V fun e V' =>
   (e = .returned (.bool true) ∧ J (pre ++ [x]) V' ∧ RK W.heap.size V V') ∨ (e = .returned (.bool false) ∧ Jx (pre ++ [x]) V')) →
  J [] W → ∀ m, CallsIn Fence.wide m P gf (#[.func (.yield l) #[] #[]] ++ lb) W fun e W' => (∃ v, e = .returned v) ∧ ((∃ ys, S ys ∧ J ys W') ∨ (∃ pre, Sp pre ∧ Jx pre W'))
structure KeepsOk (RK IK : Nat → World → World → Prop) (n₀ : Nat) : Prop where
 trans : ∀ {Y : Nat} {A B C : World}, RK Y A B → RK Y B C → RK Y A C
 put : ∀ {Y l : Nat} {A : World} {o o' : Obj}, A.heap[l]? = some o → o.isCells = false → n₀ ≤ l → l < Y → RK Y A (A.putObj l o')
 low : ∀ {Y k : Nat} {A B : World}, IK Y A B → k < Y → k < A.heap.size → B.heap[k]? = A.heap[k]?
def KW (Ts : TypeId → Prop) (n₀ Y : Nat) (A B : World) : Prop := Below n₀ A B ∧ A.heap.size ≤ B.heap.size ∧ (∀ (k : Nat) (cs : Array Value) (T : TypeId) (fr : Nat × Nat), A.heap[k]? = some (.cells cs T fr) → ¬ Ts T → B.heap[k]? = some (.cells cs T fr)) ∧ ∀ (k : Nat) (o : Obj), Y ≤ k → A.heap[k]? = some o → o.isCells = false → B.heap[k]? = some o
def IKW (Ts : TypeId → Prop) (Y : Nat) (A B : World) : Prop := A.heap.size ≤ B.heap.size ∧ Below Y A B ∧ ∀ (k : Nat) (cs : Array Value) (T : TypeId) (fr : Nat × Nat), A.heap[k]? = some (.cells cs T fr) → Ts T → B.heap[k]? = some (.cells cs T fr)
theorem KW.trans {Ts : TypeId → Prop} {n₀ Y : Nat} {A B C : World} (h : KW Ts n₀ Y A B) (k : KW Ts n₀ Y B C) : KW Ts n₀ Y A C :=
 ⟨h.1.trans k.1, Nat.le_trans h.2.1 k.2.1, fun i cs T fr e hT => k.2.2.1 i cs T fr (h.2.2.1 i cs T fr e hT) hT, fun i o hi e ho => k.2.2.2 i o hi (h.2.2.2 i o hi e ho) ho⟩
theorem KW.up {Ts : TypeId → Prop} {n₀ Y Z : Nat} {A B : World} (h : KW Ts n₀ Y A B) (hz : Y ≤ Z) : KW Ts n₀ Z A B := ⟨h.1, h.2.1, h.2.2.1, fun i o hi => h.2.2.2 i o (Nat.le_trans hz hi)⟩
theorem IKW.down {Ts : TypeId → Prop} {Y Z : Nat} {A B : World} (h : IKW Ts Z A B) (hz : Y ≤ Z) : IKW Ts Y A B := ⟨h.1, h.2.1.mono hz, h.2.2⟩
theorem KW.below {Ts : TypeId → Prop} {n₀ Y : Nat} {A B : World} (h : Below A.heap.size A B) (hn : n₀ ≤ A.heap.size) : KW Ts n₀ Y A B :=
 ⟨h.mono hn, h.size, fun i _ _ _ e _ => (h.block i (Array.getElem?_eq_some_iff.1 e).1).trans e, fun i _ _ e _ => (h.block i (Array.getElem?_eq_some_iff.1 e).1).trans e⟩
theorem IKW.below {Ts : TypeId → Prop} {Y : Nat} {A B : World} (h : Below A.heap.size A B) (hY : Y ≤ A.heap.size) : IKW Ts Y A B :=
 ⟨h.size, h.mono hY, fun i _ _ _ e _ => (h.block i (Array.getElem?_eq_some_iff.1 e).1).trans e⟩
theorem IKW.grown {Ts : TypeId → Prop} {Y X : Nat} {A B : World} (h : A.grownBy B (some X)) (hX : Y ≤ X) (hXs : X < A.heap.size) (hT : ∀ (cs : Array Value) (T : TypeId) (fr : Nat × Nat), A.heap[X]? = some (.cells cs T fr) → ¬ Ts T) : IKW Ts Y A B :=
 ⟨h.size, (Below.refl _ A).grown h (by omega) (fun k e => by cases e; exact hX), fun i cs T fr e ht => (h.block i (Array.getElem?_eq_some_iff.1 e).1 (fun e' => by cases e'; exact hT cs T fr e ht)).trans e⟩
theorem KW.grown {Ts : TypeId → Prop} {n₀ Y X : Nat} {A B : World} (h : A.grownBy B (some X)) (hX : n₀ ≤ X) (hXs : X < A.heap.size) {cs : Array Value} {T : TypeId} {fr : Nat × Nat} (hT : A.heap[X]? = some (.cells cs T fr)) (ht : Ts T) : KW Ts n₀ Y A B :=
 ⟨(Below.refl _ A).grown h (by omega) (fun k e => by cases e; exact hX), h.size, fun i cs' T' fr' e ht' => (h.block i (Array.getElem?_eq_some_iff.1 e).1 (fun e' => by
  cases e'
  rw [hT] at e
  simp only [Option.some.injEq, Obj.cells.injEq] at e
  rw [← e.2.1] at ht'
  exact ht' ht)).trans e, fun i o _ e ho => (h.block i (Array.getElem?_eq_some_iff.1 e).1 (fun e' => by
  cases e'
  rw [hT] at e
  cases e
  cases ho)).trans e⟩
theorem kw_ok (Ts : TypeId → Prop) (n₀ : Nat) : KeepsOk (fun Y A B => KW Ts n₀ Y A B) (fun Y A B => IKW Ts Y A B) n₀ where
 trans := fun h k => h.trans k
 put := fun {Y l A o o'} h ho hn h1 => ⟨(Below.refl n₀ A).grown (grownBy_putObj' A l o') (by have := (Array.getElem?_eq_some_iff.1 h).1; omega) (fun k e => by cases e; omega), (grownBy_putObj' A l o').size,
  fun i cs T fr e _ => by
   rw [World.putObj_heap_other (fun e' => by rw [e', h] at e; cases e; cases ho)]
   exact e,
  fun i o hi e _ => by rw [World.putObj_heap_other (by omega)]; exact e⟩
 low := fun h h1 _ => h.2.1.block _ h1
end Go.Proofs.YtpodmgihlomglaaGreatDoor
namespace Go.Proofs.YtpodmgihlomglaaGreatDoor
open Go.RowKit
set_option maxRecDepth 1000000
set_option linter.unusedSimpArgs false
def HeadZ (S : Nat → Prop) (W : World) (T : TypeId) (s : Nat) (v : Value) (cs : List Value) (n : Nat) : Prop :=
 cs.length = n * s ∧ ((n = 0 ∧ v = .slice none 0 0) ∨ (0 < n ∧ ∃ (g c : Nat) (cur : Array Value), v = .slice (some ⟨g, 0, none⟩) n c ∧ n ≤ c ∧ S g ∧ W.heap[g]? = some (.cells cur T (0, 0)) ∧ ∀ (j : Nat) (u : Value), cs[j]? = some u → cur[j]? = some u))
theorem HeadZ.head {S : Nat → Prop} {W : World} {T : TypeId} {s n : Nat} {v : Value} {cs : List Value} (h : HeadZ S W T s v cs n) : HeadAt S W T s v cs n := by
 obtain ⟨h0, h⟩ := h
 refine ⟨h0, h.imp_right ?_⟩
 rintro ⟨h1, g, c, cur, h2, h3, hS, h4, h5⟩
 exact ⟨h1, g, c, cur, (0, 0), h2, h3, hS, h4, h5⟩
theorem ownsRow_headZ {n : Nat} {v : Value} {cs : List Value} {s : Nat} {w : World} {base : Nat} {e : TypeId} (h : w.ownsRow base e s v n cs) (h0 : 0 < n) : HeadZ (fun g => base ≤ g) w e s v cs n := by
 obtain ⟨hl, ⟨rfl, rfl⟩ | ⟨g, cap, cur, rfl, hb, hg, hc, h3, h4, h5⟩⟩ := h
 ·omega
 ·refine ⟨hl, .inr ⟨h0, g, cap, cur, rfl, hc, hb, hg, fun j u hu => ?_⟩⟩
  have hj := (List.getElem?_eq_some_iff.1 hu).1
  rw [hl] at hj
  rw [← h5, List.getElem?_take_of_lt hj, Array.getElem?_toList] at hu
  exact hu
def entC (hs : ByteArray → Nat) (e : Ent) : Array Value := #[.string e.1, .int .u64 (hs e.1 : Nat), .int .i64 e.2.k, .int .i64 e.2.n, .string e.2.t, .pointer e.2.p]
def EntAt (hs : ByteArray → Nat) (S : Nat → Prop) (w : World) (b : Nat) (e : Ent) : Prop := S b ∧ ∃ fr, w.heap[b]? = some (.cells (entC hs e) 168 fr)
def PlAt (hs : ByteArray → Nat) (S : Nat → Prop) (w : World) (ND : List Ent → Array Value → Prop) (L : List Ent) (p : Option Pl) : Prop :=
 match L with
 | [] => p = none
 | [e] => ∃ b, p = some (some b, none) ∧ EntAt hs S w b e
 | _ :: _ :: _ => ∃ b c fr, p = some (none, some b) ∧ S b ∧ w.heap[b]? = some (.cells c 119 fr) ∧ ND L c
def NodeAt (hs : ByteArray → Nat) (S : Nat → Prop) : Nat → World → List Ent → Array Value → Prop
 | 0, w, L, c => ∃ (v : Value) (qs : List (Nat × Ent)), c = #[.int .u32 0, .slice none 0 0, v] ∧ HeadZ S w 166 1 v (en enE (qs.map (·.1))) L.length ∧ L = qs.map (·.2) ∧ ∀ q ∈ qs, EntAt hs S w q.1 q.2
 | f + 1, w, L, c => ∃ (v : Value) (R : Rg Pl), c = #[.int .u32 (bitsG R 32 : Nat), v, .slice none 0 0] ∧ HeadAt S w 190 2 v (en enPl (lisG R)) (cntG R 32) ∧
   ∀ i, i < 32 → PlAt hs S w (NodeAt hs S f w) (chE hs (12 - f) i L) (R i)
def HmO (o : Obj) : Prop := ∃ cs T fr, o = .cells cs T fr ∧ (T = 168 ∨ T = 119 ∨ T = 190 ∨ T = 166)
def Kp (S : Nat → Prop) (w w' : World) : Prop := ∀ g o, S g → HmO o → w.heap[g]? = some o → w'.heap[g]? = some o
section
variable {hs : ByteArray → Nat} {S S' : Nat → Prop} {w w' w'' : World}
theorem HeadAt.weak' {T : TypeId} {s n : Nat} {v : Value} {cs : List Value} (h : HeadAt S w T s v cs n) (hS : ∀ g c, v = .slice (some ⟨g, 0, none⟩) n c → S g → S' g) : HeadAt S' w T s v cs n := by
 obtain ⟨h0, h⟩ := h
 refine ⟨h0, h.imp_right ?_⟩
 rintro ⟨h1, g, c, cur, fr, h2, h3, hg, h4⟩
 exact ⟨h1, g, c, cur, fr, h2, h3, hS g c h2 hg, h4⟩
theorem Kp.later (hb : Below w.heap.size w w') : Kp S w w' := fun g _ _ _ h => (hb.block g (Array.getElem?_eq_some_iff.1 h).1).trans h
theorem Kp.low {n₀ : Nat} (hb : Below n₀ w w') (hS : ∀ g, S g → g < n₀) : Kp S w w' := fun g _ hg _ h => (hb.block g (hS g hg)).trans h
theorem Kp.only {X : Nat} (k : Only X w w') (hX : ¬ S X) : Kp S w w' := fun _ _ hg _ h => k.other h (fun e => hX (e ▸ hg))
theorem Kp.grown {row : Option Nat} (hg : w.grownBy w' row) (hX : ∀ X, row = some X → ¬ S X) : Kp S w w' := fun g _ hS _ h => (hg.block g (Array.getElem?_eq_some_iff.1 h).1 (fun e => hX g e.symm hS)).trans h
theorem Kp.trans (h : Kp S w w') (k : Kp S w' w'') : Kp S w w'' := fun g o hg ho e => k g o hg ho (h g o hg ho e)
theorem HeadAt.kp {T : TypeId} {s n : Nat} {v : Value} {cs : List Value} (h : HeadAt S w T s v cs n) (k : Kp S w w') (hT : T = 190 ∨ T = 166) : HeadAt S w' T s v cs n := by
 obtain ⟨h0, h⟩ := h
 refine ⟨h0, h.imp_right ?_⟩
 rintro ⟨h1, g, c, cur, fr, h2, h3, hS, h4, h5⟩
 exact ⟨h1, g, c, cur, fr, h2, h3, hS, k g _ hS ⟨_, _, _, rfl, by rcases hT with h | h <;> simp [h]⟩ h4, h5⟩
theorem HeadZ.imp {T : TypeId} {s n : Nat} {v : Value} {cs : List Value} (h : HeadZ S w T s v cs n) (k : Kp S w w') (hT : T = 190 ∨ T = 166) (hS : ∀ g, S g → g < w.heap.size → S' g) : HeadZ S' w' T s v cs n := by
 obtain ⟨h0, h⟩ := h
 refine ⟨h0, h.imp_right ?_⟩
 rintro ⟨h1, g, c, cur, h2, h3, hg, h4, h5⟩
 exact ⟨h1, g, c, cur, h2, h3, hS g hg (Array.getElem?_eq_some_iff.1 h4).1, k g _ hg ⟨_, _, _, rfl, by rcases hT with h | h <;> simp [h]⟩ h4, h5⟩
theorem EntAt.kp {b : Nat} {e : Ent} (h : EntAt hs S w b e) (k : Kp S w w') : EntAt hs S w' b e := by
 obtain ⟨h1, fr, h2⟩ := h
 exact ⟨h1, fr, k b _ h1 ⟨_, _, _, rfl, .inl rfl⟩ h2⟩
theorem EntAt.weak {b : Nat} {e : Ent} (h : EntAt hs S w b e) (hS : ∀ g, S g → S' g) : EntAt hs S' w b e := ⟨hS b h.1, h.2⟩
theorem EntAt.lt {b : Nat} {e : Ent} (h : EntAt hs S w b e) : b < w.heap.size := by
 obtain ⟨_, fr, h⟩ := h
 exact (Array.getElem?_eq_some_iff.1 h).1
theorem EntAt.old {b : Nat} {e : Ent} (h : EntAt hs S w b e) : EntAt hs (fun g => S g ∧ g < w.heap.size) w b e := ⟨⟨h.1, h.lt⟩, h.2⟩
theorem PlAt.imp {ND ND' : List Ent → Array Value → Prop} {L : List Ent} {p : Option Pl} (h : PlAt hs S w ND L p) (k : Kp S w w') (hS : ∀ g, S g → g < w.heap.size → S' g) (hN : ∀ L c, ND L c → ND' L c) : PlAt hs S' w' ND' L p := by
 match L, h with
 | [], h => exact h
 | [e], h =>
  obtain ⟨b, h1, h2⟩ := h
  have h3 := h2.kp k
  exact ⟨b, h1, hS b h2.1 h2.lt, h3.2⟩
 | a :: b :: r, h =>
  obtain ⟨g, c, fr, h1, h2, h3, h4⟩ := h
  exact ⟨g, c, fr, h1, hS g h2 (Array.getElem?_eq_some_iff.1 h3).1, k g _ h2 ⟨_, _, _, rfl, .inr (.inl rfl)⟩ h3, hN _ _ h4⟩
theorem NodeAt.imp (k : Kp S w w') (hS : ∀ g, S g → g < w.heap.size → S' g) : ∀ {f : Nat} {L : List Ent} {c : Array Value}, NodeAt hs S f w L c → NodeAt hs S' f w' L c
 | 0, L, c, h => by
  obtain ⟨v, qs, h1, h2, h3, h4⟩ := h
  exact ⟨v, qs, h1, h2.imp k (.inr rfl) hS, h3, fun q hq => ⟨hS _ (h4 q hq).1 (h4 q hq).lt, ((h4 q hq).kp k).2⟩⟩
 | f + 1, L, c, h => by
  obtain ⟨v, R, h1, h2, h3⟩ := h
  refine ⟨v, R, h1, ((h2.kp k (.inl rfl))).weak' ?_, fun i hi => (h3 i hi).imp k hS fun _ _ h => NodeAt.imp k hS h⟩
  intro g c e hg
  obtain ⟨_, ⟨_, e2⟩ | ⟨_, g', c', cur, fr, e2, _, _, e4, _⟩⟩ := h2
  ·rw [e2] at e; cases e
  ·rw [e2] at e
   simp only [Value.slice.injEq, Option.some.injEq, Addr.mk.injEq] at e
   rw [← e.1.1]
   exact hS g' (by rw [e.1.1]; exact hg) (Array.getElem?_eq_some_iff.1 e4).1
theorem NodeAt.kp {f : Nat} {L : List Ent} {c : Array Value} (h : NodeAt hs S f w L c) (k : Kp S w w') : NodeAt hs S f w' L c := h.imp k fun _ h _ => h
theorem NodeAt.weak {f : Nat} {L : List Ent} {c : Array Value} (h : NodeAt hs S f w L c) (hS : ∀ g, S g → S' g) : NodeAt hs S' f w L c := h.imp (fun _ _ _ _ e => e) fun g h _ => hS g h
theorem NodeAt.old {f : Nat} {L : List Ent} {c : Array Value} (h : NodeAt hs S f w L c) : NodeAt hs (fun g => S g ∧ g < w.heap.size) f w L c := h.imp (fun _ _ _ _ e => e) fun _ h h' => ⟨h, h'⟩
theorem NodeAt.later {f : Nat} {L : List Ent} {c : Array Value} (h : NodeAt hs S f w L c) (hb : Below w.heap.size w w') : NodeAt hs S f w' L c := h.kp (Kp.later hb)
theorem EntAt.later {b : Nat} {e : Ent} (h : EntAt hs S w b e) (hb : Below w.heap.size w w') : EntAt hs S w' b e := h.kp (Kp.later hb)
theorem PlAt.weak {f : Nat} {L : List Ent} {p : Option Pl} (h : PlAt hs S w (NodeAt hs S f w) L p) (hS : ∀ g, S g → S' g) : PlAt hs S' w (NodeAt hs S' f w) L p := h.imp (fun _ _ _ _ e => e) (fun g h _ => hS g h) fun _ _ h => h.weak hS
theorem PlAt.kp {f : Nat} {L : List Ent} {p : Option Pl} (h : PlAt hs S w (NodeAt hs S f w) L p) (k : Kp S w w') : PlAt hs S w' (NodeAt hs S f w') L p := h.imp k (fun _ h _ => h) fun _ _ h => h.kp k
theorem PlAt.later {f : Nat} {L : List Ent} {p : Option Pl} (h : PlAt hs S w (NodeAt hs S f w) L p) (hb : Below w.heap.size w w') : PlAt hs S w' (NodeAt hs S f w') L p := h.kp (Kp.later hb)
theorem PlAt.old {f : Nat} {L : List Ent} {p : Option Pl} (h : PlAt hs S w (NodeAt hs S f w) L p) : PlAt hs (fun g => S g ∧ g < w.heap.size) w (NodeAt hs (fun g => S g ∧ g < w.heap.size) f w) L p := h.imp (fun _ _ _ _ e => e) (fun _ h h' => ⟨h, h'⟩) fun _ _ h => h.old
def zeroN : Array Value := #[.int .u32 0, .slice none 0 0, .slice none 0 0]
theorem NodeAt.zero (hs : ByteArray → Nat) (S : Nat → Prop) (w : World) : ∀ f, NodeAt hs S f w [] zeroN
 | 0 => ⟨_, [], rfl, ⟨rfl, .inl ⟨rfl, rfl⟩⟩, rfl, fun q hq => by cases hq⟩
 | f + 1 => ⟨_, noG, by rw [bits_noG]; rfl, by rw [lis_noG, cnt_noG]; exact ⟨rfl, .inl ⟨rfl, rfl⟩⟩, fun i _ => rfl⟩
theorem NodeAt.three {f : Nat} {L : List Ent} {c : Array Value} (h : NodeAt hs S f w L c) : ∃ (b : Nat) (a1 : Option Addr) (n1 c1 : Nat) (a2 : Option Addr) (n2 c2 : Nat), c = #[.int .u32 (b : Int), .slice a1 n1 c1, .slice a2 n2 c2] := by
 cases f with
 | zero =>
  obtain ⟨v, qs, rfl, h2, _⟩ := h
  obtain ⟨a, n, rfl, _⟩ := h2.head.shape
  exact ⟨0, none, 0, 0, a, _, n, rfl⟩
 | succ f =>
  obtain ⟨v, R, rfl, h2, _⟩ := h
  obtain ⟨a, n, rfl, _⟩ := h2.shape
  exact ⟨_, a, _, n, none, 0, 0, rfl⟩
theorem NodeAt.size {f : Nat} {L : List Ent} {c : Array Value} (h : NodeAt hs S f w L c) : c.size = 3 := by
 obtain ⟨_, _, _, _, _, _, _, rfl⟩ := h.three
 rfl
theorem NodeAt.one {f : Nat} {L : List Ent} {c : Array Value} (h : NodeAt hs S f w L c) : c.all (·.oneCell') = true := by
 obtain ⟨_, _, _, _, _, _, _, rfl⟩ := h.three
 simp [Value.oneCell']
theorem NodeAt.row {f : Nat} {L : List Ent} {c : Array Value} (h : NodeAt hs S (f + 1) w L c) : ∃ (b v : Value) (R : Rg Pl), c = #[b, v, .slice none 0 0] ∧ AtR S w R #[b, v] ∧ ∀ i, i < 32 → PlAt hs S w (NodeAt hs S f w) (chE hs (12 - f) i L) (R i) := by
 obtain ⟨v, R, rfl, h2, h3⟩ := h
 exact ⟨_, v, R, rfl, ⟨v, rfl, h2⟩, h3⟩
theorem NodeAt.of_row {f : Nat} {L : List Ent} {R : Rg Pl} {c : Array Value} (h : AtR S w R c) (h3 : ∀ i, i < 32 → PlAt hs S w (NodeAt hs S f w) (chE hs (12 - f) i L) (R i)) : ∃ b v, c = #[b, v] ∧ NodeAt hs S (f + 1) w L #[b, v, .slice none 0 0] := by
 obtain ⟨v, rfl, h2⟩ := h
 exact ⟨_, v, rfl, v, R, rfl, h2, h3⟩
end
end Go.Proofs.YtpodmgihlomglaaGreatDoor
namespace Go.Proofs.YtpodmgihlomglaaGreatDoor
open Go.RowKit
set_option maxRecDepth 1000000
set_option linter.unusedSimpArgs false
def Wide (h : Nat) (ks : List Kid) : Prop := ∀ p ∈ ks, (2 ≤ ks.length → 8 ≤ p.k) ∧ (ks.length = 1 → h = 0 ∨ 2 ≤ p.k)
theorem Fit.wide {h N : Nat} {ks : List Kid} (hf : Fit N ks) (hN : h = 0 ∨ 2 ≤ N) : Wide h ks := fun p hp => ⟨(hf.2 p hp).1, fun h1 => by rw [(hf.2 p hp).2 h1]; exact hN⟩
def lenV : Value → Nat
 | .slice _ n _ => n
 | _ => 0
theorem nodes_new {w w1 : World} {c : Array Value} {T : TypeId} (e : w.alloc (.cells c T) = w1) : Below w.heap.size w w1 ∧ w1.heap[w.heap.size]? = some (.cells c T (0, 0)) ∧ w1.heap.size = w.heap.size + 1 := by
 subst e
 exact ⟨Below.newly' _ _, heap_alloc_last _ _, by simp⟩
theorem nodes_first {W : World} {S : Nat → Prop} {h : Nat} {v : Value} {p : Kid} {ks : List Kid} (hn : NodesR S W h v (p :: ks)) : ∃ g o c, v = .slice (some ⟨g, o, none⟩) (ks.length + 1) c ∧ W.rangeAt g o (kidc h p) := by
 obtain ⟨g, o, c, rfl, _, _, _, hc⟩ := hn.1.pos (by simp)
 refine ⟨g, o, c, rfl, fun i v hv => hc i v ?_⟩
 have hi : i < 4 := by have := (List.getElem?_eq_some_iff.1 hv).1; exact this
 have := en_at (kidc_len h) (p :: ks) 0 i p rfl hi
 rw [Nat.zero_mul, Nat.zero_add] at this
 rw [this]; exact hv
set_option maxHeartbeats 4000000 in
theorem rp_top (w : World) {S : Nat → Prop} (h : Nat) (v : Value) (ks : List Kid) (hn : NodesR S w h v ks) (hw : Wide h ks) (hN : (catK ks).length ≤ 100000) :
    Calls Tryz.prog 98 #[v] w fun e w' => ∃ c, e = .returned (.agg c) ∧ RootR (fun g => S g ∨ w.heap.size ≤ g) w' c (catK ks) ∧ Below w.heap.size w w' := by
  obtain ⟨w1, hw1⟩ : ∃ w1, w.alloc (.cells #[.int .i64 0, .int .i64 0, .slice none 0 0, .slice none 0 0] 110) = w1 := ⟨_, rfl⟩
  obtain ⟨hb1, hx1, hs1⟩ := nodes_new hw1
  have HX1 := Lib.hid hx1
  have HB1 := Lib.hid hb1
  have HS1 := Lib.hid hs1
  have HNR := Lib.hid (hn.old.later hb1)
  have HW := Lib.hid hw
  have HN := Lib.hid hN
  obtain ⟨a, cap, rfl, _⟩ := hn.1.shape
  have hlen : ks.length ≤ 100000 := by
    have := cat_lower (c := 1) ks fun q hq => (hn.2 q hq).len0
    omega
  rcases Nat.eq_zero_or_pos ks.length with h0 | h0
  · obtain rfl := List.eq_nil_of_length_eq_zero h0
    clear hn hw hN hx1 hb1 hs1 hlen h0
    go_enter Tryz.func98, Tryz.ntmps98
    go_upto_region 1 with fail
    clear hw1
    go_wp2_with (refine st_agg rfl 110 _ _ rfl w.heap.size zeroR rfl rfl 110 _ HX1.out rnode_size rfl (by simp [zeroR, Value.oneCell']) ?_; intro w5 h5 k5)
    exact bodyPost_ret (results_cell_row rfl _ _ w.heap.size 110 _ (0, 0) _ rfl h5 Tryz.underlying110 rfl rnode_size) rfl ⟨_, rfl, .inl ⟨rfl, rfl⟩, HB1.out.trans (k5.below (Nat.le_refl _))⟩
  · have h0' : ((ks.length : Int) == 0) = false := beq_eq_false_iff_ne.2 (by omega)
    have h0i : ¬ ((ks.length : Int) = 0) := by omega
    have H0 := Lib.hid h0
    have hl5 : (ks.length : Int) ≤ 100000 := by omega
    clear hn hw hN hx1 hb1 hs1 hlen h0
    go_enter Tryz.func98, Tryz.ntmps98
    go_upto_region 1 with fail
    clear hw1
    go_wp2_with fail
    go_loopw [0] (fun v wr => ∃ (h' : Nat) (ks' : List Kid) (a : Option Addr) (cap : Nat), v = .slice a ks'.length cap ∧ Hid (1 ≤ ks'.length ∧ ks'.length ≤ 100000) ∧ Hid (NodesR (fun g => (S g ∧ g < w.heap.size) ∨ w1.heap.size ≤ g) wr h' (.slice a ks'.length cap) ks' ∧ Wide h' ks' ∧ catK ks' = catK ks) ∧ Hid (Below w1.heap.size w1 wr)) (fun v _ => lenV v)
    case atStart => exact ⟨h, ks, a, cap, rfl, (by have := H0.out; exact ⟨by omega, by omega⟩), ⟨HNR.out.weak fun g hg => .inl hg, HW.out, rfl⟩, Below.refl _ _⟩
    case round =>
      clear HNR HW H0 h0' h0i hl5
      obtain ⟨h', ks', a', cap', rfl, HL, HK, HB⟩ := hrel
      by_cases h1 : 1 < ks'.length
      · have h1' : (ks'.length : Int) > 1 := by omega
        have HIN : Hid (Calls Tryz.prog 125 #[.slice (some ⟨wr.heap.size, 0, none⟩) 1 1] (wr.alloc (.cells #[.slice a' ks'.length cap'] 108)) fun e w' => ∃ v, e = .returned v ∧ ∃ kn, NodesR (fun g => ((S g ∧ g < w.heap.size) ∨ w1.heap.size ≤ g) ∨ (wr.alloc (.cells #[.slice a' ks'.length cap'] 108)).heap.size ≤ g) w' (h' + 1) v kn ∧ catK kn = catK ks' ∧ Fit ks'.length kn ∧ Below (wr.alloc (.cells #[.slice a' ks'.length cap'] 108)).heap.size (wr.alloc (.cells #[.slice a' ks'.length cap'] 108)) w') :=
          rp_inners _ h' wr.heap.size [(.slice a' ks'.length cap', ks')] (fun k hk => by obtain rfl : k = 0 := by simpa using hk
                                                                                         exact cell_in (heap_alloc_last wr _) rfl)
            (fun p hp => by rw [List.mem_singleton] at hp; subst hp; exact HK.out.1.1.later (Below.newly' _ _)) ks' (by simp [catE]) (fun q hq => ⟨(HK.out.2.1 q hq).1 h1, (HK.out.1.2 q hq).later (Below.newly' _ _)⟩) (by rw [HK.out.2.2]; exact HN.out) (by simp)
        have hl5 : (ks'.length : Int) ≤ 100000 := by have := HL.out; omega
        have H1 := Lib.hid h1
        clear h1
        go_wp2_with (go_at_call 125; refine HIN.out.mono ?_; rintro e w3 ⟨v3, rfl, kn, hn3, hc3, hf3, hb3⟩; obtain ⟨a3, cap3, rfl, _⟩ := hn3.1.shape; have HN3 := Lib.hid hn3; have HC3 := Lib.hid hc3; have HF3 := Lib.hid hf3; have HB3 := Lib.hid hb3; clear hn3 hc3 hf3 hb3)
        go_roundw
        case rel =>
          have hb := HB.out.size
          have hb4 : Below wr.heap.size wr w3 := (Below.newly' wr _).trans (HB3.out.mono (by simp))
          have hf := HF3.out.1
          have h1 := H1.out
          have hl := HL.out
          refine ⟨h' + 1, kn, a3, cap3, rfl, ⟨by rw [hf]; unfold cntN; omega, by rw [hf]; unfold cntN; omega⟩, ⟨HN3.out.weak fun g hg => ?_, HF3.out.wide (.inr (by omega)), HC3.out.trans HK.out.2.2⟩, HB.out.trans (hb4.mono hb)⟩
          rcases hg with hg | hg
          · exact hg
          · simp at hg; exact .inr (by omega)
        case measure =>
          have h1 := H1.out
          simp only [lenV]
          rw [HF3.out.1]
          unfold cntN
          omega
      · have h1' : ¬ ((ks'.length : Int) > 1) := by omega
        have hl := HL.out
        obtain ⟨p, hp⟩ : ∃ p, ks' = [p] := by
          match ks', hl, h1 with
          | [p], _, _ => exact ⟨p, rfl⟩
          | [], hl, _ => simp at hl
          | _ :: _ :: _, _, h1 => simp at h1
        subst hp
        obtain ⟨g, o, c, e, hr⟩ := nodes_first HK.out.1
        simp only [List.length_nil, Nat.zero_add, Value.slice.injEq, List.length_singleton, true_and] at e
        obtain ⟨rfl, rfl⟩ := e
        have HR := Lib.hid hr
        have HX := Lib.hid ((HB.out.block _ (by have := HS1.out; omega)).trans HX1.out)
        have HONE : Hid ((kidc h' p).toArray.all (·.oneCell') = true) := by
          show _ = _
          rw [Array.all_eq_true_iff_forall_mem]
          intro u hu
          exact kidc_one h' p u (by simpa using hu)
        clear hr hl h1
        simp only [List.length_singleton] at *
        go_wp2_with (first
          | (refine wpList_load_mid rfl 110 _ rfl g o rfl (kidc h' p) _ HR.out Tryz.underlying110 rfl rnode_size ?_)
          | (refine st_agg rfl 110 _ _ rfl w.heap.size (kidc h' p).toArray rfl rfl 110 _ HX.out rnode_size rfl HONE.out ?_; intro w5 h5 k5))
        have hk := HK.out
        have hs1 := HS1.out
        refine bodyPost_ret (results_cell_row rfl _ _ w.heap.size 110 _ (0, 0) _ rfl h5 Tryz.underlying110 rfl rnode_size) rfl ⟨_, rfl, .inr ⟨h', p, rfl, by rw [← hk.2.2, catK_one], ?_, (hk.2.1 p (List.mem_singleton.2 rfl)).2 rfl⟩, (HB1.out.trans (HB.out.mono (by omega))).trans (k5.below (Nat.le_refl _))⟩
        refine ((hk.1.2 p (List.mem_singleton.2 rfl)).kept k5.by_ (fun X e => by cases e; rintro (h | h) <;> omega)).weak fun g hg => ?_
        rcases hg with hg | hg
        · exact .inl hg.1
        · exact .inr (by omega)
theorem lists_new {α : Type} (w : World) (ls : List (Value × α)) (T : TypeId) : ∀ k (hk : k < ls.length), (w.alloc (.cells (ls.map (·.1)).toArray T)).cell? ⟨w.heap.size, k, none⟩ = some ls[k].1 := fun k hk =>
 cell_in (heap_alloc_last w _) (by rw [List.getElem?_toArray, List.getElem?_map, List.getElem?_eq_getElem hk]; rfl)
theorem kid_one (h : Nat) (p : Kid) : (kidc h p).toArray.all (·.oneCell') = true := by
 rw [Array.all_eq_true_iff_forall_mem]
 intro u hu
 exact kidc_one h p u (by simpa using hu)
theorem two_new {W : World} {c d : Array Value} {T T' : TypeId} {w2 : World} (e : (W.alloc (.cells c T)).alloc (.cells d T') = w2) :
  Below W.heap.size W w2 ∧ w2.heap[W.heap.size]? = some (.cells c T (0, 0)) ∧ w2.heap[W.heap.size + 1]? = some (.cells d T' (0, 0)) ∧ w2.heap.size = W.heap.size + 2 := by
 subst e
 refine ⟨Below.more (Below.newly' _ _) _, ((Below.newly' _ _).block _ (by simp)).trans (heap_alloc_last _ _), ?_, by simp⟩
 have h := heap_alloc_last (W.alloc (.cells c T)) (.cells d T')
 rwa [World.size_alloc] at h
theorem range_later {W W' : World} {g o : Nat} {vs : List Value} (h : W.rangeAt g o vs) (hb : Below W.heap.size W W') : W'.rangeAt g o vs :=
 fun j v hv => (hb.cell (p := ⟨g, o + j, none⟩) (World.block_lt_of_cell? W _ (h j v hv))).trans (h j v hv)
theorem leaves_new (w : World) {S : Nat → Prop} (ls : List (Value × List Cel)) (hcut : ∀ p ∈ ls, CutAt S w 4 p.1 (ivV p.2) p.2.length)
  (xs : List Cel) (hxs : catE ls ls.length = xs) (hN : xs.length ≤ 100000) (hl : ls.length ≤ 1000) :
  Calls Tryz.prog 126 #[.slice (some ⟨w.heap.size, 0, none⟩) ls.length ls.length] (w.alloc (.cells (ls.map (·.1)).toArray 55)) fun e w' => ∃ v, e = .returned v ∧ ∃ ks, NodesR (fun g => w.heap.size ≤ g) w' 0 v ks ∧ catK ks = xs ∧ Fit xs.length ks ∧ Below w.heap.size w w' := by
 have hb := Below.newly' w (.cells (ls.map (·.1)).toArray 55)
 refine (rp_leaves (S := S) _ w.heap.size ls (lists_new w ls _) (fun p hp => (hcut p hp).later hb) xs hxs hN hl).mono ?_
 rintro e w' ⟨v, rfl, ks, h1, h2, h3, h4⟩
 exact ⟨v, rfl, ks, h1.weak fun g hg => (by simp at hg; omega), h2, h3, tW hb h4⟩
end Go.Proofs.YtpodmgihlomglaaGreatDoor
