/- Texts put together: Hm16 Hm17. -/
import Derived.Test.YtlngjabjeodkpaaDoorPkG
import Derived.Test.YtlngjabjeodkpaaDoorPkC
import Derived.Test.YtlngjabjeodkpaaDoorPkD
import Derived.Test.YtlngjabjeodkpaaDoorPkJ
import Derived.Test.YtlngjabjeodkpaaDoorPkK
import Derived.Test.YtlngjabjeodkpaaDoorPkB

/- Package hamt: Shape. -/
namespace Go.Proofs.YtlngjabjeodkpaaDoor
open Go.RowKit Go.Shelf
set_option maxRecDepth 1000000
set_option linter.unusedSimpArgs false
attribute [local go_sem] Oper.semAt_some

section
variable {B b : Nat} {l : List UInt8} {V W X : World}
theorem Bld.at_ (h : Bld B b l V) : ∃ p v, V.heap[b]? = some (.cells #[p, v] 93 (0, 0)) ∧ B ≤ b := by
  rcases h with ⟨hB, v, h, _⟩ | ⟨hB, v, h, _⟩
  · exact ⟨_, v, h, hB⟩
  · exact ⟨_, v, h, hB⟩
theorem bldAt_grown {p : Value} {bs : List Value} {row : Option Nat} (h : Lib.BuilderAtF 93 5 B b p bs V) (hg : V.grownBy W row) (h1 : row ≠ some b) (h2 : ∀ r, row = some r → ∀ cs fr, V.heap[r]? ≠ some (.cells cs 5 fr)) : Lib.BuilderAtF 93 5 B b p bs W := by
  obtain ⟨hB, v, hb, hown, hne⟩ := h
  refine ⟨hB, v, (hg.block b (Array.getElem?_eq_some_iff.1 hb).1 (fun e => h1 e.symm)).trans hb, hown.kept hg ?_, hne⟩
  cases hv : v.ownBlock with
  | none => exact .inl rfl
  | some k =>
    refine .inr fun e => ?_
    rcases hown.2 with ⟨rfl, _⟩ | ⟨g, cap, cur, fz, rfl, _, hgg, _⟩
    · cases hv
    · obtain rfl : g = k := by simpa [Value.ownBlock] using hv
      exact h2 g e.symm cur fz hgg
theorem Bld.grown {row : Option Nat} (h : Bld B b l V) (hg : V.grownBy W row) (h1 : row ≠ some b) (h2 : ∀ r, row = some r → ∀ cs fr, V.heap[r]? ≠ some (.cells cs 5 fr)) : Bld B b l W :=
  h.imp (fun h => bldAt_grown h hg h1 h2) (fun h => bldAt_grown h hg h1 h2)
theorem Bld.later (h : Bld B b l V) (hb : Below V.heap.size V W) : Bld B b l W := h.grown (row := none) ⟨hb.os, hb.tape, hb.output, hb.size, fun k hk _ => hb.block k hk⟩ (by simp) (fun r e => by cases e)
theorem Bld.kept {row : Option Nat} (h : Bld B b l V) (hg : V.grownBy W row) (hr : ∀ r, row = some r → ∃ o : Obj, V.heap[r]? = some o ∧ o.isCells = false) : Bld B b l W := h.grown hg
  (fun e => by obtain ⟨o, ho, hc⟩ := hr b e; obtain ⟨p, v, hb, _⟩ := h.at_; rw [hb] at ho; cases ho; cases hc)
  (fun r e cs fr h => by obtain ⟨o, ho, hc⟩ := hr r e; rw [h] at ho; cases ho; cases hc)
theorem Bld.lt (h : Bld B b l V) : b < V.heap.size := by
  obtain ⟨p, v, h, _⟩ := h.at_
  exact (Array.getElem?_eq_some_iff.1 h).1
theorem Keeps.later (h : Below V.heap.size V W) (hB : B ≤ V.heap.size) : Keeps B b V W := ⟨h.mono hB, fun k _ hk _ _ => (h.block k (Array.getElem?_eq_some_iff.1 hk).1).trans hk⟩
theorem Keeps.trans (h : Keeps B b V W) (k : Keeps B b W X) : Keeps B b V X := ⟨h.1.trans k.1, h.2.trans k.2⟩
theorem Keeps.row {k : Nat} {cs : Array Value} {T : TypeId} {fr : Nat × Nat} (h : Keeps B b V W) (hk : V.heap[k]? = some (.cells cs T fr)) (hkb : k ≠ b) (hT : T ≠ 5) : W.heap[k]? = some (.cells cs T fr) :=
  h.2 k _ hk (fun e => hkb (Option.some.inj e)) (fun c fz e => by cases e; exact hT rfl)
theorem Keeps.others (h : Keeps B b V W) (hb : Bld B b l V) : KeepsOthers V W := ⟨h.1.size, fun k o hk ho => h.2 k o hk (fun e => by cases e; obtain ⟨p, v, hb, _⟩ := hb.at_; rw [hb] at hk; cases hk; cases ho) (fun c fz e => by subst e; cases ho)⟩
end

theorem new_belowS {w w1 : World} {c : Array Value} {T : TypeId} (h : w.alloc (.cells c T) = w1) : Below w.heap.size w w1 ∧ w1.heap[w.heap.size]? = some (.cells c T (0, 0)) ∧ w1.heap.size = w.heap.size + 1 := by
  subst h
  exact ⟨Below.newly' _ _, heap_alloc_last _ _, by simp⟩
theorem row_rangeS {V : World} {X : Nat} {a b d : Value} {T : TypeId} {fr : Nat × Nat} (h : V.heap[X]? = some (.cells #[a, b, d] T fr)) : V.rangeAt X 0 (#[a, b] : Array Value).toList := fun j u hu => by
  refine cell_in h ?_
  rcases j with _ | _ | j
  · simpa using hu
  · simpa using hu
  · simp at hu
/-- What shape gives of a node. -/
def ShapeOk (hs : ByteArray → Nat) (f : Nat) : Prop := ∀ (S : Nat → Prop) (w : World) (L : List Ent) (c : Array Value), NodeAt hs S f w L c → (f = 0 → L ≠ []) → L.length ≤ 50000 → Tab6 w → Tab w →
    Calls Tryd.prog 29 #[.agg c] w fun r w' => r = .returned (.string ⟨(shapeF hs f (keysE L)).toArray⟩) ∧ Below w.heap.size w w'
/-- What shape gives of a place. -/
def PShapeOk (hs : ByteArray → Nat) (f : Nat) : Prop := ∀ (S : Nat → Prop) (w : World) (L : List Ent) (p : Pl), PlAt hs S w (NodeAt hs S f w) L (some p) → L.length ≤ 50000 → Tab6 w → Tab w →
    Calls Tryd.prog 49 #[.agg (plc p)] w fun r w' => r = .returned (.string ⟨(restF hs f (keysE L)).toArray⟩) ∧ Below w.heap.size w w'
theorem inr_small {n : Nat} (h : n ≤ 9223372036854775807) : InR (n : Int) := ⟨by omega, by omega⟩
set_option maxHeartbeats 2000000 in
theorem hm_pshape (hs : ByteArray → Nat) (f : Nat) (ih : ShapeOk hs f) : PShapeOk hs f := by
  intro S w L p h hn hT hT2
  obtain ⟨w1, hw1⟩ : ∃ w1, w.alloc (.cells (plc p) 80) = w1 := ⟨_, rfl⟩
  obtain ⟨hb1, hx1, hs1⟩ := new_belowS hw1
  match L, h with
  | [], h => cases h
  | [e], h =>
    obtain ⟨b, hp, _⟩ := h
    obtain rfl := Option.some.inj hp
    have c1 : w1.cell? ⟨w.heap.size, 1, none⟩ = some (.pointer none) := cell_in hx1 rfl
    have HB1 := Lib.hid hb1
    clear hx1 hb1 hs1 hp hT hT2 hn ih
    go_enter Tryd.func49, Tryd.ntmps49
    go_wp2_with fail
    go_ret
    exact ⟨rfl, HB1.out⟩
  | m1 :: m2 :: M, h =>
    obtain ⟨g, cg, fr, hp, _, hgw, hnd⟩ := h
    obtain rfl := Option.some.inj hp
    have c1 : w1.cell? ⟨w.heap.size, 1, none⟩ = some (.pointer (some ⟨g, 0, none⟩)) := cell_in hx1 rfl
    have HG1 := Lib.hid ((hb1.block _ (Array.getElem?_eq_some_iff.1 hgw).1).trans hgw)
    have HSZ := Lib.hid hnd.size
    have HC := Lib.hid (ih S w1 _ cg (hnd.later hb1) (by simp) hn (hT.below hb1) (hT2.below hb1))
    have HB1 := Lib.hid hb1
    clear hx1 hb1 hs1 hp hT hT2 hn ih hgw hnd
    go_enter Tryd.func49, Tryd.ntmps49
    go_wp2_with (first
      | (refine ld_if (by rfl) 34 _ rfl g rfl 34 _ _ _ HG1.out Tryd.underlying34 rfl (by rw [HSZ.out]; exact nd_size) ?_)
      | (go_at_call 29; (with_reducible refine HC.out.mono ?_); rintro r w2 ⟨rfl, hb2⟩; have HB2 := Lib.hid (HB1.out.trans (hb2.mono HB1.out.size)); clear hb2))
    go_ret
    exact ⟨rfl, HB2.out⟩
theorem eps_some (p : Addr) (n c : Nat) (w : World) : (binOp .neq 32 (.slice (some p) n c) (.slice none 0 0)).run Tryd.prog w = .ok (.bool true) w := by
  have hu := run_underlying (w := w) Tryd.underlying32
  have hm : Op.maxDepth = (Op.maxDepth - 1) + 1 := by decide
  unfold binOp
  simp only []
  unfold Op.equal
  rw [hm]
  unfold Op.equalIn
  simp [Sem.run_bind, hu, Result.andThen]
theorem eps_none (w : World) : (binOp .neq 32 (.slice none 0 0) (.slice none 0 0)).run Tryd.prog w = .ok (.bool false) w := by
  have hu := run_underlying (w := w) Tryd.underlying32
  have hm : Op.maxDepth = (Op.maxDepth - 1) + 1 := by decide
  unfold binOp
  simp only []
  unfold Op.equal
  rw [hm]
  unfold Op.equalIn
  simp [Sem.run_bind, hu, Result.andThen]
set_option maxHeartbeats 2000000 in
theorem hm_shape_0 (hs : ByteArray → Nat) : ShapeOk hs 0 := by
  intro S w L c h h0 hn hT hT2
  obtain ⟨v, qs, rfl, ⟨h5, h2⟩, hq, h4⟩ := h
  clear h5 hq h4
  rcases h2 with ⟨h2, _⟩ | ⟨hpos, g, cp, cur, rfl, hcp, _, _, _⟩
  · exact absurd (List.eq_nil_of_length_eq_zero h2) (h0 rfl)
  obtain ⟨w1, hw1⟩ : ∃ w1, w.alloc (.cells #[.int .u32 0, .slice none 0 0, .slice (some ⟨g, 0, none⟩) L.length cp] 34) = w1 := ⟨_, rfl⟩
  obtain ⟨hb1, hx1, hs1⟩ := new_belowS hw1
  have c2 : w1.cell? ⟨w.heap.size, 2, none⟩ = some (.slice (some ⟨g, 0, none⟩) L.length cp) := cell_in hx1 rfl
  have hc := num_Digits (L.length : Int) w1 (inr_small (by omega)) (hT2.below hb1)
  have hl : (⟨(Lib.itoa (L.length : Int)).toArray⟩ : ByteArray).size ≤ 21 := by
    show (Lib.itoa (L.length : Int)).toArray.size ≤ 21
    rw [List.size_toArray]
    exact itS_len (by omega)
  have hsh : (⟨#[91]⟩ ++ (⟨(Lib.itoa (L.length : Int)).toArray⟩ : ByteArray)) ++ ⟨#[93]⟩ = (⟨(shapeF hs 0 (keysE L)).toArray⟩ : ByteArray) := by
    apply ByteArray.ext
    rw [shapeF, keysE_len]
    simp [ByteArray.data_append, itS]
  obtain ⟨d, hd⟩ : ∃ d : ByteArray, d = ⟨(Lib.itoa (L.length : Int)).toArray⟩ := ⟨_, rfl⟩
  rw [← hd] at hc hl hsh
  obtain ⟨n, hnn⟩ : ∃ n, n = L.length := ⟨_, rfl⟩
  rw [← hnn] at hc c2 hw1 ⊢
  have HC := Lib.hid hc
  have HSH := Lib.hid hsh
  have HB1 := Lib.hid hb1
  have hl2 : (⟨#[91]⟩ ++ d : ByteArray).size ≤ 22 := by rw [ByteArray.size_append]; show 1 + d.size ≤ 22; omega
  clear hx1 hb1 hs1 hT hT2 hn hcp hc hsh hd hnn hpos h0
  go_enter Tryd.func29, Tryd.ntmps29
  go_wp2_with (first
    | (rw [eps_some])
    | (go_at_call 45; (with_reducible refine HC.out.mono ?_); rintro r w2 ⟨rfl, hb2⟩; have HB2 := Lib.hid (HB1.out.trans (hb2.mono HB1.out.size)); clear hb2))
  go_ret
  exact ⟨by rw [HSH.out]; rfl, HB2.out⟩
/-- What a place adds to the text. -/
def txtE (hs : ByteArray → Nat) (f : Nat) (M : Nat → List Ent) (i : Nat) : List UInt8 := itS i ++ restF hs f (keysE (M i))
/-- What holds between the rounds of shape. -/
def ShI (w : World) (T : Nat) (c : Array Value) (l : List UInt8) (V : World) : Prop :=
  ((Bld T T l V) ∧ V.heap[w.heap.size]? = some (.cells c 34 (0, 0))) ∧ Below w.heap.size w V
theorem txt_len (hs : ByteArray → Nat) (f : Nat) (hf : f ≤ 13) (M : Nat → List Ent) (hM : ∀ i, (M i).length ≤ 50000) (i : Nat) (hi : i < 32) : (txtE hs f M i).length ≤ 1000000000 := by
  unfold txtE
  have h1 := itS_len (n := i) (by omega)
  have h2 : (restF hs f (keysE (M i))).length ≤ 100000000 := by
    have hl := hM i
    rw [← keysE_len] at hl
    match keysE (M i), hl with
    | [], _ => simp [restF]
    | [_], _ => simp [restF]
    | a :: b :: r, hl =>
      have h := shape_len hs f (a :: b :: r) (by omega)
      have h3 : (50 * f + 1) * (a :: b :: r).length ≤ 700 * 50000 := Nat.mul_le_mul (by omega) hl
      show (shapeF hs f (a :: b :: r)).length ≤ _
      omega
  rw [List.length_append]
  omega
theorem flat_len {α β : Type} (g : α → List β) (k : Nat) : ∀ l : List α, (∀ x ∈ l, (g x).length ≤ k) → (l.flatMap g).length ≤ l.length * k
  | [], _ => by simp
  | a :: l, h => by
    have ih := flat_len g k l fun x hx => h x (List.mem_cons_of_mem _ hx)
    have := h a List.mem_cons_self
    rw [List.flatMap_cons, List.length_append, List.length_cons, Nat.add_mul]
    omega
set_option maxHeartbeats 4000000 in
theorem hm_shape_core (hs : ByteArray → Nat) (f : Nat) (hf : f ≤ 13) (ih : PShapeOk hs f) (S : Nat → Prop) (w : World) (b : Nat) (va : Option Addr) (vn vc : Nat) (R : Rg Pl) (M : Nat → List Ent) (hS : ∀ g, S g → g < w.heap.size)
    (hrow : AtR S w R #[.int .u32 (b : Int), .slice va vn vc]) (hpl : ∀ i, i < 32 → PlAt hs S w (NodeAt hs S f w) (M i) (R i)) (hMn : ∀ i, (M i).length ≤ 50000) (hT : Tab6 w) (hT2 : Tab w) :
    Calls Tryd.prog 29 #[.agg #[.int .u32 (b : Int), .slice va vn vc, .slice none 0 0]] w fun r w' => r = .returned (.string ⟨(40 :: ((allG R).flatMap fun (x : Nat × Pl) => txtE hs f M x.1) ++ [41]).toArray⟩) ∧ Below w.heap.size w w' := by
  have ht : 0 < w.heap.size := World.block_lt_of_cell? w _ (hT 0 (by decide))
  have hb' : bitsG R 32 = b := by
    obtain ⟨v', e, _⟩ := hrow
    simp only [Array.mk.injEq, List.cons.injEq, Value.int.injEq, true_and] at e
    omega
  have HPL : Hid (PlsIn w.heap.size w (.slice va vn vc) (lisG R)) := by
    obtain ⟨v', e, h2⟩ := hrow
    simp only [Array.mk.injEq, List.cons.injEq] at e
    rw [← e.2.1] at h2
    exact pls_in h2 hS
  have HTT := Lib.hid (And.intro hT hT2)
  have HPLA := Lib.hid hpl
  have HMN := Lib.hid hMn
  have HIH := Lib.hid ih
  have HS := Lib.hid hS
  have HALL := Lib.hid (fun b v w => callsIn_wide.1 (pr_All_in 5 b v w))
  obtain ⟨w1, hw1⟩ : ∃ w1, w.alloc (.cells #[.int .u32 (b : Int), .slice va vn vc, .slice none 0 0] 34) = w1 := ⟨_, rfl⟩
  obtain ⟨hb1, hx1, hs1⟩ := new_belowS hw1
  have c2 : w1.cell? ⟨w.heap.size, 2, none⟩ = some (.slice none 0 0) := cell_in hx1 rfl
  have HX1 := Lib.hid hx1
  have HB1 := Lib.hid hb1
  have HS1 := Lib.hid hs1
  clear hrow hpl hMn hT hT2 hS hx1 hb1 hs1 ih
  refine (callsIn_wide (n := 5)).1 ?_
  refine callsIn_of_wp_marks Tryd.func29 rfl trivial ?_ rfl
  refine wpIn_wide.2 ?_
  simp only [Tryd.ntmps29, List.size_toArray, List.length_cons, List.length_nil, Nat.reduceAdd, Nat.reduceSub, Array.replicate_succ, Array.replicate_zero, List.push_toArray, List.append_toArray, List.nil_append, List.cons_append]
  go_upto_region 1 with fail
  obtain ⟨T, hTT⟩ : ∃ T, T = w1.heap.size := ⟨_, rfl⟩
  have hT1 : T = w.heap.size + 1 := by rw [hTT, HS1.out]
  have hput : Calls Tryd.prog 46 #[.pointer (some ⟨T, 0, none⟩), .int .u8 40] (w1.alloc (.cells #[.pointer none, .slice none 0 0] 93)) fun e w' => e = .returned .nilIface ∧ Bld T T ([] ++ [40]) w' ∧ Keeps T T (w1.alloc (.cells #[.pointer none, .slice none 0 0] 93)) w' := by
    rw [hTT]
    exact bld_put _ _ [] 40 _ (bld_new w1) (by simp) (by simp)
  have HPUT := Lib.hid hput
  have HX2p : Hid ((w1.alloc (.cells #[.pointer none, .slice none 0 0] 93)).heap[w.heap.size]? = some (.cells #[.int .u32 (b : Int), .slice va vn vc, .slice none 0 0] 34 (0, 0))) := ((Below.newly' w1 _).block _ (by rw [HS1.out]; omega)).trans HX1.out
  have HB2p : Hid (Below w.heap.size w (w1.alloc (.cells #[.pointer none, .slice none 0 0] 93))) := HB1.out.trans ((Below.newly' w1 _).mono HB1.out.size)
  clear hput
  go_wp2_with (first
    | (rw [eps_none])
    | (rw [← hTT]; go_at_call 46; (with_reducible refine HPUT.out.mono ?_); rintro r w2 ⟨rfl, hbd2, hk2⟩; have HBD2 := Lib.hid hbd2; have HX2 := Lib.hid (hk2.row HX2p.out (by omega) (by decide)); have HB2 := Lib.hid (HB2p.out.trans (hk2.1.mono (show w.heap.size ≤ T by omega))); clear hbd2 hk2)
    | (refine wpList_load_mid rfl 31 _ rfl w.heap.size 0 rfl [.int .u32 (b : Int), .slice va vn vc] _ (row_rangeS HX2.out) Tryd.underlying31 rfl row_size ?_)
    | (go_at_call 47; refine (HALL.out _ _ _).mono ?_; rintro e w' ⟨rfl, rfl⟩))
  obtain ⟨RB, hRB⟩ : ∃ RB, RB = w2.heap.size := ⟨_, rfl⟩
  have hTlt : T < w2.heap.size := HBD2.out.lt
  obtain ⟨W0, hW0⟩ : ∃ W0, w2.alloc (.cells #[.int .u32 (b : Int), .slice va vn vc] 31) = W0 := ⟨_, rfl⟩
  obtain ⟨hb0, hr0, hs0⟩ := new_belowS hW0
  rw [hW0, ← hTT]
  rw [← hRB] at hr0 hs0
  clear hTT
  have hA0 : Below w.heap.size w W0 := HB2.out.trans (hb0.mono HB2.out.size)
  have hX0 := (hb0.block _ (Array.getElem?_eq_some_iff.1 HX2.out).1).trans HX2.out
  have hD0 : Bld T T [40] W0 := HBD2.out.later hb0
  have HT1 := Lib.hid hT1
  have hwW : w.heap.size ≤ W0.heap.size := hA0.size
  clear hT1
  clear hW0 hb0 hw1 HX2p HB2p HPUT c2
  refine (wpIn_wide (n := 5)).1 ?_
  refine wpIn_rangeFunc_ownH (F := Fence.wide) rfl (by omega) (gf := 68) (lb := #[.pointer (some ⟨w2.heap.size, 0, none⟩)]) rfl trivial (enters_of Tryd.func68 (by kernel_rfl) rfl)
    (pr_all_stopsS 4 (by omega) w2.heap.size w.heap.size R _ W0 (by omega) (by omega) ht (by rw [hb', ← hRB]; exact cell_in hr0 rfl) (by rw [← hRB]; exact cell_in hr0 rfl) (HPL.out.below hA0) (HTT.out.1.below hA0)) belowK_t (belowK_b (by omega)) (Below.refl _ _) (fun _ => rfl)
    (fun pre V => ShI w T #[.int .u32 (b : Int), .slice va vn vc, .slice none 0 0] (40 :: pre.flatMap fun x => txtE hs f M x.1.1) V)
    (fun _ _ _ => False)
    (fun s A B row hs' hg hr => by
      obtain ⟨⟨h1, h5⟩, h6⟩ := hs'
      have hr' := fun r e => (hr r e).2
      exact ⟨⟨h1.kept hg hr', row_kept h5 hg hr'⟩, ownFrom_below (β := Unit) (Nat.le_refl _) (by omega) () A B row h6 hg hr⟩)
    (fun _ _ _ _ _ hs' _ _ => hs')
    ⟨⟨hD0, hX0⟩, hA0⟩
    (fun x a' V => ∃ Bx, T < Bx ∧ V.heap[Bx]? = some (.cells (plc x.1.2) 80 (0, 0)) ∧ a' = { tmps := #[.agg #[.int .u32 (b : Int), .slice va vn vc, .slice none 0 0], .pointer (some ⟨w.heap.size, 0, none⟩), .string ⟨#[]⟩, .pointer (some ⟨T, 0, none⟩), .int .i64 (x.1.1 : Int), .pointer (some ⟨Bx, 0, none⟩), .pointer (some ⟨w.heap.size, 2, none⟩), .slice none 0 0, .bool false, undef, undef, undef, undef, undef, undef, .nilIface, .pointer (some ⟨w.heap.size, 0, none⟩), .agg #[.int .u32 (b : Int), .slice va vn vc], .func (.func 68) #[] #[.pointer (some ⟨w2.heap.size, 0, none⟩)], .int .i64 (x.1.1 : Int), .agg (plc x.1.2), undef, undef, undef, undef, undef, undef, undef, undef], defers := [] })
    (fun x a' => Own.from (fun s A B row hs' hg hr => by obtain ⟨Bx, h1, h2, h3⟩ := hs'; exact ⟨Bx, h1, row_kept h2 hg hr, h3⟩) _)
    ?assign ?body ?done ?stop
  case assign =>
    rintro l pre x V K ⟨⟨hD, h5⟩, hA⟩ hK
    gi_wp2_with (refine st_in rfl 80 _ _ rfl V.heap.size (plc x.1.2) rfl rfl 80 (plc (none, none)) (heap_alloc_last _ _) pl_size rfl (plc_one x.1.2) ?_; intro w5 h5' k5; have hb5 : Below V.heap.size V w5 := (Below.newly' _ _).trans (k5.below (Nat.le_refl _)))
    exact hK _ _ (((KeepsOthers.alloc V _).trans (only_keeps k5 (heap_alloc_last _ _))).from _) (hb5.mono hA.size) ⟨⟨hD.later hb5, (hb5.block _ (Array.getElem?_eq_some_iff.1 h5).1).trans h5⟩, hA.trans (hb5.mono hA.size)⟩ ⟨V.heap.size, hD.lt, h5', rfl⟩
  case body =>
    rintro l pre x a' V hl ⟨r, hr⟩ ⟨⟨hD, hX⟩, hA⟩ ⟨Bx, hBx, bX, rfl⟩ hlt
    obtain ⟨⟨i, p⟩, hx⟩ := x
    obtain ⟨hi, hri⟩ := all_memG hx
    simp only at hi hri bX
    have hpl := HPLA.out i hi
    rw [hri] at hpl
    have hkp : Kp S w V := Kp.low hA HS.out
    have hLEN : (40 :: pre.flatMap fun x => txtE hs f M x.1.1).length ≤ 40000000000 := by
      have h1 := flat_len (fun x : {x : Nat × Pl // x ∈ allG R} => txtE hs f M x.1.1) 1000000000 pre (fun x _ => txt_len hs f hf M HMN.out x.1.1 (all_memG x.2).1)
      have h4 : (allG R).length ≤ 32 := by rw [all_lenG]; exact cnt_leG R 32
      have h5 : pre.length * 1000000000 ≤ 32 * 1000000000 := Nat.mul_le_mul_right _ (by omega)
      rw [List.length_cons]
      omega
    obtain ⟨tx, htx⟩ : ∃ tx, tx = 40 :: pre.flatMap fun x => txtE hs f M x.1.1 := ⟨_, rfl⟩
    have HTX : Hid (tx ++ txtE hs f M i = 40 :: (pre ++ [(⟨(i, p), hx⟩ : {x : Nat × Pl // x ∈ allG R})]).flatMap fun x : {x : Nat × Pl // x ∈ allG R} => txtE hs f M x.1.1) := by
      show _ = _
      rw [htx, List.flatMap_append, List.cons_append]
      simp
    rw [← htx] at hD hLEN
    have hrl : (restF hs f (keysE (M i))).length ≤ 1000000000 := by
      have := txt_len hs f hf M HMN.out i hi
      unfold txtE at this
      rw [List.length_append] at this
      omega
    have hdg := num_Digits (i : Int) V (inr_small (by omega)) (HTT.out.2.below hA)
    obtain ⟨dg, hdg'⟩ : ∃ dg : ByteArray, dg = ⟨(Lib.itoa (i : Int)).toArray⟩ := ⟨_, rfl⟩
    have hdl : dg.data.toList = itS i := by rw [hdg']; rfl
    have hds : dg.size ≤ 21 := by
      rw [← ByteArray.size_data, ← Array.length_toList, hdl]
      exact itS_len (by omega)
    rw [← hdg'] at hdg
    obtain ⟨rs, hrs'⟩ : ∃ rs : ByteArray, rs = ⟨(restF hs f (keysE (M i))).toArray⟩ := ⟨_, rfl⟩
    have hrs : rs.data.toList = restF hs f (keysE (M i)) := by rw [hrs']
    have hrss : rs.size ≤ 1000000000 := by rw [← ByteArray.size_data, ← Array.length_toList, hrs]; exact hrl
    have HTXE : Hid (tx ++ dg.data.toList ++ rs.data.toList = tx ++ txtE hs f M i) := by show _ = _; rw [hdl, hrs, txtE, List.append_assoc]
    have HPS : Hid (∀ V', Below w.heap.size w V' → Calls Tryd.prog 49 #[.agg (plc p)] V' fun r w' => r = .returned (.string rs) ∧ Below V'.heap.size V' w') := fun V' hV' => by
      rw [hrs']
      exact HIH.out S V' (M i) p (hpl.kp (Kp.low hV' HS.out)) (HMN.out i) (HTT.out.1.below hV') (HTT.out.2.below hV')
    have HDG := Lib.hid hdg
    have HLEN := Lib.hid (And.intro hLEN (And.intro hds hrss))
    have HD := Lib.hid hD
    have HX := Lib.hid hX
    have HA := Lib.hid hA
    have HBX := Lib.hid bX
    have HTL := Lib.hid hD.lt
    have HBT : Hid (T < Bx ∧ T = w.heap.size + 1) := And.intro hBx HT1.out
    clear hdg hLEN hds hrss hD hX hA bX hBx hrs' hrs hrl hdl hdg' hpl hkp hri hr htx hs0 hr0 hA0 hX0 hD0
    gi_wp2_with (first
      | (refine list_in rfl (fun c' hc => by cases hc) fun K hK => ?_
         go_simp
         go_at_call 45
         (with_reducible refine HDG.out.mono ?_)
         rintro r w5 ⟨rfl, hb5⟩
         have HB5 := Lib.hid hb5
         have HWS := Lib.hid (bld_write T T tx dg w5 (HD.out.later hb5) (by have := HLEN.out; omega) (Nat.le_trans (Nat.le_of_lt HTL.out) hb5.size))
         clear hb5
         refine hK _ _ ?_)
      | (refine list_in rfl (fun c' hc => by cases hc) fun K hK => ?_
         go_simp
         go_at_call 48
         (with_reducible refine HWS.out.mono ?_)
         rintro r w6 ⟨rfl, hd6, hk6⟩
         have HK6 := Lib.hid ((Keeps.later HB5.out (Nat.le_of_lt HTL.out)).trans hk6)
         have HX6 := Lib.hid (HK6.out.row HBX.out (by have := HBT.out; omega) (by decide))
         have HC6 := Lib.hid (HPS.out w6 (HA.out.trans (HK6.out.1.mono (by have := HBT.out; omega))))
         have HD6 := Lib.hid hd6
         clear hd6 hk6 HWS
         refine hK _ _ ?_)
      | (refine ld_in rfl 80 _ rfl Bx rfl 80 _ _ _ HX6.out Tryd.underlying80 rfl pl_size ?_)
      | (refine list_in rfl (fun c' hc => by cases hc) fun K hK => ?_
         go_simp
         go_at_call 49
         (with_reducible refine HC6.out.mono ?_)
         rintro r w7 ⟨rfl, hb7⟩
         have HB7 := Lib.hid hb7
         have HWR := Lib.hid (bld_write T T (tx ++ dg.data.toList) rs w7 (HD6.out.later hb7) (by have := HLEN.out; have : dg.data.toList.length = dg.size := by simp
                                                                                                 rw [List.length_append]; omega) (Nat.le_trans (Nat.le_of_lt HD6.out.lt) hb7.size))
         clear hb7
         refine hK _ _ ?_)
      | (refine list_in rfl (fun c' hc => by cases hc) fun K hK => ?_
         go_simp
         go_at_call 48
         (with_reducible refine HWR.out.mono ?_)
         rintro r w8 ⟨rfl, hd8, hk8⟩
         have HK8 := Lib.hid ((HK6.out.trans (Keeps.later HB7.out (Nat.le_of_lt HD6.out.lt))).trans hk8)
         have HD8 := Lib.hid hd8
         clear hd8 hk8
         refine hK _ _ ?_))
    have hd8 := HD8.out
    rw [HTXE.out, HTX.out] at hd8
    have hTw : w.heap.size ≤ T := by have := HBT.out; omega
    have hb8 := HK8.out.1.mono hTw
    exact ⟨(HK8.out.others HD.out).from _, hb8, ⟨⟨hd8, HK8.out.row HX.out (by have := HBT.out; omega) (by decide)⟩, HA.out.trans hb8⟩⟩
  case done =>
    rintro D ys V hD hys ⟨⟨hBd, hX⟩, hA⟩ hK
    have hLEN : (40 :: ys.flatMap fun x => txtE hs f M x.1.1).length ≤ 40000000000 := by
      have h1 := flat_len (fun x : {x : Nat × Pl // x ∈ allG R} => txtE hs f M x.1.1) 1000000000 ys (fun x _ => txt_len hs f hf M HMN.out x.1.1 (all_memG x.2).1)
      have h4 : (allG R).length ≤ 32 := by rw [all_lenG]; exact cnt_leG R 32
      have h6 : ys.length ≤ 32 := by rw [← hys, List.length_map] at h4; exact h4
      have h5 : ys.length * 1000000000 ≤ 32 * 1000000000 := Nat.mul_le_mul_right _ h6
      rw [List.length_cons]
      omega
    obtain ⟨tx, htx⟩ : ∃ tx, tx = 40 :: ys.flatMap fun x => txtE hs f M x.1.1 := ⟨_, rfl⟩
    have HTX : Hid (tx ++ [41] = 40 :: ((allG R).flatMap fun (x : Nat × Pl) => txtE hs f M x.1) ++ [41]) := by
      show _ = _
      have h := congrArg (List.flatMap (fun x : Nat × Pl => txtE hs f M x.1)) hys
      rw [List.flatMap_map] at h
      rw [htx, h]
    rw [← htx] at hBd hLEN
    have hput : Calls Tryd.prog 46 #[.pointer (some ⟨T, 0, none⟩), .int .u8 41] V fun e w' => e = .returned .nilIface ∧ Bld T T (tx ++ [41]) w' ∧ Keeps T T V w' := bld_put T T tx 41 V hBd (by omega) (Nat.le_of_lt hBd.lt)
    have HPUT := Lib.hid hput
    have HA := Lib.hid hA
    have HK := Lib.hid hK
    have HDT : Hid (D ≠ T) := by
      intro e
      obtain ⟨p, v, h, _⟩ := hBd.at_
      rw [← e, hK] at h
      cases h
    clear hBd hX hA hK hLEN htx hput hys hX0 hD0 hr0 hs0 hA0
    go_wp2_with (first
      | (go_at_call 46; (with_reducible refine HPUT.out.mono ?_); rintro r w6 ⟨rfl, hd6, hk6⟩; have HK6 := Lib.hid hk6; have HSTR := Lib.hid (bld_StringK T T (tx ++ [41]) w6 hd6 (Nat.le_of_lt hd6.lt)); clear hd6 hk6)
      | (go_at_call 50; (with_reducible refine HSTR.out.mono ?_); rintro r w7 ⟨rfl, hk7⟩; have HK7 := Lib.hid (HK6.out.trans hk7); clear hk7))
    have hK7 : w7.heap[D]? = some (.deferred (some [])) := HK7.out.2 D _ HK.out (fun e => HDT.out (Option.some.inj e)) (fun _ _ e => by cases e)
    have hTw : w.heap.size ≤ T := by have := HT1.out; omega
    have hb7 : Below w.heap.size w w7 := HA.out.trans (HK7.out.1.mono hTw)
    refine ⟨by simp [Act.put], .inl ⟨_, _, rfl, run_takeDeferred hK7, .string ⟨(tx ++ [41]).toArray⟩, by simp [results, Tryd.f29, go_sem], ?_, ?_⟩⟩
    · rw [HTX.out]
      simp
    · exact hb7.trans (belowK_b (w := w) (Nat.le_refl _) _ D _ _ (by omega) hK7 rfl rfl)
  case stop =>
    rintro D k pre V _ _ h _
    exact h.elim
theorem flat_someS {α β : Type} (R : Nat → Option α) (M : Nat → List β) : ∀ l : List Nat, (∀ i ∈ l, R i = none → M i = []) → ((l.filterMap fun i => (R i).map fun x => (i, x)).flatMap fun x => M x.1) = l.flatMap M
  | [], _ => rfl
  | i :: l, h => by
    have ih := flat_someS R M l (fun j hj => h j (List.mem_cons_of_mem _ hj))
    cases hr : R i with
    | none =>
      rw [List.filterMap_cons_none (by rw [hr]; rfl), ih, List.flatMap_cons, h i (List.mem_cons_self ..) hr, List.nil_append]
    | some x =>
      rw [List.filterMap_cons_some (b := (i, x)) (by rw [hr]; rfl), List.flatMap_cons, ih, List.flatMap_cons]
theorem plat_nil {hs : ByteArray → Nat} {S : Nat → Prop} {w : World} {ND : List Ent → Array Value → Prop} {L : List Ent} {p : Option Pl} (h : PlAt hs S w ND L p) : p = none ↔ L = [] := by
  match L, h with
  | [], h => exact ⟨fun _ => rfl, fun _ => h⟩
  | [_], h => obtain ⟨_, h, _⟩ := h; simp [h]
  | _ :: _ :: _, h => obtain ⟨_, _, _, h, _⟩ := h; simp [h]
/-- What shape gives of a node at any level. -/
theorem hm_shape (hs : ByteArray → Nat) : ∀ f, f ≤ 13 → ShapeOk hs f
  | 0, _ => hm_shape_0 hs
  | f + 1, hf => fun S w L c h _ hn hT hT2 => by
    obtain ⟨b0, vr, R, rfl, hrow, hpl⟩ := h.old.row
    obtain ⟨bb, va, vn, vc, e⟩ : ∃ (b : Nat) (a : Option Addr) (n m : Nat), #[b0, vr] = #[.int .u32 (b : Int), .slice a n m] := by
      obtain ⟨a, n, e⟩ := hrow.shape
      exact ⟨_, _, _, _, e⟩
    simp only [Array.mk.injEq, List.cons.injEq] at e
    obtain ⟨rfl, rfl, _⟩ := e
    refine (hm_shape_core hs f (by omega) (hm_pshape hs f (hm_shape hs f (by omega))) _ w bb va vn vc R (fun i => chE hs (12 - f) i L) (fun g h => h.2) hrow hpl (fun i => Nat.le_trans ch_len_le hn) hT hT2).mono ?_
    rintro r w' ⟨rfl, hb⟩
    refine ⟨?_, hb⟩
    have e1 : ((allG R).flatMap fun (x : Nat × Pl) => txtE hs f (fun i => chE hs (12 - f) i L) x.1) = (allG R).flatMap fun (x : Nat × Pl) => pieceF hs f x.1 (kch hs (12 - f) x.1 (keysE L)) := by
      refine fm_congr fun x hx => ?_
      obtain ⟨h1, h2⟩ := all_memG hx
      have hne : keysE (chE hs (12 - f) x.1 L) ≠ [] := by
        intro e
        have e' : chE hs (12 - f) x.1 L = [] := List.eq_nil_of_length_eq_zero (by rw [← keysE_len, e]; rfl)
        have := (plat_nil (hpl x.1 h1)).2 e'
        rw [h2] at this
        cases this
      rw [kch_ch]
      unfold pieceF txtE
      rw [if_neg hne]
    rw [e1]
    unfold allG
    rw [flat_someS R (fun i => pieceF hs f i (kch hs (12 - f) i (keysE L))) _ (fun i hi hr => by
      have := (plat_nil (hpl i (List.mem_range.1 hi))).1 hr
      rw [kch_ch, this]
      rfl), shape_succ]
end Go.Proofs.YtlngjabjeodkpaaDoor

/- Package hamt: Map.Shape, entries, the iterator of All. (written by tools/gen09/ent17.py) -/
namespace Go.Proofs.YtlngjabjeodkpaaDoor
open Go.RowKit Go.Shelf
set_option maxRecDepth 1000000
set_option linter.unusedSimpArgs false
attribute [local go_sem] Oper.semAt_some

set_option maxHeartbeats 2000000 in
theorem hm_Shape {S : Nat → Prop} (w : World) (s : Nat) (n : Int) (L : List Ent) (c : Array Value) (h : MapAt S w s n L c) (hn : L.length ≤ 50000) (hT : Tab6 w) (hT2 : Tab w) :
    Calls Tryd.prog 20 #[.agg c] w fun r w' => r = .returned (.string ⟨(shapeF (hsN s n) 13 (keysE L)).toArray⟩) ∧ Below w.heap.size w w' := by
  obtain ⟨bb, a1, n1, c1, a2, n2, c2, rfl, hnd⟩ := h
  obtain ⟨l, hl⟩ : ∃ l, l = L.length := ⟨_, rfl⟩
  rw [← hl]
  obtain ⟨w1, hw1⟩ : ∃ w1, w.alloc (.cells #[.int .u64 (s : Int), .int .i64 n, .int .i64 ((l : Nat) : Int), .int .u32 (bb : Int), .slice a1 n1 c1, .slice a2 n2 c2] 36) = w1 := ⟨_, rfl⟩
  obtain ⟨hb1, hx1, hs1⟩ := new_below hw1
  have HC := Lib.hid (hm_shape (hsN s n) 13 (Nat.le_refl _) S w1 L _ (hnd.later hb1) (by simp) hn (hT.below hb1) (hT2.below hb1))
  have HX1 := Lib.hid hx1
  have HB1 := Lib.hid hb1
  clear hnd hx1 hb1 hs1 hT hT2 hn hl
  go_enter Tryd.func20, Tryd.ntmps20
  go_wp2_with (first
    | (refine wpList_load_mid rfl 34 _ rfl w.heap.size 3 rfl [.int .u32 (bb : Int), .slice a1 n1 c1, .slice a2 n2 c2] _ (map_range HX1.out) Tryd.underlying34 rfl nd_size ?_)
    | (go_at_call 29; (with_reducible refine HC.out.mono ?_); rintro r w2 ⟨rfl, hb2⟩; have HB2 := Lib.hid (HB1.out.trans (hb2.mono HB1.out.size)); clear hb2))
  go_ret
  exact ⟨rfl, HB2.out⟩
theorem eps_make_wp {o : Oper} {a : Act} {K : Act → World → Prop} {Q : Exit → Act → World → Prop} {w : World} (l c : Operand) (hop : o.op = .makeSlice 32 l c)
    {B : Nat} (kl kc : IntKind) (C : Int) (n : Nat) (hl : a.eval l = .int kl 0) (hc : a.eval c = .int kc C) (hC : C = (n : Int)) (hn : n ≤ 10000000) (hB : B ≤ w.heap.size)
    (h : ∀ w', Eps B (.slice (some ⟨w.heap.size, 0, none⟩) 0 n) [] w' → Below w.heap.size w w' → K (a.put o.dst (.slice (some ⟨w.heap.size, 0, none⟩) 0 n)) w') : o.wp Tryd.prog a w K Q := by
  obtain ⟨i, hi, hz, h1, h2⟩ := info_parts eptr_info
  obtain ⟨w', hrun, r1, r2⟩ := run_make_own (P := Tryd.prog) w B 32 66 i (.pointer none) 1 Tryd.underlying32 hi hz h1 kl kc n (by rw [h2]; omega) (by unfold maxLen; omega) hB
  subst hC
  unfold Oper.wp
  simp [execOp, hop, hl, hc, hrun, Result.andThen]
  have hb : Below w.heap.size w w' := (Below.refl _ _).grown r2 (Nat.le_refl _) (fun k hk => by cases hk)
  exact h w' ⟨r1, Nat.le_trans hB hb.size⟩ hb
theorem eps_new_lt {B g n : Nat} {w : World} (h : Eps B (.slice (some ⟨g, 0, none⟩) 0 n) [] w) : g < w.heap.size := by
  obtain ⟨cur, hc⟩ := h.typed g 0 n rfl
  exact (Array.getElem?_eq_some_iff.1 hc).1
/-- v is a list of these keys' blocks, at the head of a block from B on. -/
def LstE (B : Nat) (w : World) (v : Value) (qs : List (Nat × Ent)) : Prop := ∃ (a : Option Addr) (c : Nat), v = .slice a qs.length c ∧ (0 < qs.length → ∃ g cur, a = some ⟨g, 0, none⟩ ∧ B ≤ g ∧ w.heap[g]? = some (.cells cur 66 (0, 0)) ∧ ∀ j (hj : j < qs.length), cur[j]? = some (pv (some qs[j].1)))
theorem lst_of {B B' : Nat} {w : World} {v : Value} {qs : List (Nat × Ent)} (hv : ∃ a c, v = .slice a qs.length c ∧ (∀ p, a = some p → p.off = 0 ∧ p.spot = none)) (hc : CutAt (fun g => B ≤ g) w 1 v (en enE (qs.map (·.1))) qs.length) (hT : TypedE w v) (hB : B' ≤ B) : LstE B' w v qs := by
  obtain ⟨a, c, rfl, h0⟩ := hv
  refine ⟨a, c, rfl, fun hp => ?_⟩
  obtain ⟨g, o, c', e, _, hg, _, hcell⟩ := hc.pos hp
  simp only [Value.slice.injEq] at e
  obtain ⟨rfl, _, rfl⟩ := e
  obtain ⟨rfl, _⟩ := h0 _ rfl
  obtain ⟨cur, hcur⟩ := hT g _ _ rfl
  refine ⟨g, cur, rfl, Nat.le_trans hB hg, hcur, fun j hj => ?_⟩
  have h := hcell j (pv (some qs[j].1)) (by rw [flat_ps, List.getElem?_eq_getElem hj]; rfl)
  rw [Nat.zero_add, Lib.cell_of_heap hcur] at h
  exact h
set_option maxHeartbeats 4000000 in
theorem hm_entries {S : Nat → Prop} (w : World) (s : Nat) (n : Int) (L : List Ent) (c : Array Value) (h : MapAt S w s n L c) (hL : Rise L) (hn : L.length ≤ 50000) (hT : Tab6 w) :
    Calls Tryd.prog 24 #[.agg c] w fun r w' => ∃ (v : Value) (qs : List (Nat × Ent)), r = .returned v ∧ qs.map (·.2) = L ∧ (∀ q ∈ qs, EntAt (hsN s n) (fun g => S g ∧ g < w.heap.size) w' q.1 q.2) ∧ LstE w.heap.size w' v qs ∧ Below w.heap.size w w' ∧ w.heap.size + 2 ≤ w'.heap.size := by
  have htn : 0 < w.heap.size := World.block_lt_of_cell? w _ (hT 0 (by decide))
  obtain ⟨bb, a1, n1, c1, a2, n2, c2, rfl, hnd⟩ := h
  obtain ⟨l, hl⟩ : ∃ l, l = L.length := ⟨_, rfl⟩
  rw [← hl]
  obtain ⟨w1, hw1⟩ : ∃ w1, w.alloc (.cells #[.int .u64 (s : Int), .int .i64 n, .int .i64 ((l : Nat) : Int), .int .u32 (bb : Int), .slice a1 n1 c1, .slice a2 n2 c2] 36) = w1 := ⟨_, rfl⟩
  obtain ⟨hb1, hx1, hs1⟩ := new_below hw1
  have HAPP : Hid (∀ W, Below w1.heap.size w1 W → ∀ v, Eps w.heap.size v [] W → Calls Tryd.prog 31 #[.agg #[.int .u32 (bb : Int), .slice a1 n1 c1, .slice a2 n2 c2], v] W (AppRes (hsN s n) (fun g => S g ∧ g < w.heap.size) w.heap.size W [] L)) := fun W hW v hv =>
    hm_app (hsN s n) 13 (Nat.le_refl _) (fun g => S g ∧ g < w.heap.size) w.heap.size W L _ v [] (fun g h => h.2) htn (hnd.old.later (hb1.trans (hW.mono hb1.size))) hn hv (by simp) (hT.below (hb1.trans (hW.mono hb1.size)))
  have HX1 := Lib.hid hx1
  have HB1 := Lib.hid hb1
  have HS1 := Lib.hid hs1
  have HLN : Hid (l ≤ 50000) := by show _ ≤ _; omega
  have HL := Lib.hid (And.intro hL hl)
  have HKS : Hid (∀ V, Below w1.heap.size w1 V → (V.heap[w.heap.size]? = some (.cells #[.int .u64 (s : Int), .int .i64 n, .int .i64 ((l : Nat) : Int), .int .u32 (bb : Int), .slice a1 n1 c1, .slice a2 n2 c2] 36 (0, 0)) ∧ V.cell? ⟨w.heap.size, 2, none⟩ = some (.int .i64 (l : Int)))) := fun V hV => by
    have h := (hV.block _ (by have := HS1.out; omega)).trans HX1.out
    exact ⟨h, cell_in h rfl⟩
  have HW : Hid (Below w1.heap.size w1 w1.drew) := drawn_below w1
  clear hnd hx1 hb1 hs1 hT hn hL hl htn
  go_enter Tryd.func24, Tryd.ntmps24
  go_upto_region 1 with fail
  clear hw1
  refine wp_region_T (S := (fun V => V.heap[w.heap.size]? = some (.cells #[.int .u64 (s : Int), .int .i64 n, .int .i64 ((l : Nat) : Int), .int .u32 (bb : Int), .slice a1 n1 c1, .slice a2 n2 c2] 36 (0, 0)) ∧ V.cell? ⟨w.heap.size, 2, none⟩ = some (.int .i64 (l : Int)))) [] (by kernel_rfl) (by first | exact HKS.out _ HW.out | exact ⟨HX4.out, cell_in HX4.out rfl⟩) (fun hHeld => ?_)
  refine wpAnyT_take (i := 0) (oi := ⟨some 4, _, _, _, _, _⟩) (v := ?vg1_0) rfl (by kernel_rfl) (by kernel_rfl) (by kernel_rfl) (by kernel_rfl) (fun _ _ _ h => h) (Or.inl ⟨by rfl, ?hg1_0⟩) (by assumption) ?rg1_0
  case hg1_0 => (intro w hSw; (try dsimp only at hSw); first | (go_simp; done) | (go_simp; with_reducible rfl))
  (try simp only [Act.put, List.setIfInBounds_toArray, List.set_cons_zero, List.set_cons_succ])
  refine wpAnyT_take (i := 1) (oi := ⟨some 5, _, _, _, _, _⟩) (v := _) rfl (by kernel_rfl) (by kernel_rfl) (by kernel_rfl) (by kernel_rfl) (fun _ _ _ h => h) (yieldsIf_arr (by rfl) 34 _ rfl w.heap.size 3 rfl #[.int .u32 (bb : Int), .slice a1 n1 c1, .slice a2 n2 c2] _ (fun w hw => (map_range hw.1)) Tryd.underlying34 rfl (by exact nd_size)) (by assumption) ?_
  (try simp only [Act.put, List.setIfInBounds_toArray, List.set_cons_zero, List.set_cons_succ])
  refine wpAnyT_take (i := 2) (oi := ⟨some 6, _, _, _, _, _⟩) (v := ?vg1_2) rfl (by kernel_rfl) (by kernel_rfl) (by kernel_rfl) (by kernel_rfl) (fun _ _ _ h => h) (Or.inl ⟨by rfl, ?hg1_2⟩) (by assumption) ?rg1_2
  case hg1_2 => (intro w hSw; (try dsimp only at hSw); first | (go_simp; done) | (go_simp; with_reducible rfl))
  (try simp only [Act.put, List.setIfInBounds_toArray, List.set_cons_zero, List.set_cons_succ])
  refine wpAnyT_take (i := 3) (oi := ⟨some 7, _, _, _, _, _⟩) (v := ?vg1_3) rfl (by kernel_rfl) (by kernel_rfl) (by kernel_rfl) (by kernel_rfl) (fun _ _ _ h => h) (Or.inl ⟨by rfl, ?hg1_3⟩) (by assumption) ?rg1_3
  case hg1_3 => (intro w hSw; (try dsimp only at hSw); first | (go_simp; done) | (go_simp; with_reducible rfl))
  (try simp only [Act.put, List.setIfInBounds_toArray, List.set_cons_zero, List.set_cons_succ])
  refine wpAnyT_one (i := 4) (o := ⟨some 8, _, _, _, _, _⟩) (by kernel_rfl) rfl (fun K hK => ?_)
  rw [if_pos (by rfl)]
  refine eps_make_wp _ _ rfl (B := w.heap.size) .i64 .i64 _ l rfl rfl rfl (by have := HLN.out; omega) (by have := HW.out.size; have := HB1.out.size; omega) ?_
  intro w3 hi3 hb
  have HI3 := Lib.hid hi3
  have HG3 : Hid (w.heap.size + 1 ≤ w1.drew.heap.size) := by show _ ≤ _; have := HW.out.size; have := HS1.out; omega
  replace HW := Lib.hid (HW.out.trans (hb.mono HW.out.size))
  have HSZ3 : Hid (w.heap.size + 2 ≤ w3.heap.size) := by
    show _ ≤ _
    have := eps_new_lt hi3
    have := HG3.out
    omega
  clear hi3 hb
  refine hK.out _ _ (by first | exact HKS.out _ HW.out | exact ⟨HX4.out, cell_in HX4.out rfl⟩) (fun hHeld => ?_)
  clear hK K
  (try simp only [Act.put, List.setIfInBounds_toArray, List.set_cons_zero, List.set_cons_succ])
  refine wpAnyT_one (i := 5) (o := ⟨some 9, _, _, _, _, _⟩) (by kernel_rfl) rfl (fun K hK => ?_)
  go_simp
  go_at_call 31
  refine (HAPP.out w3 (by exact HW.out) _ HI3.out).mono ?_
  rintro r w4 ⟨v4, qs4, rfl, hp4, hq4, he4, ha4⟩
  have HP4 := Lib.hid hp4
  have HQ4 := Lib.hid hq4
  have HE4 := Lib.hid he4
  have HA4 := Lib.hid ha4
  have HW4 : Hid (Below w.heap.size w1 w4) := by show Below _ _ _; exact (HW.out.mono HB1.out.size).trans ha4.below
  have HX4 : Hid (w4.heap[w.heap.size]? = some (.cells #[.int .u64 (s : Int), .int .i64 n, .int .i64 ((l : Nat) : Int), .int .u32 (bb : Int), .slice a1 n1 c1, .slice a2 n2 c2] 36 (0, 0))) := ha4.row ((HW.out.block _ (by have := HS1.out; omega)).trans HX1.out) (by decide)
  clear hp4 hq4 he4 ha4
  dsimp only
  refine hK.out _ _ (by first | exact HKS.out _ HW.out | exact ⟨HX4.out, cell_in HX4.out rfl⟩) (fun hHeld => ?_)
  clear hK K
  (try simp only [Act.put, List.setIfInBounds_toArray, List.set_cons_zero, List.set_cons_succ])
  refine wpAnyT_take (i := 6) (oi := ⟨some 3, _, _, _, _, _⟩) (v := ?vg1_6) rfl (by kernel_rfl) (by kernel_rfl) (by kernel_rfl) (by kernel_rfl) (fun _ _ _ h => h) (Or.inl ⟨by rfl, ?hg1_6⟩) (by assumption) ?rg1_6
  case hg1_6 => (intro w hSw; (try dsimp only at hSw); first | (go_simp; done) | (go_simp; with_reducible rfl))
  (try simp only [Act.put, List.setIfInBounds_toArray, List.set_cons_zero, List.set_cons_succ])
  refine wpAnyT_done (by kernel_rfl) ?_ _
  clear hHeld
  have hqn : qs4.length ≤ 50000 := by
    have h := HP4.out.length_eq
    rw [List.length_map] at h
    have := HLN.out
    have := HL.out.2
    omega
  have HE4' : Hid (Eps w.heap.size v4 (qs4.map (·.1)) w4) := HE4.out
  have hsrt := hm_sort (hsN s n) (fun g => S g ∧ g < w.heap.size) w.heap.size w4 v4 qs4 HE4'.out HQ4.out (by omega)
  have HSRT := Lib.hid hsrt
  clear hsrt
  go_wp2_with (go_at_call 32; (with_reducible refine HSRT.out.mono ?_); rintro r w5 ⟨rfl, qs5, hp5, hs5, hc5, ht5, ha5⟩; have HR5 := Lib.hid (And.intro hp5 (And.intro hs5 (And.intro hc5 (And.intro ht5 ha5)))); clear hp5 hs5 hc5 ht5 ha5)
  obtain ⟨hp5, hs5, hc5, ht5, ha5⟩ := HR5.out
  have hlen5 : qs5.length = qs4.length := hp5.length_eq
  have hv : ∃ a c, v4 = .slice a qs5.length c ∧ (∀ p, a = some p → p.off = 0 ∧ p.spot = none) := by
    obtain ⟨⟨_, h2⟩, _⟩ := HE4'.out
    rw [List.length_map] at h2
    rcases h2 with ⟨rfl, h2⟩ | ⟨g, cap, cur, rfl, _⟩
    · exact ⟨none, 0, by rw [hlen5, h2], fun p e => by cases e⟩
    · exact ⟨_, _, by rw [hlen5], fun p e => by cases e; exact ⟨rfl, rfl⟩⟩
  have hbw5 : Below w.heap.size w w5 := (HB1.out.trans HW4.out).trans ha5.below
  have hfin : ∃ (v : Value) (qs : List (Nat × Ent)), Ending.returned v4 = .returned v ∧ qs.map (·.2) = L ∧ (∀ q ∈ qs, EntAt (hsN s n) (fun g => S g ∧ g < w.heap.size) w5 q.1 q.2) ∧ LstE w.heap.size w5 v qs ∧ Below w.heap.size w w5 ∧ w.heap.size + 2 ≤ w5.heap.size := by
    refine ⟨v4, qs5, rfl, sorted_eq HL.out.1 ((hp5.map _).trans HP4.out) hs5, fun q hq => ?_, lst_of hv hc5 ht5 (Nat.le_refl _), hbw5, ?_⟩
    · exact (HQ4.out q (hp5.mem_iff.1 hq)).kp (ha5.kp fun g h => h.2)
    · have h1 := HSZ3.out
      have h2 := HA4.out.below.size
      have h3 := ha5.below.size
      omega
  go_ret
  exact hfin
end Go.Proofs.YtlngjabjeodkpaaDoor
