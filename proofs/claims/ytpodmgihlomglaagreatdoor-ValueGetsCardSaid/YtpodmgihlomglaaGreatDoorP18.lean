import Derived.Test.YtpodmgihlomglaaGreatDoorP17
namespace Go.Proofs.YtpodmgihlomglaaGreatDoor
open Go.RowKit Go.Shelf
set_option maxRecDepth 1000000
set_option linter.unusedSimpArgs false
def Eps (B : Nat) (v : Value) (ps : List Nat) (w : World) : Prop := w.ownsRow B 166 1 v ps.length (en enE ps) ∧ B ≤ w.heap.size
structure Ap (n₀ : Nat) (w w' : World) : Prop where
 below : Below n₀ w w'
 kept : ∀ (g : Nat) (o : Obj), w.heap[g]? = some o → (∀ cs fr, o ≠ .cells cs 166 fr) → w'.heap[g]? = some o
section
variable {B : Nat} {v : Value} {ps : List Nat} {w w1 : World}
theorem Eps.nil (h : B ≤ w.heap.size) : Eps B (.slice none 0 0) [] w := ⟨World.ownsRow_nil _ _ _ _, h⟩
theorem Eps.grown {row : Option Nat} (h : Eps B v ps w) (hg : w.grownBy w1 row) (hne : v.ownBlock = none ∨ v.ownBlock ≠ row) : Eps B v ps w1 := ⟨h.1.kept hg hne, Nat.le_trans h.2 hg.size⟩
theorem Eps.later (h : Eps B v ps w) (hb : Below w.heap.size w w1) : Eps B v ps w1 := h.grown (row := none) ⟨hb.os, hb.tape, hb.output, hb.size, fun k hk _ => hb.block k hk⟩ (by cases v.ownBlock <;> simp)
theorem Eps.low {B' : Nat} (h : Eps B v ps w) (hB : B' ≤ B) : Eps B' v ps w := by
 obtain ⟨⟨h1, h2⟩, h3⟩ := h
 refine ⟨⟨h1, ?_⟩, by omega⟩
 rcases h2 with h2 | ⟨g, cap, cur, a1, a2, a3⟩
 ·exact .inl h2
 ·exact .inr ⟨g, cap, cur, a1, by omega, a3⟩
theorem Eps.len (h : Eps B v ps w) : ∃ a c, v = .slice a ps.length c := by
 obtain ⟨⟨_, h2⟩, _⟩ := h
 rcases h2 with ⟨rfl, h2⟩ | ⟨g, cap, cur, rfl, _⟩
 ·exact ⟨none, 0, by rw [h2]⟩
 ·exact ⟨_, _, rfl⟩
theorem Eps.cut (h : Eps B v ps w) : CutAt (fun _ => True) w 1 v (en enE ps) ps.length := (ownsRow_cut h.1).weak fun _ _ => trivial
theorem eps_kept {A C : World} {row : Option Nat} (h : Eps B v ps A) (hg : A.grownBy C row) (hr : ∀ r, row = some r → ∃ o : Obj, A.heap[r]? = some o ∧ o.isCells = false) : Eps B v ps C := by
 refine h.grown hg ?_
 cases hv : v.ownBlock with
 | none => exact .inl rfl
 | some k =>
  refine .inr fun e => ?_
  obtain ⟨o, ho, hc⟩ := hr k e.symm
  obtain ⟨⟨_, h2⟩, _⟩ := h
  rcases h2 with ⟨rfl, _⟩ | ⟨g, cap, cur, rfl, _, hb, _⟩
  ·cases hv
  ·obtain rfl : g = k := by simpa [Value.ownBlock] using hv
   rw [hb] at ho
   cases ho
   cases hc
theorem eps_not {L : Nat} {cs : Array Value} {T : TypeId} {fr : Nat × Nat} (h : Eps B v ps w) (hb : w.heap[L]? = some (.cells cs T fr)) (hT : T ≠ 166) : v.ownBlock ≠ some L := by
 intro e
 obtain ⟨⟨_, h2⟩, _⟩ := h
 rcases h2 with ⟨rfl, _⟩ | ⟨g, cap, cur, rfl, _, hg, _⟩
 ·cases e
 ·obtain rfl : g = L := by simpa [Value.ownBlock] using e
  rw [hb] at hg
  cases hg
  exact hT rfl
theorem Eps.only {L : Nat} {cs : Array Value} {T : TypeId} {fr : Nat × Nat} (h : Eps B v ps w) (k : Only L w w1) (hb : w.heap[L]? = some (.cells cs T fr)) (hT : T ≠ 166) : Eps B v ps w1 := h.grown k.by_ (.inr (eps_not h hb hT))
theorem Ap.refl (n₀ : Nat) (w : World) : Ap n₀ w w := ⟨Below.refl _ _, fun _ _ h _ => h⟩
theorem Ap.trans {n₀ : Nat} {a b c : World} (h : Ap n₀ a b) (k : Ap n₀ b c) : Ap n₀ a c := ⟨h.below.trans k.below, fun g o hg ho => k.kept g o (h.kept g o hg ho) ho⟩
theorem Ap.later {n₀ : Nat} {a b : World} (h : Below a.heap.size a b) (hn : n₀ ≤ a.heap.size) : Ap n₀ a b := ⟨h.mono hn, fun g _ hg _ => (h.block g (Array.getElem?_eq_some_iff.1 hg).1).trans hg⟩
theorem Ap.grown {n₀ : Nat} (h : Eps n₀ v ps w) (hg : w.grownBy w1 v.ownBlock) : Ap n₀ w w1 := by
 obtain ⟨⟨_, h2⟩, hB⟩ := h
 refine ⟨⟨hg.os, hg.tape, hg.output, hg.size, fun k hk => hg.block k (by omega) ?_⟩, fun g o ho hne => (hg.block g (Array.getElem?_eq_some_iff.1 ho).1 ?_).trans ho⟩
 ·rcases h2 with ⟨rfl, _⟩ | ⟨g, cap, cur, rfl, hB, _⟩
  ·simp [Value.ownBlock]
  ·simp [Value.ownBlock]
   omega
 ·rcases h2 with ⟨rfl, _⟩ | ⟨g', cap, cur, rfl, _, hgg, _⟩
  ·simp [Value.ownBlock]
  ·intro e
   obtain rfl : g = g' := by simpa [Value.ownBlock] using e
   rw [hgg] at ho
   cases ho
   exact hne _ _ rfl
theorem Ap.keeps {n₀ : Nat} {a b : World} (h : Ap n₀ a b) : KeepsOthers a b := ⟨h.below.size, fun k o hk ho => h.kept k o hk (fun cs fr e => by subst e; cases ho)⟩
theorem Ap.row {n₀ X : Nat} {a b : World} {cs : Array Value} {T : TypeId} {fr : Nat × Nat} (h : Ap n₀ a b) (hX : a.heap[X]? = some (.cells cs T fr)) (hT : T ≠ 166) : b.heap[X]? = some (.cells cs T fr) :=
 h.kept X _ hX (fun _ _ e => by cases e; exact hT rfl)
theorem Ap.tab {n₀ : Nat} {a b : World} (h : Ap n₀ a b) (hn : 0 < n₀) (hT : Tab6 a) : Tab6 b := fun j hj => (h.below.cell (p := ⟨0, j, none⟩) hn).trans (hT j hj)
theorem Ap.kp {n₀ : Nat} {a b : World} {S : Nat → Prop} (h : Ap n₀ a b) (hS : ∀ g, S g → g < n₀) : Kp S a b := Kp.low h.below hS
theorem Ap.wrote {n₀ X : Nat} {a b c : World} (h : Ap n₀ a b) (k : Only X b c) (hn : a.heap.size ≤ X) (hn' : n₀ ≤ a.heap.size) : Ap n₀ a c :=
 ⟨h.below.trans (k.below (by omega)), fun g o hg ho => k.other (h.kept g o hg ho) (fun e => by have := (Array.getElem?_eq_some_iff.1 hg).1; omega)⟩
end
theorem new_belowP {w w1 : World} {c : Array Value} {T : TypeId} (h : w.alloc (.cells c T) = w1) : Below w.heap.size w w1 ∧ w1.heap[w.heap.size]? = some (.cells c T (0, 0)) ∧ w1.heap.size = w.heap.size + 1 := by
 subst h
 exact ⟨Below.newly' _ _, heap_alloc_last _ _, by simp⟩
theorem CutAt.low {S : Nat → Prop} {n₀ : Nat} {W W' : World} {s n : Nat} {v : Value} {cs : List Value} (h : CutAt S W s v cs n) (hb : Below n₀ W W') (hS : ∀ g, S g → g < n₀) : CutAt S W' s v cs n := by
 obtain ⟨a, c, h1, h2, h3, h4⟩ := h
 refine ⟨a, c, h1, h2, h3, h4.imp_right ?_⟩
 rintro ⟨g, o, e, hg, hlt, h5⟩
 exact ⟨g, o, e, hg, Nat.lt_of_lt_of_le hlt hb.size, fun j u hu => (hb.cell (p := ⟨g, o + j, none⟩) (hS g hg)).trans (h5 j u hu)⟩
theorem eps_wp {o : Oper} {a : Act} {K : Act → World → Prop} {Q : Exit → Act → World → Prop} {w : World} (s x : Operand)
  (ho : o.op = .call { callee := .builtin .append, args := #[s, x], argTypes := #[117, 117] })
  {B : Nat} {v vr : Value} {ps rs : List Nat} (hs : a.eval s = v) (hb : Eps B v ps w) (hx : a.eval x = vr) {S : Nat → Prop} (hc : CutAt S w 1 vr (en enE rs) rs.length) (hlen : ps.length + rs.length ≤ 17592186044416)
  (h : ∀ v' w', Eps B v' (ps ++ rs) w' → Ap B w w' → K (a.put o.dst v') w') : o.wp Tryz.prog a w K Q := by
 obtain ⟨i, hi, hz, h1, h2⟩ := info_parts eptr_info
 obtain ⟨v', w', r1, r2, r3⟩ := run_append_cut (P := Tryz.prog) (w := w) B 117 o.type 166 i (.pointer none) 8 Tryz.underlying117 hi hz h1 h2 rfl (by decide) hb.1 hc (en_one enE_one _)
  (by unfold maxLen; omega) (by omega) hb.2
 unfold Oper.wp execOp
 simp only [ho, resolve, invoke, builtin, Sem.run_bind, Sem.run_pure, Result.andThen_ok, List.map_toArray, List.map_cons, List.map_nil, hs, hx, r1]
 exact h v' w' ⟨by rw [List.length_append, en_app]; exact r2, Nat.le_trans hb.2 r3.size⟩ (Ap.grown hb r3)
theorem eps_list {ops : Array Oper} {rest : List Oper} {o : Oper} {a : Act} {Q : Exit → Act → World → Prop} {w : World} (hgd : o.guard = none) (s x : Operand)
  (ho : o.op = .call { callee := .builtin .append, args := #[s, x], argTypes := #[117, 117] })
  {B : Nat} {v vr : Value} {ps rs : List Nat} (hs : a.eval s = v) (hb : Eps B v ps w) (hx : a.eval x = vr) {S : Nat → Prop} (hc : CutAt S w 1 vr (en enE rs) rs.length) (hlen : ps.length + rs.length ≤ 17592186044416)
  (h : ∀ v' w', Eps B v' (ps ++ rs) w' → Ap B w w' → wpList Tryz.prog ops Q rest (a.put o.dst v') w') : wpList Tryz.prog ops Q (o :: rest) a w :=
 wpList_plain hgd fun _ hK => eps_wp s x ho hs hb hx hc hlen fun v' w' h1 h2 => hK _ _ (h v' w' h1 h2)
theorem eps_in {ops : Array Oper} {rest : List Oper} {o : Oper} {a : Act} {Q : Exit → Act → World → Prop} {w : World} {n l : Nat} (hgd : o.guard = none) (s x : Operand)
  (ho : o.op = .call { callee := .builtin .append, args := #[s, x], argTypes := #[117, 117] })
  {B : Nat} {v vr : Value} {ps rs : List Nat} (hs : a.eval s = v) (hb : Eps B v ps w) (hx : a.eval x = vr) {S : Nat → Prop} (hc : CutAt S w 1 vr (en enE rs) rs.length) (hlen : ps.length + rs.length ≤ 17592186044416)
  (h : ∀ v' w', Eps B v' (ps ++ rs) w' → Ap B w w' → wpListIn (Fence.wide.inRound l) n Tryz.prog ops Q rest (a.put o.dst v') w') : wpListIn (Fence.wide.inRound l) n Tryz.prog ops Q (o :: rest) a w :=
 list_in hgd (fun c' hc => by rw [ho] at hc; cases hc) fun _ hK => eps_wp s x ho hs hb hx hc hlen fun v' w' h1 h2 => hK _ _ (h v' w' h1 h2)
end Go.Proofs.YtpodmgihlomglaaGreatDoor
namespace Go.Proofs.YtpodmgihlomglaaGreatDoor
open Go.RowKit Go.Shelf
set_option maxRecDepth 1000000
set_option linter.unusedSimpArgs false
attribute [local go_sem] Oper.semAt_some
theorem lt_size : (Tryz.prog.info? 117).map (·.size) = some 1 := by kernel_rfl
theorem st_box_in {ops : Array Oper} {rest : List Oper} {o : Oper} {a : Act} {w : World} {Q : Exit → Act → World → Prop} {n l : Nat} (hgd : o.guard = none) (ty : TypeId) (x y : Operand) (ho : o.op = .store ty x y)
  (X : Nat) (v : Value) (hx : a.eval x = .pointer (some ⟨X, 0, none⟩)) (hy : a.eval y = v) (h1 : v.oneCell' = true) (T : TypeId) (u : Value) (hB : Boxed w X T u)
  (hi : (Tryz.prog.info? ty).map (·.size) = some 1)
  (h : ∀ w', Boxed w' X T v → Only X w w' → wpListIn (Fence.wide.inRound l) n Tryz.prog ops Q rest (a.put o.dst undef) w') : wpListIn (Fence.wide.inRound l) n Tryz.prog ops Q (o :: rest) a w :=
 list_in hgd (fun c' hc => by rw [ho] at hc; cases hc) fun _ hK => st_box_wp ty x y ho X v hx hy h1 T u hB hi fun w' h1 h2 => hK _ _ (h w' h1 h2)
theorem ownFrom_ap {β : Type} {n₀ B : Nat} {w₀ : World} (hn : w₀.heap.size ≤ B) (hn' : n₀ ≤ w₀.heap.size) : OwnFrom B (fun (_ : β) W => Ap n₀ w₀ W) := fun s W W' row hs hg hr =>
 ⟨hs.below.grown hg (Nat.le_trans hn' hs.below.size) (fun k e => by have := (hr k e).1; omega), fun g o hgo ho =>
  (hg.block g (by have := (Array.getElem?_eq_some_iff.1 hgo).1; have := hs.below.size; omega) (fun e => by have := (hr g e.symm).1; have := (Array.getElem?_eq_some_iff.1 hgo).1; omega)).trans (hs.kept g o hgo ho)⟩
theorem ent_kept {hs : ByteArray → Nat} {S : Nat → Prop} {A C : World} {b : Nat} {e : Ent} {row : Option Nat} (h : EntAt hs S A b e) (hg : A.grownBy C row) (hr : ∀ r, row = some r → ∃ o : Obj, A.heap[r]? = some o ∧ o.isCells = false) : EntAt hs S C b e := by
 obtain ⟨h1, fr, h2⟩ := h
 exact ⟨h1, fr, row_kept h2 hg hr⟩
def AppRes (hs : ByteArray → Nat) (S : Nat → Prop) (n₀ : Nat) (w : World) (ps : List Nat) (L : List Ent) (r : Ending) (w' : World) : Prop :=
 ∃ (v' : Value) (qs : List (Nat × Ent)), r = .returned v' ∧ (qs.map (·.2)).Perm L ∧ (∀ q ∈ qs, EntAt hs S w' q.1 q.2) ∧ Eps n₀ v' (ps ++ qs.map (·.1)) w' ∧ Ap n₀ w w'
def AppI (hs : ByteArray → Nat) (S : Nat → Prop) (n₀ : Nat) (w : World) (ps : List Nat) (c : Array Value) (L : List Ent) (V : World) : Prop :=
 ((∃ (a5 : Option Addr) (m5 c5 : Nat) (qs5 : List (Nat × Ent)), Boxed V (w.heap.size + 1) 117 (.slice a5 m5 c5) ∧ Eps n₀ (.slice a5 m5 c5) (ps ++ qs5.map (·.1)) V ∧ (qs5.map (·.2)).Perm L ∧ ∀ q ∈ qs5, EntAt hs S V q.1 q.2) ∧ V.heap[w.heap.size]? = some (.cells c 119 (0, 0))) ∧ Ap n₀ w V
def AppOk (hs : ByteArray → Nat) (f : Nat) : Prop := ∀ (S : Nat → Prop) (n₀ : Nat) (w : World) (L : List Ent) (c : Array Value) (v : Value) (ps : List Nat), (∀ g, S g → g < n₀) → 0 < n₀ → NodeAt hs S f w L c → L.length ≤ 50000 → Eps n₀ v ps w → ps.length + 2000000 * f + 2000000 ≤ 100000000 → Tab6 w →
  Calls Tryz.prog 133 #[.agg c, v] w (AppRes hs S n₀ w ps L)
set_option maxHeartbeats 4000000 in
theorem hm_app_core (hs : ByteArray → Nat) (f : Nat) (S : Nat → Prop) (n₀ : Nat) (w : World) (v : Value) (ps : List Nat) (b : Nat) (va : Option Addr) (vn vc : Nat) (la : Option Addr) (ln lc : Nat) (R : Rg Pl) (M : Nat → List Ent) (qs : List (Nat × Ent)) (hS : ∀ g, S g → g < n₀) (ht : 0 < n₀)
  (hrow : AtR S w R #[.int .u32 (b : Int), .slice va vn vc]) (hl : CutAt S w 1 (.slice la ln lc) (en enE (qs.map (·.1))) (qs.map (·.1)).length) (hq : ∀ q ∈ qs, EntAt hs S w q.1 q.2) (hqn : qs.length ≤ 50000) (hpl : ∀ i, i < 32 → PlAt hs S w (NodeAt hs S f w) (M i) (R i)) (hMn : ∀ i, (M i).length ≤ 50000)
  (hrec : allG R = [] ∨ (AppOk hs f ∧ ps.length + 2000000 * (f + 1) + 2000000 ≤ 100000000)) (heps : Eps n₀ v ps w) (hps : ps.length ≤ 100000000) (hT : Tab6 w) :
  Calls Tryz.prog 133 #[.agg #[.int .u32 (b : Int), .slice va vn vc, .slice la ln lc], v] w (AppRes hs S n₀ w ps ((allG R).flatMap (fun x => M x.1) ++ qs.map (·.2))) := by
 obtain ⟨va0, vc0, rfl⟩ := heps.len
 have hn₀ := heps.2
 have hb' : bitsG R 32 = b := by
  obtain ⟨v', e, _⟩ := hrow
  simp only [Array.mk.injEq, List.cons.injEq, Value.int.injEq, true_and] at e
  omega
 have HPL : Hid (PlsIn n₀ w (.slice va vn vc) (lisG R)) := by
  obtain ⟨v', e, h2⟩ := hrow
  simp only [Array.mk.injEq, List.cons.injEq] at e
  rw [← e.2.1] at h2
  exact pls_in h2 hS
 have HTT := Lib.hid hT
 have HPLA := Lib.hid hpl
 have HLC := Lib.hid hl
 have HQ := Lib.hid hq
 have HQN := Lib.hid hqn
 have HMN := Lib.hid hMn
 have HREC := Lib.hid hrec
 have HEPS := Lib.hid heps
 have HPS := Lib.hid hps
 have HS := Lib.hid hS
 have HALL := Lib.hid (fun b v w => callsIn_wide.1 (pr_All_in 5 b v w))
 obtain ⟨w1, hw1⟩ : ∃ w1, (w.alloc (.cells #[.int .u32 (b : Int), .slice va vn vc, .slice la ln lc] 119)).alloc (.cells #[.slice va0 ps.length vc0] 117) = w1 := ⟨_, rfl⟩
 obtain ⟨hb1, hx1, hy1, hs1⟩ := two_newG hw1
 have HX1 := Lib.hid hx1
 have HY1 := Lib.hid hy1
 have HB1 := Lib.hid hb1
 have HS1 := Lib.hid hs1
 clear hrow hl hq hqn hpl hMn hrec heps hps hT hS hx1 hy1 hb1 hs1
 refine (callsIn_wide (n := 5)).1 ?_
 refine callsIn_of_wp_marks Tryz.func133 rfl trivial ?_ rfl
 refine wpIn_wide.2 ?_
 simp only [Tryz.ntmps133, List.size_toArray, List.length_cons, List.length_nil, Nat.reduceAdd, Nat.reduceSub, Array.replicate_succ, Array.replicate_zero, List.push_toArray, List.append_toArray, List.nil_append, List.cons_append]
 go_upto_region 1 with fail
 go_wp2_with (first
  | (refine wpList_load_mid rfl 116 _ rfl w.heap.size 0 rfl [.int .u32 (b : Int), .slice va vn vc] _ (row_range HX1.out) Tryz.underlying116 rfl row_size ?_)
  | (go_at_call 153; refine (HALL.out _ _ _).mono ?_; rintro e w' ⟨rfl, rfl⟩))
 obtain ⟨RB, hRB⟩ : ∃ RB, RB = w1.heap.size := ⟨_, rfl⟩
 have hRB2 : RB = w.heap.size + 2 := by rw [hRB, HS1.out]
 obtain ⟨W0, hW0⟩ : ∃ W0, w1.alloc (.cells #[.int .u32 (b : Int), .slice va vn vc] 116) = W0 := ⟨_, rfl⟩
 obtain ⟨hb0, hr0, hs0⟩ := new_belowP hW0
 rw [hW0]
 rw [← hRB] at hr0 hs0
 have hA0 : Ap n₀ w W0 := (Ap.later HB1.out hn₀).trans (Ap.later hb0 (by omega))
 have hX0 := (hb0.block _ (by omega)).trans HX1.out
 have hL0 : Boxed W0 (w.heap.size + 1) 117 (.slice va0 ps.length vc0) := (hb0.block _ (by omega)).trans HY1.out
 have hE0 : Eps n₀ (.slice va0 ps.length vc0) (ps ++ ([] : List (Nat × Ent)).map (·.1)) W0 := by rw [List.map_nil, List.append_nil]; exact HEPS.out.later (tW HB1.out hb0)
 clear hW0 hb0 hw1
 refine (wpIn_wide (n := 5)).1 ?_
 refine wpIn_rangeFunc_ownH (F := Fence.wide) rfl (by omega) (gf := 182) (lb := #[.pointer (some ⟨w1.heap.size, 0, none⟩)]) rfl trivial (enters_of Tryz.func182 (by kernel_rfl) rfl)
  (pr_all_stopsS 4 (by omega) w1.heap.size n₀ R _ W0 (by omega) (by omega) ht (by rw [hb', ← hRB]; exact cell_in hr0 rfl) (by rw [← hRB]; exact cell_in hr0 rfl) (HPL.out.below hA0.below) (hA0.tab ht HTT.out)) belowK_t (belowK_b (by omega)) (Below.refl _ _) (fun _ => rfl)
  (fun pre V => AppI hs S n₀ w ps #[.int .u32 (b : Int), .slice va vn vc, .slice la ln lc] (pre.flatMap fun x => M x.1.1) V)
  (fun _ _ _ => False)
  (fun s A B row hs' hg hr => by
   obtain ⟨⟨⟨a5, m5, c5, qs5, h1, h2, h3, h4⟩, h5⟩, h6⟩ := hs'
   have hr' := fun r e => (hr r e).2
   exact ⟨⟨⟨a5, m5, c5, qs5, bx_kept h1 hg hr', eps_kept h2 hg hr', h3, fun q hq => ent_kept (h4 q hq) hg hr'⟩, row_kept h5 hg hr'⟩, ownFrom_ap (β := Unit) (by omega) hn₀ () A B row h6 hg hr⟩)
  (fun _ _ _ _ _ hs' _ _ => hs')
  ⟨⟨⟨va0, ps.length, vc0, [], hL0, hE0, by simp, by simp⟩, hX0⟩, hA0⟩
  (fun x a' V => ∃ Bx, w.heap.size + 2 ≤ Bx ∧ V.heap[Bx]? = some (.cells (plc x.1.2) 190 (0, 0)) ∧ a' = { tmps := #[.agg #[.int .u32 (b : Int), .slice va vn vc, .slice la ln lc], .slice va0 ps.length vc0, .pointer (some ⟨w.heap.size, 0, none⟩), .pointer (some ⟨w.heap.size + 1, 0, none⟩), .slice none 0 0, undef, .pointer (some ⟨Bx, 0, none⟩), .pointer (some ⟨w.heap.size, 0, none⟩), .agg #[.int .u32 (b : Int), .slice va vn vc], .func (.func 182) #[] #[.pointer (some ⟨w1.heap.size, 0, none⟩)], .int .i64 (x.1.1 : Int), .agg (plc x.1.2), undef, undef, undef, undef, undef, undef, undef, undef, undef, undef, undef, undef, undef, undef, undef, undef, undef, undef], defers := [] })
  (fun x a' => Own.from (fun s A B row hs' hg hr => by obtain ⟨Bx, h1, h2, h3⟩ := hs'; exact ⟨Bx, h1, row_kept h2 hg hr, h3⟩) _)
  ?assign ?body ?done ?stop
 case assign =>
  rintro l pre x V K ⟨⟨⟨a5, m5, c5, qs5, h1, h2, h3, h4⟩, h5⟩, hA⟩ hK
  gi_wp2_with (refine st_in rfl 190 _ _ rfl V.heap.size (plc x.1.2) rfl rfl 190 (plc (none, none)) (heap_alloc_last _ _) pl_size rfl (plc_one x.1.2) ?_; intro w5 h5' k5; have hb5 : Below V.heap.size V w5 := (Below.newly' _ _).trans (k5.below (Nat.le_refl _)))
  exact hK _ _ (((KeepsOthers.alloc V _).trans (only_keeps k5 (heap_alloc_last _ _))).from _) (hb5.mono h2.2) ⟨⟨⟨a5, m5, c5, qs5, (hb5.block _ h1.lt).trans h1, h2.later hb5, h3, fun q hq => (h4 q hq).later hb5⟩, kW hb5 h5⟩, hA.trans (Ap.later hb5 h2.2)⟩ ⟨V.heap.size, by have := h1.lt; omega, h5', rfl⟩
 case body =>
  rintro l pre x a' V hl ⟨r, hr⟩ ⟨⟨⟨a5, m5, c5, qs5, hL, hE, hP, hQ⟩, hX⟩, hA⟩ ⟨Bx, hBx, bX, rfl⟩ hlt
  obtain ⟨⟨i, p⟩, hx⟩ := x
  obtain ⟨hi, hri⟩ := all_memG hx
  simp only at hi hri bX
  have hapf : AppOk hs f ∧ ps.length + 2000000 * (f + 1) + 2000000 ≤ 100000000 := by
   rcases HREC.out with h | h
   ·rw [h] at hx; cases hx
   ·exact h
  have hpl := HPLA.out i hi
  rw [hri] at hpl
  have hkp : Kp S w V := hA.kp HS.out
  have hlen5 : qs5.length ≤ 1600000 := by
   have h1 := hP.length_eq
   rw [List.length_map] at h1
   have h2 : ∀ l : List {x : Nat × Pl // x ∈ allG R}, (l.flatMap fun x => M x.1.1).length ≤ l.length * 50000 := by
    intro l
    induction l with
    | nil => simp
    | cons a t ih =>
     rw [List.flatMap_cons, List.length_append, List.length_cons, Nat.add_mul]
     have := HMN.out a.1.1
     omega
   have h3 := h2 pre
   have h4 : (allG R).length ≤ 32 := by rw [all_lenG]; exact cnt_leG R 32
   have h5 : pre.length * 50000 ≤ 32 * 50000 := Nat.mul_le_mul_right _ (by omega)
   omega
  have hlen6 : (ps ++ qs5.map (·.1)).length + 2000000 * f + 2000000 ≤ 100000000 := by
   have := hapf.2
   rw [List.length_append, List.length_map]
   omega
  have hMi := HMN.out i
  obtain ⟨Mi, hMie⟩ : ∃ Mi, Mi = M i := ⟨_, rfl⟩
  have HPM : Hid (∀ qs6 : List (Nat × Ent), (qs6.map (·.2)).Perm Mi → ((qs5 ++ qs6).map (·.2)).Perm ((pre ++ [(⟨(i, p), hx⟩ : {x : Nat × Pl // x ∈ allG R})]).flatMap fun x : {x : Nat × Pl // x ∈ allG R} => M x.1.1)) := fun qs6 h => by
   rw [List.map_append, List.flatMap_append]
   refine hP.append ?_
   rw [hMie] at h
   simpa using h
  rw [← hMie] at hpl hMi
  have HA := Lib.hid hA
  have HL5 := Lib.hid hL
  have HXN := Lib.hid hX
  have HBX := Lib.hid bX
  have HQ5 := Lib.hid hQ
  have HE5 := Lib.hid hE
  have cL := hL.cell
  have hLlt := hL.lt
  clear hMie
  match Mi, hpl, hMi, HPM with
  | [], hpl, _, _ => cases hpl
  | [e], hpl, hMi, HPM =>
   obtain ⟨b1, hp, he⟩ := hpl
   obtain rfl := Option.some.inj hp
   have HE1 := Lib.hid (hE.later (Below.newly' V (.cells #[.pointer (some ⟨b1, 0, none⟩)] 166)))
   have HEN := Lib.hid (he.kp hkp)
   have cx0 : V.cell? ⟨Bx, 0, none⟩ = some (.pointer (some ⟨b1, 0, none⟩)) := cell_in bX rfl
   have cx1 : V.cell? ⟨Bx, 1, none⟩ = some (.pointer none) := cell_in bX rfl
   have hcx0 : (V.alloc (.cells #[.pointer (some ⟨b1, 0, none⟩)] 166)).cell? ⟨Bx, 0, none⟩ = some (.pointer (some ⟨b1, 0, none⟩)) := ((Below.newly' V _).cell (p := ⟨Bx, 0, none⟩) (Array.getElem?_eq_some_iff.1 bX).1).trans cx0
   have HB5 := Lib.hid hlen6
   clear hL hE hP hQ hX hA bX hpl hri hr hapf hkp hlen5 hlen6 hMi hp he hX0 hL0 hr0 hA0 hE0 hs0
   gi_wp2_with (first
    | (refine eps_in rfl _ _ rfl (v := .slice a5 m5 c5) rfl HE1.out (rs := [b1]) rfl (en_lit (heap_alloc_last V _)) (by have := HB5.out; have : [b1].length = 1 := rfl; omega) ?_; intro v6 w6 he6 ha6; obtain ⟨a6, c6, rfl⟩ := he6.len; have HE6 := Lib.hid he6; have HA6 := Lib.hid ((Ap.later (Below.newly' V (.cells #[.pointer (some ⟨b1, 0, none⟩)] 166)) HE5.out.2).trans ha6); have HL6 : Hid (Boxed w6 (w.heap.size + 1) 117 (.slice a5 m5 c5)) := HA6.out.row HL5.out (by decide); obtain ⟨m6, hm6⟩ : ∃ m6, m6 = (ps ++ qs5.map (·.1) ++ [b1]).length := ⟨_, rfl⟩; rw [← hm6] at HE6 ⊢; clear he6 ha6 hm6)
    | (refine st_box_in rfl 117 _ _ rfl (w.heap.size + 1) (.slice a6 m6 c6) rfl rfl rfl 117 _ HL6.out lt_size ?_; intro w7 h7 k7))
   have hbv : Below n₀ V w7 := HA6.out.below.trans (k7.below (by omega))
   refine ⟨(HA6.out.keeps.trans (only_keeps k7 HL6.out)).from _, hbv, ⟨⟨⟨a6, m6, c6, qs5 ++ [(b1, e)], h7, ?_, HPM.out [(b1, e)] (by simp), fun q hq => ?_⟩, k7.other (HA6.out.row HXN.out (by decide)) (by omega)⟩, (HA.out.trans HA6.out).wrote k7 (by omega) hn₀⟩⟩
   ·have := HE6.out.only k7 HL6.out (by decide)
    rw [List.map_append, ← List.append_assoc]
    exact this
   ·rcases List.mem_append.1 hq with hq | hq
    ·exact (HQ5.out q hq).kp (Kp.low hbv HS.out)
    ·rw [List.mem_singleton] at hq
     subst hq
     exact HEN.out.kp (Kp.low hbv HS.out)
  | m1 :: m2 :: M2, hpl, hMi, HPM =>
   obtain ⟨g, cg, fr, hp, hSg, hgw, hnd⟩ := hpl
   obtain rfl := Option.some.inj hp
   have hgV : V.heap[g]? = some (.cells cg 119 fr) := hkp g _ hSg ⟨_, _, _, rfl, .inr (.inl rfl)⟩ hgw
   have HG5 := Lib.hid hgV
   have HSZ := Lib.hid hnd.size
   have HD1 := Lib.hid (drawn_below V)
   have HAD := Lib.hid (Ap.later (drawn_below V) HE5.out.2)
   have HC := Lib.hid (hapf.1 S n₀ V.drew (m1 :: m2 :: M2) cg (.slice a5 m5 c5) (ps ++ qs5.map (·.1)) HS.out ht (hnd.kp (hkp.trans (Kp.later (drawn_below V)))) hMi (hE.later (drawn_below V)) hlen6 ((hA.trans HAD.out).tab ht HTT.out))
   have cx1 : V.cell? ⟨Bx, 1, none⟩ = some (.pointer (some ⟨g, 0, none⟩)) := cell_in bX rfl
   have HK1 : Hid (V.drew.cell? ⟨Bx, 1, none⟩ = some (.pointer (some ⟨g, 0, none⟩)) ∧ V.drew.heap[g]? = some (.cells cg 119 fr) ∧ V.drew.cell? ⟨w.heap.size + 1, 0, none⟩ = some (.slice a5 m5 c5)) := ⟨cx1, hgV, cL⟩
   clear hL hE hP hQ hX hA bX hpl hri hr hapf hkp hlen5 hlen6 hMi hp hnd hgw hX0 hL0 hr0 hA0 hE0 hs0 hgV
   gi_wp2
   refine region_T_in (S := (fun V' => V'.cell? ⟨Bx, 1, none⟩ = some (.pointer (some ⟨g, 0, none⟩)) ∧ V'.heap[g]? = some (.cells cg 119 fr) ∧ V'.cell? ⟨w.heap.size + 1, 0, none⟩ = some (.slice a5 m5 c5))) [6] (by kernel_rfl) (by kernel_rfl) (fun ⟨_, _, h⟩ => h) (by first | exact HK1.out | exact ⟨cell_in HX6.out rfl, HG6.out, HL6.out.cell⟩) (fun hHeld => ?_)
   refine tkA 0 15 (h := ?_)
   refine tkA 1 16 (h := ?_)
   refine tkA 2 17 (h := ?_)
   refine tyA 3 18 (hy := yieldsIf_load_row (by rfl) 119 _ rfl g rfl cg 119 _ _ (fun w hw => hw.2.1) Tryz.underlying119 rfl (by rw [HSZ.out]; exact nd_size)) (h := ?_)
   refine tkA 4 19 (h := ?_)
   (try simp only [pq])
   refine tkO 5 (some 20) (h := fun K hK => ?_)
   go_simp
   go_at_call 133
   refine HC.out.mono ?_
   rintro r w6 ⟨v6, qs6, rfl, hp6, hq6, he6, ha6⟩
   obtain ⟨a6, c6, rfl⟩ := he6.len
   have HP6 := Lib.hid hp6
   have HQ6 := Lib.hid hq6
   have HE6 := Lib.hid he6
   have HA6 := Lib.hid ha6
   have HL6 : Hid (Boxed w6 (w.heap.size + 1) 117 (.slice a5 m5 c5)) := ha6.row (a := V.drew) HL5.out (by decide)
   have HX6 : Hid (w6.heap[Bx]? = some (.cells (plc (none, some g)) 190 (0, 0))) := ha6.row (a := V.drew) HBX.out (by decide)
   have HG6 : Hid (w6.heap[g]? = some (.cells cg 119 fr)) := ha6.row (a := V.drew) HG5.out (by decide)
   obtain ⟨m6, hm6⟩ : ∃ m6, m6 = (ps ++ qs5.map (·.1) ++ qs6.map (·.1)).length := ⟨_, rfl⟩
   rw [← hm6] at HE6 ⊢
   clear hp6 hq6 he6 ha6 hm6
   dsimp only
   refine hK.out _ _ (by first | exact HK1.out | exact ⟨cell_in HX6.out rfl, HG6.out, HL6.out.cell⟩) (fun hHeld => ?_)
   clear hK K
   (try simp only [pq])
   refine tkU 6 none (h := fun K hK => ?_)
   rw [if_pos (by rfl)]
   refine st_box_wp 117 _ _ rfl (w.heap.size + 1) (.slice a6 m6 c6) rfl rfl rfl 117 _ HL6.out lt_size ?_
   intro w7 h7 k7
   refine hK.out _ _ ?_
   clear hK K
   (try simp only [pq])
   refine wpAnyT_done (by kernel_rfl) ?_ _
   have hav : Ap n₀ V w6 := HAD.out.trans HA6.out
   have hbv : Below n₀ V w7 := hav.below.trans (k7.below (by omega))
   refine ⟨(hav.keeps.trans (only_keeps k7 HL6.out)).from _, hbv, ⟨⟨⟨a6, m6, c6, qs5 ++ qs6, h7, ?_, HPM.out qs6 HP6.out, fun q hq => ?_⟩, k7.other (hav.row HXN.out (by decide)) (by omega)⟩, (HA.out.trans hav).wrote k7 (by omega) hn₀⟩⟩
   ·have := HE6.out.only k7 HL6.out (by decide)
    rw [List.map_append, ← List.append_assoc]
    exact this
   ·rcases List.mem_append.1 hq with hq | hq
    ·exact (HQ5.out q hq).kp (Kp.low hbv HS.out)
    ·exact (HQ6.out q hq).kp (Kp.low (k7.below (by omega)) HS.out)
 case done =>
  rintro D ys V hD hys ⟨⟨⟨a5, m5, c5, qs5, hL, hE, hP, hQ⟩, hX⟩, hA⟩ hK
  have cL := hL.cell
  have cn2 : V.cell? ⟨w.heap.size, 2, none⟩ = some (.slice la ln lc) := cell_in hX rfl
  have HE := Lib.hid hE
  have HA := Lib.hid hA
  have HK := Lib.hid hK
  have HQ5 := Lib.hid hQ
  have HP5 := Lib.hid hP
  have HCV := Lib.hid (HLC.out.low hA.below HS.out)
  have HLN : Hid ((ps ++ qs5.map (·.1)).length + (qs.map (·.1)).length ≤ 17592186044416) := by
   show _ ≤ _
   have h1 := hP.length_eq
   rw [List.length_map] at h1
   have h2 : ∀ l : List {x : Nat × Pl // x ∈ allG R}, (l.flatMap fun x => M x.1.1).length ≤ l.length * 50000 := by
    intro l
    induction l with
    | nil => simp
    | cons a t ih =>
     rw [List.flatMap_cons, List.length_append, List.length_cons, Nat.add_mul]
     have := HMN.out a.1.1
     omega
   have h3 := h2 ys
   have h4 : (allG R).length ≤ 32 := by rw [all_lenG]; exact cnt_leG R 32
   have h6 : ys.length ≤ 32 := by rw [← hys, List.length_map] at h4; exact h4
   have h5 : ys.length * 50000 ≤ 32 * 50000 := Nat.mul_le_mul_right _ h6
   have := HPS.out
   have := HQN.out
   rw [List.length_append, List.length_map, List.length_map]
   omega
  have HYS : Hid ((allG R).flatMap (fun x => M x.1) = ys.flatMap fun x => M x.1.1) := by
   have h := congrArg (List.flatMap (fun x : Nat × Pl => M x.1)) hys
   rw [List.flatMap_map] at h
   exact h.symm
  clear hL hE hP hQ hX hA hK hX0 hL0 hr0 hA0 hE0 hys
  go_wp2_with (first
   | (refine eps_list rfl _ _ rfl (v := .slice a5 m5 c5) rfl HE.out (rs := qs.map (·.1)) rfl HCV.out HLN.out ?_; intro v6 w6 he6 ha6; obtain ⟨a6, c6, rfl⟩ := he6.len; obtain ⟨m6, hm6⟩ : ∃ m6, m6 = (ps ++ qs5.map (·.1) ++ qs.map (·.1)).length := ⟨_, rfl⟩; rw [← hm6] at he6 ⊢; clear hm6))
  have hK6 : w6.heap[D]? = some (.deferred (some [])) := ha6.kept D _ HK.out (fun _ _ e => by cases e)
  have hgp := grownBy_putObj' w6 D (.deferred none)
  have hA6 := HA.out.trans ha6
  have hkr : ∀ r, some D = some r → ∃ o : Obj, w6.heap[r]? = some o ∧ o.isCells = false := fun r e => by cases e; exact ⟨_, hK6, rfl⟩
  refine ⟨by simp [Act.put], .inl ⟨_, _, rfl, run_takeDeferred hK6, .slice a6 m6 c6, by simp [results, Tryz.f133, go_sem], _, qs5 ++ qs, rfl, ?_, fun q hq => ?_, ?_, ?_⟩⟩
  ·rw [List.map_append, HYS.out]
   exact HP5.out.append_right _
  ·rcases List.mem_append.1 hq with hq | hq
   ·exact ent_kept ((HQ5.out q hq).kp (Kp.low ha6.below HS.out)) hgp hkr
   ·exact ent_kept ((HQ.out q hq).kp (hA6.kp HS.out)) hgp hkr
  ·rw [List.map_append, ← List.append_assoc]
   exact eps_kept he6 hgp hkr
  ·exact ownFrom_ap (β := Unit) (B := w.heap.size) (Nat.le_refl _) hn₀ () _ _ (some D) hA6 hgp (fun r e => by cases e; exact ⟨by omega, _, hK6, rfl⟩)
 case stop =>
  rintro D k pre V _ _ h _
  exact h.elim
theorem flat_some {α β : Type} (R : Nat → Option α) (M : Nat → List β) : ∀ l : List Nat, (∀ i ∈ l, R i = none → M i = []) → ((l.filterMap fun i => (R i).map fun x => (i, x)).flatMap fun x => M x.1) = l.flatMap M
 | [], _ => rfl
 | i :: l, h => by
  have ih := flat_some R M l (fun j hj => h j (List.mem_cons_of_mem _ hj))
  cases hr : R i with
  | none =>
   rw [List.filterMap_cons_none (by rw [hr]; rfl), ih, List.flatMap_cons, h i (List.mem_cons_self ..) hr, List.nil_append]
  | some x =>
   rw [List.filterMap_cons_some (b := (i, x)) (by rw [hr]; rfl), List.flatMap_cons, ih, List.flatMap_cons]
set_option maxHeartbeats 4000000 in
theorem hm_app (hs : ByteArray → Nat) : ∀ f, f ≤ 13 → AppOk hs f
 | 0, _ => fun S n₀ w L c v ps hS ht h hn he hp hT => by
  obtain ⟨vl, qs, rfl, h2, rfl, h4⟩ := h
  rw [List.length_map] at h2 hn
  obtain ⟨la, lc, rfl, _⟩ := h2.head.shape
  have h := hm_app_core hs 0 S n₀ w v ps 0 none 0 0 la qs.length lc noG (fun _ => []) qs hS ht (AtR.zero S w) (by rw [List.length_map]; exact h2.head.cut) h4 hn (fun i _ => rfl) (fun _ => by simp) (.inl rfl) he (by omega) hT
  exact h
 | f + 1, hf => fun S n₀ w L c v ps hS ht h hn he hp hT => by
  obtain ⟨b0, vr, R, rfl, hrow, hpl⟩ := h.row
  obtain ⟨bb, va, vn, vc, e⟩ := hrow.parts
  simp only [Array.mk.injEq, List.cons.injEq] at e
  obtain ⟨rfl, rfl, _⟩ := e
  have h := hm_app_core hs f S n₀ w v ps bb va vn vc none 0 0 R (fun i => chE hs (12 - f) i L) [] hS ht hrow ⟨none, 0, rfl, Nat.le_refl _, rfl, .inl ⟨rfl, rfl⟩⟩ (fun q hq => by cases hq) (by simp) hpl (fun i => Nat.le_trans ch_len_le hn) (.inr ⟨hm_app hs f (by omega), by omega⟩) he (by omega) hT
  refine h.mono ?_
  rintro r w' ⟨v', q2, h1, h2, h3⟩
  refine ⟨v', q2, h1, h2.trans ?_, h3⟩
  rw [List.map_nil, List.append_nil]
  unfold allG
  rw [flat_some R (fun i => chE hs (12 - f) i L) _ (fun i hi hr => by
   have hp := hpl i (List.mem_range.1 hi)
   rw [hr] at hp
   cases hc : chE hs (12 - f) i L with
   | nil => rfl
   | cons a t =>
    rw [hc] at hp
    cases t with
    | nil => obtain ⟨_, h, _⟩ := hp; cases h
    | cons b t => obtain ⟨_, _, _, h, _⟩ := hp; cases h)]
  exact ch_perm hs (12 - f) L
end Go.Proofs.YtpodmgihlomglaaGreatDoor
namespace Go.Proofs.YtpodmgihlomglaaGreatDoor
open Go.RowKit
set_option linter.unusedSimpArgs false
abbrev RiseK (M : List ByteArray) : Prop := M.Pairwise fun a b => kb a < kb b
def idxK (M : List ByteArray) (t : ByteArray) : Option Nat := M.findIdx? fun y => decide (y = t)
theorem idx_some {M : List ByteArray} {t : ByteArray} {j : Nat} (h : idxK M t = some j) : ∃ hj : j < M.length, M[j] = t := by
 obtain ⟨hj, h1, _⟩ := List.findIdx?_eq_some_iff_getElem.1 h
 exact ⟨hj, by simpa using h1⟩
theorem idx_none {M : List ByteArray} {t : ByteArray} (h : idxK M t = none) : t ∉ M := fun hm => by
 have := (List.findIdx?_eq_none_iff.1 h) t hm
 simp at this
section
variable {M : List ByteArray} {l : List Cel} {t : ByteArray} {c : Cel}
theorem zip_rise (h : RiseK M) (hl : M.length = l.length) : Rise (M.zip l) := by
 unfold Rise
 have e : (M.zip l).map (·.1) = M := zip_fst M l hl
 rw [← List.pairwise_map (f := fun x : Ent => x.1) (R := fun a b => kb a < kb b), e]
 exact h
theorem zip_mem {e : Ent} : e ∈ M.zip l ↔ ∃ i : Nat, M[i]? = some e.1 ∧ l[i]? = some e.2 := by
 rw [List.mem_iff_getElem?]
 constructor
 ·rintro ⟨i, h⟩
  obtain ⟨h1, h2⟩ := List.getElem?_zip_eq_some.1 h
  exact ⟨i, h1, h2⟩
 ·rintro ⟨i, h1, h2⟩
  exact ⟨i, List.getElem?_zip_eq_some.2 ⟨h1, h2⟩⟩
theorem get_zip_some (h : RiseK M) (hl : M.length = l.length) {j : Nat} (hi : idxK M t = some j) : ∃ hj : j < l.length, getE (M.zip l) t = some l[j] := by
 obtain ⟨hj, e⟩ := idx_some hi
 refine ⟨by omega, (get_mem (zip_rise h hl)).2 (zip_mem.2 ⟨j, ?_, ?_⟩)⟩
 ·rw [List.getElem?_eq_getElem hj, e]
 ·rw [List.getElem?_eq_getElem]
theorem get_zip_none (hi : idxK M t = none) : getE (M.zip l) t = none := get_none.2 fun e he h => by
 obtain ⟨i, h1, _⟩ := zip_mem.1 he
 exact idx_none hi (h ▸ List.mem_of_getElem? h1)
theorem get_zip (h : RiseK M) (hl : M.length = l.length) (t : ByteArray) : getE (M.zip l) t = (idxK M t).bind fun j => l[j]? := by
 cases hi : idxK M t with
 | none => rw [get_zip_none hi]; rfl
 | some j =>
  obtain ⟨hj, e⟩ := get_zip_some h hl hi
  rw [e, Option.bind_some, List.getElem?_eq_getElem hj]
theorem rise_mem {L K : List Ent} (hL : Rise L) (hK : Rise K) (h : ∀ e, e ∈ L ↔ e ∈ K) : L = K :=
 rise_perm hL hK ((List.perm_ext_iff_of_nodup (hL.imp fun h e => lt_ne h (congrArg Prod.fst e)) (hK.imp fun h e => lt_ne h (congrArg Prod.fst e))).2 h)
end
theorem at_idx {a : Tr} (h : a.k = 5 ∨ a.k = 6) (i : Int) (t : ByteArray) : atT a i t = idxK (mkeys a.k a.ks a.xs) t := by
 unfold atT mkeys idxK
 rcases h with h | h
 ·rw [if_neg (by omega), if_pos h, if_pos h]
 ·rw [if_neg (by omega), if_neg (by omega), if_neg (by omega), if_pos h, List.findIdx?_map]
  congr 1
  funext y
  simp [kB_iff]
end Go.Proofs.YtpodmgihlomglaaGreatDoor
