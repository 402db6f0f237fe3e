import Derived.Test.YtpodmgihlomglaaGreatDoorP11
namespace Go.Proofs.YtpodmgihlomglaaGreatDoor
open Go.RowKit
theorem compare_order : ∀ a b : List UInt8, Lib.compareBytes a b = orderS a b := by
 intro a
 induction a with
 | nil =>
  intro b
  cases b <;> simp [Lib.compareBytes, orderS]
 | cons x l ih =>
  intro b
  cases b with
  | nil => simp [Lib.compareBytes, orderS]
  | cons y r =>
   simp only [Lib.compareBytes]
   by_cases h1 : x < y
   ·have hne : ¬ x = y := fun e => by rw [e] at h1; exact absurd h1 (UInt8.lt_irrefl _)
    rw [if_pos h1]
    unfold orderS
    rw [if_neg (by simp [hne]), if_pos (by rw [List.cons_lt_cons_iff]; exact .inl h1)]
   ·rw [if_neg h1]
    by_cases h2 : y < x
    ·have hne : ¬ x = y := fun e => by rw [e] at h2; exact absurd h2 (UInt8.lt_irrefl _)
     rw [if_pos h2]
     unfold orderS
     rw [if_neg (by simp [hne]), if_neg (by
      rw [List.cons_lt_cons_iff]
      rintro (h | ⟨h, _⟩)
      ·exact h1 h
      ·exact hne h)]
    ·rw [if_neg h2, ih]
     have e : x = y := by
      rw [UInt8.lt_iff_toNat_lt] at h1 h2
      exact UInt8.toNat_inj.1 (by omega)
     subst e
     unfold orderS
     have e1 : (x :: l = x :: r) ↔ l = r := by simp
     have e2 : (x :: l < x :: r) ↔ l < r := by
      rw [List.cons_lt_cons_iff]
      exact ⟨fun h => by rcases h with h | h; exact absurd h (UInt8.lt_irrefl _); exact h.2, fun h => .inr ⟨rfl, h⟩⟩
     simp only [e1, e2]
theorem q_Order (a b : ByteArray) (w : World) : Calls Tryz.prog 136 #[.string a, .string b] w fun e w' => e = .returned (.int .i64 (orderS a.data.toList b.data.toList)) ∧ w = w' := by
 have HC := Lib.hid (fun w => Tryz.strings_Compare a b w)
 rw [compare_order] at HC
 go_enter Tryz.func136, Tryz.ntmps136
 go_wp2_with fail
 refine (HC.out _).mono ?_
 rintro e w1 ⟨rfl, rfl⟩
 go_wp2_with fail
 go_ret
 exact ⟨rfl, rfl⟩
end Go.Proofs.YtpodmgihlomglaaGreatDoor
namespace Go.Proofs.YtpodmgihlomglaaGreatDoor
open Go.RowKit Go.Shelf Go.Lib Go.Sort
set_option maxRecDepth 1000000
set_option linter.unusedSimpArgs false
theorem sw_block {α : Type} [Inhabited α] (enc : α → Value) (w : World) (blk off m : Nat) (dk : Array α) (os : Array Obj) {b : Nat} (hb : b < w.heap.size) (hne : b ≠ blk) : (sortWorld enc w blk off m dk os).heap[b]? = w.heap[b]? := by
 unfold sortWorld grow putRow mapBlock
 simp only
 rw [Array.getElem?_append_left (by simp; exact hb), Array.getElem?_modify, if_neg (fun e => hne e.symm)]
 rfl
theorem sw_below {α : Type} [Inhabited α] (enc : α → Value) (w : World) (blk off m : Nat) (dk : Array α) (os : Array Obj) {B : Nat} (hB : B ≤ w.heap.size) (hblk : B ≤ blk) : Below B w (sortWorld enc w blk off m dk os) :=
 ⟨rfl, rfl, rfl, by simp [sortWorld, grow, putRow, mapBlock], fun k hk => sw_block enc w blk off m dk os (by omega) (by omega)⟩
theorem sw_same {α : Type} [Inhabited α] (enc : α → Value) (w : World) (blk off m : Nat) (d : Array α) (os : Array Obj) (hH : Holds enc w blk off d) : Below w.heap.size w (sortWorld enc w blk off m d os) := by
 unfold sortWorld
 rw [putRow_self enc (Sort.ahead w m) blk off d (fun j hj => hH j hj)]
 exact ⟨rfl, rfl, rfl, by simp [grow, Sort.ahead], fun k hk => by
  simp only [grow, Sort.ahead]
  rw [Array.getElem?_append_left hk]⟩
set_option maxHeartbeats 1000000 in
theorem hm_search1 (hs : ByteArray → Nat) (b : Nat) (e : Ent) (k : ByteArray) (w : World) {fr : Nat × Nat} (h : w.heap[b]? = some (.cells (entC hs e) 168 fr)) :
  Calls Tryz.prog 157 #[pv (some b), .string k] w fun r w' => r = .returned (.int .i64 (orderS (kb e.1) (kb k))) ∧ w' = w := by
 have c0 : w.cell? ⟨b, 0, none⟩ = some (.string e.1) := cell_in h rfl
 have HO := Lib.hid (fun w => q_Order e.1 k w)
 unfold pv
 clear h
 go_enter Tryz.func157, Tryz.ntmps157
 go_wp2_with (go_at_call 136; refine (HO.out _).mono ?_; rintro r w1 ⟨rfl, hw⟩; obtain rfl := hw)
 go_ret
 exact ⟨rfl, rfl⟩
def cftK (k : ByteArray) (e : Ent) : Int := orderS (kb e.1) (kb k)
theorem cft_neg (k : ByteArray) (e : Ent) : decide (cftK k e < 0) = decide (kb e.1 < kb k) := by
 have h := orderS_less (kb e.1) (kb k)
 have hr := orderS_range (kb e.1) (kb k)
 unfold cftK
 rw [decide_eq_decide, ← h]
 omega
theorem cft_zero (k : ByteArray) (e : Ent) : cftK k e = 0 ↔ e.1 = k := by
 unfold cftK
 rw [orderS_zero, kb_iff]
theorem flat_ps (qs : List (Nat × Ent)) : ∀ (j : Nat), (en enE (qs.map (·.1)))[j]? = (qs[j]?).map fun q => pv (some q.1) := by
 induction qs with
 | nil => intro j; simp [en]
 | cons q qs ih =>
  intro j
  cases j with
  | zero => simp [en, enE]
  | succ j =>
   have := ih j
   unfold en enE at this ⊢
   simp only [List.map_cons, List.flatMap_cons, List.singleton_append, List.getElem?_cons_succ]
   exact this
set_option maxHeartbeats 2000000 in
theorem hm_search {hs : ByteArray → Nat} {S : Nat → Prop} (w : World) (L : List Ent) (c : Array Value) (k : ByteArray) (h : NodeAt hs S 0 w L c) (hL : Rise L) (hn : L.length ≤ 100000) :
  Calls Tryz.prog 137 #[.agg c, .string k] w fun r w' => r = .returned (.tuple #[.int .i64 ((belE L k).length : Nat), .bool (getE L k).isSome]) ∧ Below w.heap.size w w' := by
 obtain ⟨v, qs, rfl, h2, rfl, h4⟩ := h
 obtain ⟨w1, hw1⟩ : ∃ w1, w.alloc (.cells #[.int .u32 0, .slice none 0 0, v] 119) = w1 := ⟨_, rfl⟩
 have hb1 : Below w.heap.size w w1 := by rw [← hw1]; exact Below.newly' _ _
 have hx1 : w1.heap[w.heap.size]? = some (.cells #[.int .u32 0, .slice none 0 0, v] 119 (0, 0)) := by rw [← hw1]; exact heap_alloc_last _ _
 have ca2 : w1.cell? ⟨w.heap.size, 2, none⟩ = some v := cell_in hx1 rfl
 have HB1 := Lib.hid hb1
 obtain ⟨hl, h2⟩ := h2
 rw [List.length_map] at h2 hl
 rcases h2 with ⟨h0, rfl⟩ | ⟨h0, g, cp, cur, rfl, hcp, hS, hg, hc⟩
 ·obtain rfl : qs = [] := List.eq_nil_of_length_eq_zero h0
  have HN := Lib.hid (fun W => Any.slices_BinarySearchFunc_none Tryz.searchL none 0 (.string k) (.func (.func 157) #[] #[]) W)
  clear h4 hL hb1 hx1 hl h0
  go_enter Tryz.func137, Tryz.ntmps137
  go_upto_region 1 with fail
  clear hw1
  go_wp2_with (go_at_call 156; refine (HN.out _).mono ?_; rintro r w2 ⟨rfl, hw⟩; obtain rfl := hw.symm)
  go_ret2
  exact ⟨rfl, HB1.out⟩
 ·
  have hin : Inhabited { q : Nat × Ent // q ∈ qs } := ⟨⟨qs[0], List.getElem_mem h0⟩⟩
  obtain ⟨d, hd⟩ : ∃ d : Array { q : Nat × Ent // q ∈ qs }, d = qs.attach.toArray := ⟨_, rfl⟩
  have hds : d.size = qs.length := by rw [hd]; simp
  have hdl : d.toList.map Subtype.val = qs := by rw [hd, List.toList_toArray]; exact List.attach_map_subtype_val qs
  have hda : ∀ j, j < d.size → qs[j]? = some (d[j]!).1 := fun j hj => by
   have e : (d.toList.map Subtype.val)[j]? = qs[j]? := congrArg (fun l => l[j]?) hdl
   refine e.symm.trans ?_
   rw [List.getElem?_map, Array.getElem?_toList, Array.getElem?_eq_getElem hj, getElem!_pos d j hj]
   rfl
  have hrow : w1.heap[g]? = some (.cells cur 166 (0, 0)) := kW hb1 hg
  have hHo : Holds (fun q : { q : Nat × Ent // q ∈ qs } => pv (some q.1.1)) w1 g 0 d := fun j hj => by
   have hq := hc j (pv (some (d[j]!).1.1)) (by rw [flat_ps, hda j hj]; rfl)
   refine ⟨by rw [Nat.zero_add]; exact cell_in hrow hq, ?_⟩
   simp [World.frozen?, hrow]
  have hne : ∀ q ∈ qs, q.1 ≠ g := fun q hq e => by
   obtain ⟨_, fr, hx⟩ := h4 q hq
   rw [e, hg] at hx
   simp only [Option.some.injEq, Obj.cells.injEq] at hx
   exact absurd hx.2.1 (by decide)
  have hcmp : CmpLaysT Tryz.prog 157 #[] (fun q : { q : Nat × Ent // q ∈ qs } => pv (some q.1.1)) (.string k) (fun q => cftK k q.1.2) g 0 d.size w1 := fun m os dk _ x => by
   obtain ⟨_, fr, hx⟩ := h4 x.1 x.2
   have hlt := (Array.getElem?_eq_some_iff.1 hx).1
   have hx2 : (sortWorld (fun q : { q : Nat × Ent // q ∈ qs } => pv (some q.1.1)) w1 g 0 m dk os).heap[x.1.1]? = some (.cells (entC hs x.1.2) 168 fr) :=
    (sw_block _ w1 g 0 m dk os (Nat.lt_of_lt_of_le hlt hb1.size) (hne x.1 x.2)).trans ((hb1.block _ hlt).trans hx)
   refine (hm_search1 hs x.1.1 x.1.2 k _ hx2).mono ?_
   rintro r w' ⟨rfl, rfl⟩
   exact ⟨rfl, 0, #[], by rw [grow_empty]; rfl⟩
  have eg : ∀ args w, (callFunc 157 args).run Tryz.prog w = .ok (.enter 157 args) w := enters_of Tryz.func157 (by kernel_rfl) rfl
  have hmono : ∀ a b, a ≤ b → b < d.size → cftK k (d[b]!).1.2 < 0 → cftK k (d[a]!).1.2 < 0 := fun a b hab hb hlt => by
   have h1 : kb (d[b]!).1.2.1 < kb k := by have := cft_neg k (d[b]!).1.2; simpa [hlt] using this
   have h2 : kb (d[a]!).1.2.1 < kb k := by
    rcases Nat.lt_or_ge a b with hlt2 | hge
    ·have hp := List.pairwise_iff_getElem.1 hL a b (by rw [List.length_map]; omega) (by rw [List.length_map]; omega) hlt2
     have ea := hda a (by omega)
     have eb := hda b hb
     rw [List.getElem?_eq_getElem (by omega)] at ea eb
     simp only [List.getElem_map, Option.some.inj ea, Option.some.inj eb] at hp
     exact List.lt_trans hp h1
    ·obtain rfl : a = b := by omega
     exact h1
   have := cft_neg k (d[a]!).1.2
   simpa [h2] using this
  have hcon := Any.slices_BinarySearchFunc Tryz.searchL (fun q : { q : Nat × Ent // q ∈ qs } => pv (some q.1.1)) (fun _ => rfl) (.string k) (fun q => cftK k q.1.2) 157 #[] g 0 cp d w1 eg hcmp hHo (Array.getElem?_eq_some_iff.1 hrow).1 (by rw [hds]; rw [List.length_map] at hn; omega) hmono
  change Calls Tryz.prog 156 _ _ _ at hcon
  rw [hds] at hcon
  have hcnt : d.toList.countP (fun x => decide (cftK k x.1.2 < 0)) = (belE (qs.map (·.2)) k).length := by
   have e : d.toList.countP (fun x => decide (cftK k x.1.2 < 0)) = ((d.toList.map Subtype.val).map (·.2)).countP (fun e => decide (cftK k e < 0)) := by
    rw [List.countP_map, List.countP_map]
    rfl
   rw [e, hdl, List.countP_eq_length_filter]
   unfold belE
   congr 2
   funext e
   exact cft_neg k e
  rw [hcnt] at hcon
  obtain ⟨N, hN⟩ : ∃ N, N = (belE (qs.map (·.2)) k).length := ⟨_, rfl⟩
  have his : (decide (N < qs.length) && decide (cftK k (d[N]!).1.2 = 0)) = (getE (qs.map (·.2)) k).isSome := by
   obtain ⟨p1, p2⟩ := at_place hL k
   rw [← hN] at p1 p2
   by_cases hlt : N < qs.length
   ·have ha := hda N (by omega)
    have hp := p1 (d[N]!).1.2 (by rw [List.getElem?_map, ha]; rfl)
    rw [decide_eq_true hlt, Bool.true_and]
    cases hg : (getE (qs.map (·.2)) k).isSome with
    | true => rw [decide_eq_true_eq]; exact (cft_zero k _).2 (hp.2 hg)
    | false =>
     rw [decide_eq_false_iff_not]
     intro h0
     have := hp.1 ((cft_zero k _).1 h0)
     rw [hg] at this
     cases this
   ·rw [decide_eq_false hlt, Bool.false_and]
    cases hg : (getE (qs.map (·.2)) k).isSome with
    | false => rfl
    | true =>
     obtain ⟨e, he, _⟩ := p2 hg
     have := (List.getElem?_eq_some_iff.1 he).1
     rw [List.length_map] at this
     omega
  rw [← hN] at hcon ⊢
  rw [his] at hcon
  have HC := Lib.hid hcon
  have HHO := Lib.hid hHo
  obtain ⟨R, hR⟩ : ∃ R, R = (getE (qs.map (·.2)) k).isSome := ⟨_, rfl⟩
  rw [← hR] at HC ⊢
  clear hcon his hcnt hmono eg hcmp hne hHo hrow hda hdl hd h4 hL hb1 hx1 hl hc hg hS hcp hn hN hR
  go_enter Tryz.func137, Tryz.ntmps137
  go_upto_region 1 with fail
  clear hw1
  go_wp2_with (go_at_call 156; refine HC.out.mono ?_; rintro r w2 ⟨rfl, m, os, hw⟩; have HW2 := Lib.hid hw; clear hw)
  go_ret2
  exact ⟨rfl, by rw [HW2.out]; exact HB1.out.trans ((sw_same _ w1 g 0 m d os HHO.out).mono HB1.out.size)⟩
end Go.Proofs.YtpodmgihlomglaaGreatDoor
namespace Go.Proofs.YtpodmgihlomglaaGreatDoor
open Go.RowKit Go.Shelf
set_option maxRecDepth 1000000
set_option linter.unusedSimpArgs false
attribute [local go_sem] Oper.semAt_some
theorem bx_kept {A B : World} {X : Nat} {t : TypeId} {v : Value} {row : Option Nat} (h : Boxed A X t v) (hg : A.grownBy B row) (hr : ∀ r, row = some r → ∃ o : Obj, A.heap[r]? = some o ∧ o.isCells = false) : Boxed B X t v :=
 boxed_own (β := Unit) X t (fun _ => v) () A B row h hg hr
theorem row_kept {A B : World} {k : Nat} {cs : Array Value} {T : TypeId} {fr : Nat × Nat} {row : Option Nat} (h : A.heap[k]? = some (.cells cs T fr)) (hg : A.grownBy B row) (hr : ∀ r, row = some r → ∃ o : Obj, A.heap[r]? = some o ∧ o.isCells = false) : B.heap[k]? = some (.cells cs T fr) := by
 refine (hg.block _ (Array.getElem?_eq_some_iff.1 h).1 fun e => ?_).trans h
 obtain ⟨o, ho, hc⟩ := hr k e.symm
 rw [h] at ho
 cases ho
 cases hc
theorem keeps_below {A B : World} (h : Below A.heap.size A B) : KeepsOthers A B := ⟨h.size, fun k _ hk _ => (h.block k (Array.getElem?_eq_some_iff.1 hk).1).trans hk⟩
end Go.Proofs.YtpodmgihlomglaaGreatDoor
namespace Go.Proofs.YtpodmgihlomglaaGreatDoor
open Go.RowKit Go.Shelf
set_option maxRecDepth 1000000
set_option linter.unusedSimpArgs false
attribute [local go_sem] Oper.semAt_some
abbrev PBox (V : World) (X : Nat) (p : Pl) : Prop := V.heap[X]? = some (.cells (plc p) 190 (0, 0))
theorem row_only {V V' : World} {X Y : Nat} {cs : Array Value} {T : TypeId} {fr : Nat × Nat} (h : V.heap[Y]? = some (.cells cs T fr)) (k : Only X V V') (hne : Y ≠ X) : V'.heap[Y]? = some (.cells cs T fr) := k.other h hne
theorem only_keeps {X : Nat} {A B : World} {cs : Array Value} {T : TypeId} {fr : Nat × Nat} (h : Only X A B) (hX : A.heap[X]? = some (.cells cs T fr)) : KeepsOthers A B :=
 ⟨Nat.le_of_eq h.size.symm, fun k o hk ho => h.other hk (fun e => by subst e; rw [hX] at hk; cases hk; cases ho)⟩
def firstG (R : Rg Pl) : Int × Pl × Bool := match allG R with
 | [] => (0, (none, none), false)
 | p :: _ => ((p.1 : Int), p.2, true)
set_option maxHeartbeats 1000000 in
theorem first_results (tmps : Array Value) (w : World) (X1 X2 X3 : Nat) (i : Int) (p : Pl) (b : Bool) (h1 : tmps.getD 2 undef = .pointer (some ⟨X1, 0, none⟩)) (h2 : tmps.getD 3 undef = .pointer (some ⟨X2, 0, none⟩)) (h3 : tmps.getD 4 undef = .pointer (some ⟨X3, 0, none⟩))
  (c1 : Boxed w X1 3 (.int .i64 i)) (c2 : PBox w X2 p) (c3 : Boxed w X3 4 (.bool b)) :
  (results Tryz.f196 tmps).run Tryz.prog w = .ok (.tuple #[.int .i64 i, .agg (plc p), .bool b]) w := by
 have l1 := c1.cell
 have l3 := c3.cell
 have l2 : w.cell? ⟨X2, 0, none⟩ = some (pv p.1) := cell_in c2 rfl
 have l4 : w.cell? ⟨X2, 1, none⟩ = some (pv p.2) := cell_in c2 rfl
 simp at h1 h2 h3
 simp [results, Tryz.f196, go_sem, h1, h2, h3, l1, l2, l3, l4, plc]
theorem st_box_wp {o : Oper} {a : Act} {w : World} {K : Act → World → Prop} {Q : Exit → Act → World → Prop} (ty : TypeId) (x y : Operand) (ho : o.op = .store ty x y)
  (X : Nat) (v : Value) (hx : a.eval x = .pointer (some ⟨X, 0, none⟩)) (hy : a.eval y = v) (h1 : v.oneCell' = true) (T : TypeId) (u : Value) (hB : Boxed w X T u)
  (hi : (Tryz.prog.info? ty).map (·.size) = some 1)
  (h : ∀ w', Boxed w' X T v → Only X w w' → K (a.put o.dst undef) w') : o.wp Tryz.prog a w K Q := by
 unfold Oper.wp execOp
 simp only [ho, hx, hy, Instr.storeAt, Instr.sureAddr, Sem.run_bind, Sem.run_pure, Result.andThen_ok, run_storeVar_cell w X 0 T ty #[u] v hB (by simp) hi h1]
 exact h _ (setRow_heap w X _ _ _ _ hB) (only_setRow _ _ _)
theorem st_in {ops : Array Oper} {rest : List Oper} {o : Oper} {a : Act} {w : World} {Q : Exit → Act → World → Prop} {n l : Nat} (hgd : o.guard = none) (ty : TypeId) (x y : Operand) (ho : o.op = .store ty x y)
  (X : Nat) (c' : Array Value) (hx : a.eval x = .pointer (some ⟨X, 0, none⟩)) (hy : a.eval y = .agg c') (T : TypeId) (c : Array Value) (hB : w.heap[X]? = some (.cells c T (0, 0)))
  (hi : (Tryz.prog.info? ty).map (·.size) = some c'.size) (hs : c.size = c'.size) (h1 : c'.all (·.oneCell') = true)
  (h : ∀ w', w'.heap[X]? = some (.cells c' T (0, 0)) → Only X w w' → wpListIn (Fence.wide.inRound l) n Tryz.prog ops Q rest (a.put o.dst undef) w') : wpListIn (Fence.wide.inRound l) n Tryz.prog ops Q (o :: rest) a w :=
 list_in hgd (fun c' hc => by rw [ho] at hc; cases hc) fun _ hK => st_agg_wp ty x y ho X c' hx hy T c hB hi hs h1 fun w' h1 h2 => hK _ _ (h w' h1 h2)
theorem int_sz : (Tryz.prog.info? 3).map (·.size) = some 1 := by kernel_rfl
theorem bool_sz : (Tryz.prog.info? 4).map (·.size) = some 1 := by kernel_rfl
set_option maxHeartbeats 4000000 in
theorem pr_First {S : Nat → Prop} (w : World) (R : Rg Pl) (c : Array Value) (h : AtR S w R c) (hT : Tab6 w) : Calls Tryz.prog 196 #[.agg c] w fun e W' => e = .returned (.tuple #[.int .i64 (firstG R).1, .agg (plc (firstG R).2.1), .bool (firstG R).2.2]) ∧ Below w.heap.size w W' := by
 obtain ⟨v, rfl, h2⟩ := h
 have HPL := Lib.hid (pls_in h2.old (n₀ := w.heap.size) (fun g hg => hg.2))
 obtain ⟨a, n, rfl, _⟩ := h2.shape
 have HTT := Lib.hid hT
 refine (callsIn_wide (n := 5)).1 ?_
 refine callsIn_of_wp_marks Tryz.func196 rfl trivial ?_ rfl
 simp only [Tryz.ntmps196, List.size_toArray, List.length_cons, List.length_nil, Nat.reduceAdd, Nat.reduceSub, Array.replicate_succ, Array.replicate_zero, List.push_toArray, List.append_toArray, List.nil_append, List.cons_append]
 have htl : 0 < w.heap.size := World.block_lt_of_cell? w _ (hT 0 (by decide))
 clear h2 hT
 gi_wp2_with (refine ⟨trivial, ?_⟩; gi_at_call 153; refine (pr_All_in _ _ _ _).mono ?_; rintro e w' ⟨rfl, rfl⟩)
 obtain ⟨W1, hW1⟩ : ∃ W1, w.alloc (.cells #[.int .u32 (bitsG R 32 : Nat), .slice a (cntG R 32) n] 116) = W1 := ⟨_, rfl⟩
 have hs1 : W1.heap.size = w.heap.size + 1 := by rw [← hW1]; simp
 have hb1 : Below w.heap.size w W1 := by rw [← hW1]; exact Below.newly' _ _
 rw [hW1]
 obtain ⟨W2, hW2⟩ : ∃ W2, W1.alloc (.cells #[.int .i64 0] 3) = W2 := ⟨_, rfl⟩
 have hs2 : W2.heap.size = w.heap.size + 2 := by rw [← hW2]; simp; omega
 have hx2 : Boxed W2 (w.heap.size + 1) 3 (.int .i64 0) := by rw [← hs1, ← hW2]; exact Boxed.new _ _ _
 have hb2 : Below w.heap.size w W2 := by rw [← hW2]; exact hb1.alloc (by omega) _
 rw [hW2]
 obtain ⟨W3, hW3⟩ : ∃ W3, W2.alloc (.cells #[.pointer none, .pointer none] 190) = W3 := ⟨_, rfl⟩
 have hs3 : W3.heap.size = w.heap.size + 3 := by rw [← hW3]; simp; omega
 have hp3 : PBox W3 (w.heap.size + 1 + 1) (none, none) := by
  have h := heap_alloc_last W2 (.cells #[.pointer none, .pointer none] 190)
  rw [hW3, hs2] at h
  exact h
 have hx3 : Boxed W3 (w.heap.size + 1) 3 (.int .i64 0) := by rw [← hW3]; exact hx2.alloc _
 have hb3 : Below w.heap.size w W3 := by rw [← hW3]; exact hb2.alloc (by omega) _
 rw [hW3]
 obtain ⟨W4, hW4⟩ : ∃ W4, W3.alloc (.cells #[.bool false] 4) = W4 := ⟨_, rfl⟩
 have hs4 : W4.heap.size = w.heap.size + 4 := by rw [← hW4]; simp; omega
 have hp4 : PBox W4 (w.heap.size + 1 + 1) (none, none) := by rw [← hW4]; exact ((Below.newly' _ _).block _ (by omega)).trans hp3
 have hx4 : Boxed W4 (w.heap.size + 1) 3 (.int .i64 0) := by rw [← hW4]; exact hx3.alloc _
 have hy4 : Boxed W4 (w.heap.size + 1 + 1 + 1) 4 (.bool false) := by rw [show w.heap.size + 1 + 1 + 1 = W3.heap.size by omega, ← hW4]; exact Boxed.new _ _ _
 have hb4 : Below w.heap.size w W4 := by rw [← hW4]; exact hb3.alloc (by omega) _
 rw [hW4]
 obtain ⟨W0, hW0⟩ : ∃ W0, W4.alloc (.cells #[.int .u32 (bitsG R 32 : Nat), .slice a (cntG R 32) n] 116) = W0 := ⟨_, rfl⟩
 have hs0 : W0.heap.size = w.heap.size + 5 := by rw [← hW0]; simp; omega
 have hp0 : PBox W0 (w.heap.size + 1 + 1) (none, none) := by rw [← hW0]; exact ((Below.newly' _ _).block _ (by omega)).trans hp4
 have hx0 : Boxed W0 (w.heap.size + 1) 3 (.int .i64 0) := by rw [← hW0]; exact hx4.alloc _
 have hy0 : Boxed W0 (w.heap.size + 1 + 1 + 1) 4 (.bool false) := by rw [← hW0]; exact hy4.alloc _
 have hb0 : Below w.heap.size w W0 := by rw [← hW0]; exact hb4.alloc (by omega) _
 have hr0 : W0.heap[w.heap.size + 1 + 1 + 1 + 1]? = some (.cells #[.int .u32 (bitsG R 32 : Nat), .slice a (cntG R 32) n] 116 (0, 0)) := by
  rw [show w.heap.size + 1 + 1 + 1 + 1 = W4.heap.size by omega, ← hW0]; exact heap_alloc_last _ _
 rw [hW0]
 clear hW0 hW1 hW2 hW3 hW4 hs1 hs2 hs3 hs4 hb1 hb2 hb3 hb4 hx2 hx3 hx4 hp3 hp4 hy4
 refine wpIn_rangeFunc_ownH (F := Fence.wide) rfl (by omega) (gf := 182) (lb := #[.pointer (some ⟨w.heap.size + 1 + 1 + 1 + 1, 0, none⟩)]) rfl trivial (enters_of Tryz.func182 (by kernel_rfl) rfl)
  (pr_all_stops 4 (by omega) (w.heap.size + 1 + 1 + 1 + 1) w.heap.size R _ W0 (by omega) (by omega) htl (cell_in hr0 rfl) (cell_in hr0 rfl) (HPL.out.below hb0) (HTT.out.below hb0)) belowK_t (belowK_b (by omega)) (Below.refl _ _) (fun _ => rfl)
  (fun pre V => (pre = [] ∧ Boxed V (w.heap.size + 1) 3 (.int .i64 0) ∧ PBox V (w.heap.size + 1 + 1) (none, none) ∧ Boxed V (w.heap.size + 1 + 1 + 1) 4 (.bool false)) ∧ Below w.heap.size w V)
  (fun k pre V => (k = .ret ∧ ∃ x : Nat × Pl, pre = [x] ∧ Boxed V (w.heap.size + 1) 3 (.int .i64 (x.1 : Int)) ∧ PBox V (w.heap.size + 1 + 1) x.2 ∧ Boxed V (w.heap.size + 1 + 1 + 1) 4 (.bool true)) ∧ Below w.heap.size w V)
  (OwnFrom.and (Own.from (fun s A B row hs hg hr => ⟨hs.1, bx_kept hs.2.1 hg hr, row_kept hs.2.2.1 hg hr, bx_kept hs.2.2.2 hg hr⟩) _) (ownFrom_below (Nat.le_refl _) (by omega)))
  (fun k => OwnFrom.and (Own.from (fun s A B row hs hg hr => by obtain ⟨hc, x, e1, e2, e3, e4⟩ := hs; exact ⟨hc, x, e1, bx_kept e2 hg hr, row_kept e3 hg hr, bx_kept e4 hg hr⟩) _) (ownFrom_below (Nat.le_refl _) (by omega)))
  ⟨⟨rfl, hx0, hp0, hy0⟩, hb0⟩
  (fun x a' V => ∃ Bx, w.heap.size + 4 ≤ Bx ∧ PBox V Bx x.2 ∧ a' = { tmps := #[.agg #[.int .u32 (bitsG R 32 : Nat), .slice a (cntG R 32) n], .pointer (some ⟨w.heap.size, 0, none⟩), .pointer (some ⟨w.heap.size + 1, 0, none⟩), .pointer (some ⟨w.heap.size + 1 + 1, 0, none⟩), .pointer (some ⟨w.heap.size + 1 + 1 + 1, 0, none⟩), .int .i64 (x.1 : Int), .pointer (some ⟨Bx, 0, none⟩), undef, .agg #[.int .u32 (bitsG R 32 : Nat), .slice a (cntG R 32) n], .func (.func 182) #[] #[.pointer (some ⟨w.heap.size + 1 + 1 + 1 + 1, 0, none⟩)], .int .i64 (x.1 : Int), .agg (plc x.2), undef, undef, undef], defers := [] })
  (fun x a' => Own.from (fun s A B row hs hg hr => by obtain ⟨Bx, h1, h2, h3⟩ := hs; exact ⟨Bx, h1, row_kept h2 hg hr, h3⟩) _)
  ?assign ?body ?done ?stop
 case assign =>
  rintro l pre x V K ⟨⟨rfl, h2, h3, h4⟩, hB⟩ hK
  have hVs := hb0.size
  gi_wp2_with (refine st_in rfl 190 _ _ rfl V.heap.size (plc x.2) rfl rfl 190 (plc (none, none)) (heap_alloc_last _ _) pl_size rfl (plc_one x.2) ?_; intro w5 h5 k5; have hb5 : Below V.heap.size V w5 := (Below.newly' _ _).trans (k5.below (Nat.le_refl _)))
  exact hK _ _ (((KeepsOthers.alloc V _).trans (only_keeps k5 (heap_alloc_last _ _))).from _) (hb5.mono hB.size) ⟨⟨by trivial, (hb5.block _ h2.lt).trans h2, kW hb5 h3, (hb5.block _ h4.lt).trans h4⟩, tW hB hb5⟩ ⟨V.heap.size, by have := h4.lt; omega, h5, rfl⟩
 case body =>
  rintro l pre x a' V hl ⟨r, hr⟩ ⟨⟨rfl, h2, h3, h4⟩, hB⟩ ⟨Bx, hBx, bX, rfl⟩ hlt
  have H2 := Lib.hid h2
  have H3 := Lib.hid h3
  have H4 := Lib.hid h4
  have HX := Lib.hid bX
  have HBV := Lib.hid hB
  clear h2 h3 h4 bX hB hx0 hp0 hy0 hr0 hb0 hr
  gi_wp2
  refine region_T_in (S := (fun V => PBox V Bx x.2)) [3, 4] (by kernel_rfl) (by kernel_rfl) (fun ⟨_, _, h⟩ => h) (by first | exact HX.out | exact HX6.out) (fun hHeld => ?_)
  refine tkA 0 12 (h := ?_)
  refine tyA 1 13 (hy := yieldsIf_load_row (by rfl) 190 _ rfl Bx rfl (plc x.2) 190 (0, 0) _ (fun w hw => hw) Tryz.underlying190 rfl (by exact pl_size)) (h := ?_)
  (try simp only [pq])
  refine tkO 2 none (h := fun K hK => ?_)
  rw [if_pos (by rfl)]
  refine st_box_wp 3 _ _ rfl (w.heap.size + 1) (.int .i64 (x.1 : Int)) rfl rfl rfl 3 _ H2.out int_sz ?_
  intro w6 h6 k6
  have G1 := Lib.hid h6
  have G2 := Lib.hid (row_only (V := V.drew) H3.out k6 (by omega))
  have G3 : Hid (Boxed w6 (w.heap.size + 1 + 1 + 1) 4 (.bool false)) := row_only (V := V.drew) H4.out k6 (by omega)
  have HX6 := Lib.hid (row_only (V := V.drew) HX.out k6 (by omega))
  have HB6 := Lib.hid ((Below.drewMany HBV.out 1).trans (k6.below (B := w.heap.size) (by omega)))
  have HK6 := Lib.hid ((keeps_below (drawn_below V)).trans (only_keeps (A := V.drew) k6 H2.out))
  clear h6 k6
  refine hK.out _ _ (by first | exact HX.out | exact HX6.out) (fun hHeld => ?_)
  clear hK K
  (try simp only [pq])
  refine tkU 3 none (h := fun K hK => ?_)
  rw [if_pos (by rfl)]
  refine st_agg_wp 190 _ _ rfl (w.heap.size + 1 + 1) (plc x.2) rfl rfl 190 _ G2.out pl_size rfl (plc_one x.2) ?_
  intro w7 h7 k7
  have G4 := Lib.hid h7
  have G5 : Hid (Boxed w7 (w.heap.size + 1) 3 (.int .i64 (x.1 : Int))) := row_only G1.out k7 (by omega)
  have G6 : Hid (Boxed w7 (w.heap.size + 1 + 1 + 1) 4 (.bool false)) := row_only G3.out k7 (by omega)
  have HB7 := Lib.hid (HB6.out.trans (k7.below (B := w.heap.size) (by omega)))
  have HK7 := Lib.hid (HK6.out.trans (only_keeps k7 G2.out))
  clear h7 k7
  refine hK.out _ _ ?_
  clear hK K
  (try simp only [pq])
  refine tkU 4 none (h := fun K hK => ?_)
  rw [if_pos (by rfl)]
  refine st_box_wp 4 _ _ rfl (w.heap.size + 1 + 1 + 1) (.bool true) rfl rfl rfl 4 _ G6.out bool_sz ?_
  intro w8 h8 k8
  refine hK.out _ _ ?_
  clear hK K
  (try simp only [pq])
  refine wpAnyT_done (by kernel_rfl) ?_ _
  gi_wp2
  exact ⟨(HK7.out.trans (only_keeps k8 G6.out)).from _, ⟨rfl, x, rfl, row_only G5.out k8 (by omega), row_only G4.out k8 (by omega), h8⟩, HB7.out.trans (k8.below (B := w.heap.size) (by omega))⟩
 case done =>
  rintro D ys V hD rfl ⟨⟨hne, h2, h3, h4⟩, hB⟩ hK
  have H2 := Lib.hid h2
  have H3 := Lib.hid h3
  have H4 := Lib.hid h4
  have HBV := Lib.hid hB
  have HKD := Lib.hid hK
  have HDD := Lib.hid hD
  clear h2 h3 h4 hB hK hx0 hp0 hy0 hr0 hb0 hD
  gi_wp2
  refine wpIn_wide.2 ?_
  refine wp_region_noPanic ?_
  have HVL : Hid (w.heap.size + 1 + 1 + 1 < V.heap.size) := H4.out.lt
  obtain ⟨Vd, hVd⟩ : ∃ Vd, (V.alloc (.cells #[.pointer none, .pointer none] 190)).drew = Vd := ⟨_, rfl⟩
  have hbd : Below V.heap.size V Vd := by rw [← hVd]; exact Below.drewMany (Below.newly' V _) 1
  have HXv : Hid (PBox Vd V.heap.size (none, none)) := by show _ = _; rw [← hVd]; exact heap_alloc_last V _
  have H2v : Hid (Boxed Vd (w.heap.size + 1) 3 (.int .i64 0)) := (hbd.block _ H2.out.lt).trans H2.out
  have H3v : Hid (PBox Vd (w.heap.size + 1 + 1) (none, none)) := kW hbd H3.out
  have H4v : Hid (Boxed Vd (w.heap.size + 1 + 1 + 1) 4 (.bool false)) := (hbd.block _ H4.out.lt).trans H4.out
  have HBd := Lib.hid (tW HBV.out hbd)
  have HKd := Lib.hid (keeps_below hbd)
  clear hbd
  refine wp_region_T (S := (fun V' => PBox V' V.heap.size (none, none))) [2, 3] (by kernel_rfl) (by first | exact (hVd ▸ HXv.out) | exact HX6.out) (fun hHeld => ?_)
  rw [hVd]
  refine tyA 0 14 (hy := yieldsIf_load_row (by rfl) 190 _ rfl V.heap.size rfl (plc (none, none)) 190 (0, 0) _ (fun w hw => hw) Tryz.underlying190 rfl (by exact pl_size)) (h := ?_)
  (try simp only [pq])
  refine tkO 1 none (h := fun K hK => ?_)
  rw [if_pos (by rfl)]
  refine st_box_wp 3 _ _ rfl (w.heap.size + 1) (.int .i64 0) rfl rfl rfl 3 _ H2v.out int_sz ?_
  intro w6 h6 k6
  have G1 := Lib.hid h6
  have G2 := Lib.hid (row_only (V := Vd) H3v.out k6 (by omega))
  have G3 : Hid (Boxed w6 (w.heap.size + 1 + 1 + 1) 4 (.bool false)) := row_only (V := Vd) H4v.out k6 (by omega)
  have HX6 := Lib.hid (row_only (V := Vd) HXv.out k6 (by have := HVL.out; omega))
  have HB6 := Lib.hid (HBd.out.trans (k6.below (B := w.heap.size) (by omega)))
  have HK6 := Lib.hid (HKd.out.trans (only_keeps (A := Vd) k6 H2v.out))
  clear h6 k6
  refine hK.out _ _ (by first | exact (hVd ▸ HXv.out) | exact HX6.out) (fun hHeld => ?_)
  clear hK K
  (try simp only [pq])
  refine tkU 2 none (h := fun K hK => ?_)
  rw [if_pos (by rfl)]
  refine st_agg_wp 190 _ _ rfl (w.heap.size + 1 + 1) (plc (none, none)) rfl rfl 190 _ G2.out pl_size rfl (plc_one (none, none)) ?_
  intro w7 h7 k7
  have G4 := Lib.hid h7
  have G5 : Hid (Boxed w7 (w.heap.size + 1) 3 (.int .i64 0)) := row_only G1.out k7 (by omega)
  have G6 : Hid (Boxed w7 (w.heap.size + 1 + 1 + 1) 4 (.bool false)) := row_only G3.out k7 (by omega)
  have HB7 := Lib.hid (HB6.out.trans (k7.below (B := w.heap.size) (by omega)))
  have HK7 := Lib.hid (HK6.out.trans (only_keeps k7 G2.out))
  clear h7 k7
  refine hK.out _ _ ?_
  clear hK K
  (try simp only [pq])
  refine tkU 3 none (h := fun K hK => ?_)
  rw [if_pos (by rfl)]
  refine st_box_wp 4 _ _ rfl (w.heap.size + 1 + 1 + 1) (.bool false) rfl rfl rfl 4 _ G6.out bool_sz ?_
  intro w8 h8 k8
  refine hK.out _ _ ?_
  clear hK K
  (try simp only [pq])
  refine wpAnyT_done (by kernel_rfl) ?_ _
  refine NoPanic.normal ?_
  gi_wp2
  have hK' := (HK7.out.trans (only_keeps k8 G6.out)).same D _ HKD.out rfl
  have q2 := bx_kept (row_only G5.out k8 (by omega)) (grownBy_putObj' _ D (.deferred none)) (fun r e => by cases e; exact ⟨_, hK', rfl⟩)
  have q3 := row_kept (row_only G4.out k8 (by omega)) (grownBy_putObj' _ D (.deferred none)) (fun r e => by cases e; exact ⟨_, hK', rfl⟩)
  have q4 := bx_kept h8 (grownBy_putObj' _ D (.deferred none)) (fun r e => by cases e; exact ⟨_, hK', rfl⟩)
  have hf : firstG R = (0, (none, none), false) := by unfold firstG; rw [hne]
  refine ⟨by simp, .inl ⟨_, _, rfl, run_takeDeferred hK', ?_⟩⟩
  refine ⟨.tuple #[.int .i64 0, .agg (plc (none, none)), .bool false], first_results _ _ _ _ _ _ _ _ rfl rfl rfl q2 q3 q4, by rw [hf], (HB7.out.trans (k8.below (B := w.heap.size) (by omega))).trans (belowK_b (w := w) (Nat.le_refl _) _ D _ _ (by have := HDD.out; omega) hK' rfl rfl)⟩
 case stop =>
  rintro D k pre V hD ⟨m, hm, rfl⟩ ⟨⟨rfl, x, e1, e2, e3, e4⟩, hB⟩ hK
  gi_wp2
  have q2 := bx_kept e2 (grownBy_putObj' _ D (.deferred none)) (fun r e => by cases e; exact ⟨_, hK, rfl⟩)
  have q3 := row_kept e3 (grownBy_putObj' _ D (.deferred none)) (fun r e => by cases e; exact ⟨_, hK, rfl⟩)
  have q4 := bx_kept e4 (grownBy_putObj' _ D (.deferred none)) (fun r e => by cases e; exact ⟨_, hK, rfl⟩)
  have hf : firstG R = ((x.1 : Int), x.2, true) := by
   unfold firstG
   cases hr : allG R with
   | nil => rw [hr] at e1; simp at e1
   | cons p t =>
    rw [hr] at e1
    cases m with
    | zero => simp at e1
    | succ m =>
     rw [List.take_succ_cons] at e1
     obtain rfl : p = x := (List.cons.inj e1).1
     rfl
  refine ⟨by simp, .inl ⟨_, _, rfl, run_takeDeferred hK, ?_⟩⟩
  refine ⟨.tuple #[.int .i64 (x.1 : Int), .agg (plc x.2), .bool true], first_results _ _ _ _ _ _ _ _ rfl rfl rfl q2 q3 q4, by rw [hf], hB.trans (belowK_b (w := w) (Nat.le_refl _) _ D _ _ (by omega) hK rfl rfl)⟩
end Go.Proofs.YtpodmgihlomglaaGreatDoor
namespace Go.Proofs.YtpodmgihlomglaaGreatDoor
open Go.RowKit
set_option linter.unusedSimpArgs false
def ValT (a : Tr) : Prop := Good a ∧ depT a ≤ 64 ∧ nodT a ≤ 16384
theorem val_null : ValT nullT := ⟨good_null, by simp [depT, depL], by simp [nodT, nodL]⟩
theorem ValT.part {a x : Tr} (h : ValT a) (hx : x ∈ a.xs) : ValT x := by
 have h1 := nodL_mem hx
 have h2 := depL_mem hx
 have h3 := nodT_eq a
 have h4 := depT_eq a
 exact ⟨h.1.part hx, by have := h.2.1; omega, by have := h.2.2; omega⟩
def placeK (ks : List ByteArray) (t : ByteArray) : Nat := (ks.takeWhile fun y => decide (kb y < kb t)).length
def putN {β : Type} (n : Nat) (l : List β) (x : β) : List β := l.take n ++ x :: l.drop n
theorem putN_perm {β : Type} (n : Nat) (l : List β) (x : β) : (putN n l x).Perm (x :: l) := by
 unfold putN
 refine List.perm_middle.trans ?_
 rw [List.take_append_drop]
theorem putN_len {β : Type} (n : Nat) (l : List β) (x : β) : (putN n l x).length = l.length + 1 := (putN_perm n l x).length_eq
theorem tw_take {β : Type} (p : β → Bool) (l : List β) : l.take (l.takeWhile p).length = l.takeWhile p := by
 have h := List.takeWhile_append_dropWhile (p := p) (l := l)
 conv => lhs; rw [← h]
 conv => lhs; rw [h]
 conv => lhs; arg 2; rw [← h]
 rw [List.take_left]
theorem tw_drop {β : Type} (p : β → Bool) (l : List β) : l.drop (l.takeWhile p).length = l.dropWhile p := by
 have h := List.takeWhile_append_dropWhile (p := p) (l := l)
 conv => lhs; arg 2; rw [← h]
 rw [List.drop_left]
theorem nodL_sub {l m : List Tr} (h : l.Sublist m) : nodL l ≤ nodL m := by
 induction h with
 | slnil => exact Nat.le_refl _
 | cons a _ ih => rw [nodL]; omega
 | cons_cons a _ ih => rw [nodL, nodL]; omega
theorem Good.vec {a : Tr} (h : Good a) (h4 : a.k = 4) : a.ks = [] ∧ a = .nd 4 0 ⟨#[]⟩ [] a.xs := by
 obtain ⟨k, n, t, ks, xs⟩ := a
 have h4' : k = 4 := h4
 rcases (good_iff.1 h).2 with h | ⟨h1, h2, h | h | h⟩ <;> simp only [Tr.k, Tr.n, Tr.t, Tr.ks, Tr.xs] at * <;> first | omega | skip
 obtain ⟨rfl, rfl⟩ := h
 subst h1 h2
 exact ⟨rfl, rfl⟩
theorem Good.mapD {a : Tr} (h : Good a) (h5 : a.k = 5) : a.ks.length = a.xs.length ∧ a.ks.Pairwise (fun a b => kb a < kb b) ∧ a = .nd 5 0 ⟨#[]⟩ a.ks a.xs := by
 obtain ⟨k, n, t, ks, xs⟩ := a
 have h5' : k = 5 := h5
 rcases (good_iff.1 h).2 with h | ⟨h1, h2, h | h | h⟩ <;> simp only [Tr.k, Tr.n, Tr.t, Tr.ks, Tr.xs] at * <;> first | omega | skip
 obtain ⟨rfl, h3, h4⟩ := h
 subst h1 h2
 exact ⟨h3, h4, rfl⟩
theorem Good.setD {a : Tr} (h : Good a) (h6 : a.k = 6) : a.ks = [] ∧ a.xs.Pairwise (fun a b => keyT a < keyT b) ∧ a = .nd 6 0 ⟨#[]⟩ [] a.xs := by
 obtain ⟨k, n, t, ks, xs⟩ := a
 have h6' : k = 6 := h6
 rcases (good_iff.1 h).2 with h | ⟨h1, h2, h | h | h⟩ <;> simp only [Tr.k, Tr.n, Tr.t, Tr.ks, Tr.xs] at * <;> first | omega | skip
 obtain ⟨rfl, rfl, h4⟩ := h
 subst h1 h2
 exact ⟨rfl, h4, rfl⟩
theorem fit_kind {k sk : Int} (h : fitT k sk = 0) : (sk = 0 ∧ k = 4) ∨ (sk = 1 ∧ k = 5) ∨ (sk = 2 ∧ k = 6) := by
 unfold fitT at h
 split at h
 ·split at h
  ·exact .inl ⟨by assumption, by assumption⟩
  ·cases h
 ·split at h
  ·split at h
   ·exact .inr (.inl ⟨by assumption, by assumption⟩)
   ·cases h
  ·split at h
   ·split at h
    ·exact .inr (.inr ⟨by assumption, by assumption⟩)
    ·cases h
   ·cases h
end Go.Proofs.YtpodmgihlomglaaGreatDoor
