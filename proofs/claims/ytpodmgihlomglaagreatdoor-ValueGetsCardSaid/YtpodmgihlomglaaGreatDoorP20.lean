import Derived.Test.YtpodmgihlomglaaGreatDoorP18
import Derived.Test.YtpodmgihlomglaaGreatDoorP19
import Derived.Lib.RowBridge
namespace Go.Proofs.YtpodmgihlomglaaGreatDoor
open Go.RowKit Go.Shelf Go.Lib Go.Sort
set_option maxRecDepth 1000000
set_option linter.unusedSimpArgs false
set_option maxHeartbeats 1000000 in
theorem hm_cmp (hs : ByteArray → Nat) (b1 b2 : Nat) (e1 e2 : Ent) (w : World) {fr1 fr2 : Nat × Nat} (h1 : w.heap[b1]? = some (.cells (entC hs e1) 168 fr1)) (h2 : w.heap[b2]? = some (.cells (entC hs e2) 168 fr2)) :
  Calls Tryz.prog 135 #[pv (some b1), pv (some b2)] w fun r w' => r = .returned (.int .i64 (orderS (kb e1.1) (kb e2.1))) ∧ ∃ q, w' = w.drewN q := by
 have c1 : w.cell? ⟨b1, 0, none⟩ = some (.string e1.1) := cell_in h1 rfl
 have c2 : w.cell? ⟨b2, 0, none⟩ = some (.string e2.1) := cell_in h2 rfl
 have HO := Lib.hid (fun w => q_Order e1.1 e2.1 w)
 unfold pv
 clear h1 h2
 go_enter Tryz.func135, Tryz.ntmps135
 go_upto_region 1 with fail
 go_quiet (first | (go_at_call 136; exact Calls.quiet_of_same ((HO.out _).mono fun _ _ h => ⟨h.1, h.2.symm⟩)))
 go_wp2_with fail
 go_ret
 exact ⟨rfl, _, rfl⟩
def cf2 {T : Type} (f : T → Ent) (x y : T) : Int := orderS (kb (f x).1) (kb (f y).1)
theorem cf2_lt {T : Type} (f : T → Ent) (x y : T) : ltOf (cf2 f) x y = decide (kb (f x).1 < kb (f y).1) := by
 have h := orderS_less (kb (f x).1) (kb (f y).1)
 have hr := orderS_range (kb (f x).1) (kb (f y).1)
 unfold ltOf cf2
 rw [decide_eq_decide, ← h]
 omega
theorem cf2_swo {T : Type} (f : T → Ent) : SWO (ltOf (cf2 f)) where
 irrefl x := by rw [cf2_lt, decide_eq_false_iff_not]; exact lt_irrefl_l _
 trans x y z h1 h2 := by
  rw [cf2_lt, decide_eq_true_eq] at h1 h2 ⊢
  exact List.lt_trans h1 h2
 ntrans x y z h1 h2 := by
  rw [cf2_lt, decide_eq_false_iff_not] at h1 h2 ⊢
  intro h3
  rcases tri (f x).1 (f y).1 with h | h | h
  ·exact h1 h
  ·rw [h] at h3; exact h2 h3
  ·exact h2 (List.lt_trans h h3)
theorem sw_type {α : Type} [Inhabited α] (enc : α → Value) (w : World) (blk off m : Nat) (dk : Array α) (os : Array Obj) {cur : Array Value} {T : TypeId} {fr : Nat × Nat} (h : w.heap[blk]? = some (.cells cur T fr)) : ∃ cur', (sortWorld enc w blk off m dk os).heap[blk]? = some (.cells cur' T fr) := by
 have hlt := (Array.getElem?_eq_some_iff.1 h).1
 unfold sortWorld grow putRow mapBlock
 simp only
 rw [Array.getElem?_append_left (by simp; exact hlt), Array.getElem?_modify, if_pos rfl]
 rw [show (Sort.ahead w m).heap = w.heap from rfl, h]
 exact ⟨_, rfl⟩
def TypedE (w : World) (v : Value) : Prop := ∀ (g n c : Nat), v = .slice (some ⟨g, 0, none⟩) n c → ∃ cur, w.heap[g]? = some (.cells cur 166 (0, 0))
theorem Eps.typed {B : Nat} {v : Value} {ps : List Nat} {w : World} (h : Eps B v ps w) : TypedE w v := by
 obtain ⟨⟨_, h2⟩, _⟩ := h
 rcases h2 with ⟨rfl, _⟩ | ⟨g, cap, cur, rfl, _, hg, _⟩
 ·intro g n c e
  cases e
 ·intro g' n c e
  simp only [Value.slice.injEq, Option.some.injEq, Addr.mk.injEq] at e
  obtain ⟨⟨rfl, _⟩, _⟩ := e
  exact ⟨cur, hg⟩
set_option maxHeartbeats 2000000 in
theorem hm_sort (hs : ByteArray → Nat) (S : Nat → Prop) (B : Nat) (w : World) (v : Value) (qs : List (Nat × Ent)) (he : Eps B v (qs.map (·.1)) w) (hq : ∀ q ∈ qs, EntAt hs S w q.1 q.2) (hn : qs.length ≤ 100000) :
  Calls Tryz.prog 134 #[v, .func (.func 135) #[] #[]] w fun r w' => r = .returned (.tuple #[]) ∧ ∃ qs' : List (Nat × Ent), qs'.Perm qs ∧ (qs'.map (·.2)).Pairwise (fun a b => ¬ kb b.1 < kb a.1) ∧ CutAt (fun g => B ≤ g) w' 1 v (en enE (qs'.map (·.1))) qs'.length ∧ TypedE w' v ∧ Ap B w w' := by
 rcases Nat.eq_zero_or_pos qs.length with h0 | h0
 ·obtain rfl : qs = [] := List.eq_nil_of_length_eq_zero h0
  have hc := ownsRow_cut he.1
  have hty := he.typed
  obtain ⟨a, c, rfl⟩ := he.len
  have h := AnyF.slices_SortFunc_none { Tryz.sortL with } a c (.func (.func 135) #[] #[]) w
  refine Calls.mono (P := Tryz.prog) (f := 134) h ?_
  rintro r w' ⟨rfl, rfl⟩
  exact ⟨rfl, [], List.Perm.refl _, List.Pairwise.nil, hc, hty, Ap.refl _ _⟩
 ·have hc0 := ownsRow_cut he.1
  obtain ⟨g, cp, cur, rfl, hB, hg, hcp, hcs⟩ : ∃ g c cur, v = .slice (some ⟨g, 0, none⟩) qs.length c ∧ B ≤ g ∧ w.heap[g]? = some (.cells cur 166 (0, 0)) ∧ qs.length ≤ c ∧ ∀ (j : Nat) (u : Value), (en enE (qs.map (·.1)))[j]? = some u → cur[j]? = some u := by
   obtain ⟨_, ⟨g, c, cur, rfl, h1, h2, h3, h4⟩⟩ := (ownsRow_headZ he.1 (by rw [List.length_map]; exact h0)).2.resolve_left (by rw [List.length_map]; omega)
   rw [List.length_map] at h1
   exact ⟨g, c, cur, by rw [List.length_map], h2, h3, h1, h4⟩
  have hin : Inhabited { q : Nat × Ent // q ∈ qs } := ⟨⟨qs[0], List.getElem_mem h0⟩⟩
  obtain ⟨d, hd⟩ : ∃ d : Array { q : Nat × Ent // q ∈ qs }, d = qs.attach.toArray := ⟨_, rfl⟩
  have hds : d.size = qs.length := by rw [hd]; simp
  have hdl : d.toList.map Subtype.val = qs := by rw [hd, List.toList_toArray]; exact List.attach_map_subtype_val qs
  have hda : ∀ j, j < d.size → qs[j]? = some (d[j]!).1 := fun j hj => by
   have e : (d.toList.map Subtype.val)[j]? = qs[j]? := congrArg (fun l => l[j]?) hdl
   refine e.symm.trans ?_
   rw [List.getElem?_map, Array.getElem?_toList, Array.getElem?_eq_getElem hj, getElem!_pos d j hj]
   rfl
  have hHo : Holds (fun q : { q : Nat × Ent // q ∈ qs } => pv (some q.1.1)) w g 0 d := fun j hj => by
   have hq := hcs j (pv (some (d[j]!).1.1)) (by rw [flat_ps, hda j hj]; rfl)
   refine ⟨by rw [Nat.zero_add]; exact cell_in hg hq, ?_⟩
   simp [World.frozen?, hg]
  have hne : ∀ q ∈ qs, q.1 ≠ g := fun q hq' e => by
   obtain ⟨_, fr, hx⟩ := hq q hq'
   rw [e, hg] at hx
   simp only [Option.some.injEq, Obj.cells.injEq] at hx
   exact absurd hx.2.1 (by decide)
  have hcmp : CmpReads Tryz.prog 135 #[] (fun q : { q : Nat × Ent // q ∈ qs } => pv (some q.1.1)) (cf2 fun q => q.1.2) g 0 d.size w := fun m os dk _ x y => by
   obtain ⟨_, fr, hx⟩ := hq x.1 x.2
   obtain ⟨_, fr', hy⟩ := hq y.1 y.2
   have hx2 := (sw_block (fun q : { q : Nat × Ent // q ∈ qs } => pv (some q.1.1)) w g 0 m dk os (Array.getElem?_eq_some_iff.1 hx).1 (hne x.1 x.2)).trans hx
   have hy2 := (sw_block (fun q : { q : Nat × Ent // q ∈ qs } => pv (some q.1.1)) w g 0 m dk os (Array.getElem?_eq_some_iff.1 hy).1 (hne y.1 y.2)).trans hy
   exact hm_cmp hs x.1.1 y.1.1 x.1.2 y.1.2 _ hx2 hy2
  have eg : ∀ args w, (callFunc 135 args).run Tryz.prog w = .ok (.enter 135 args) w := enters_of Tryz.func135 (by kernel_rfl) rfl
  have hcon := Any.slices_SortFunc Tryz.sortL (fun q : { q : Nat × Ent // q ∈ qs } => pv (some q.1.1)) (fun _ => rfl) (cf2 fun q => q.1.2) (cf2_swo _) 135 #[] g 0 cp d w eg hcmp.lays hHo (Array.getElem?_eq_some_iff.1 hg).1 (by rw [hds]; omega)
  change Calls Tryz.prog 134 _ _ _ at hcon
  rw [hds] at hcon
  refine hcon.mono ?_
  rintro r w' ⟨rfl, d', n, os, ⟨hsz, _, hperm⟩, hsort, rfl⟩
  have hd's : d'.size = qs.length := by rw [hsz, hds]
  have hp' : d'.toList.Perm d.toList := by
   have e1 : d'.extract 0 qs.length = d' := by rw [← hd's]; simp
   have e2 : d.extract 0 qs.length = d := by rw [← hds]; simp
   rw [e1, e2] at hperm
   exact hperm
  have hHo' := holds_sortWorld (fun q : { q : Nat × Ent // q ∈ qs } => pv (some q.1.1)) w g 0 n d d' os (Array.getElem?_eq_some_iff.1 hg).1 hHo (by rw [hsz])
  have hl' : (d'.toList.map Subtype.val).length = qs.length := by rw [List.length_map, Array.length_toList, hd's]
  refine ⟨rfl, d'.toList.map Subtype.val, ?_, ?_, ?_, ?_, ?_⟩
  ·have := hp'.map Subtype.val
   rwa [hdl] at this
  ·rw [List.map_map, List.pairwise_map, List.pairwise_iff_getElem]
   intro i j hi hj hij
   rw [Array.length_toList, hd's] at hi hj
   have h := hsort i j (Nat.zero_le _) hij hj
   rw [cf2_lt, decide_eq_false_iff_not, getElem!_pos d' j (by omega), getElem!_pos d' i (by omega)] at h
   simpa using h
  ·rw [hl']
   refine ⟨_, cp, rfl, hcp, by rw [en_len enE_len, List.length_map, hl'], .inr ⟨g, 0, rfl, hB, ?_, fun j u hu => ?_⟩⟩
   ·exact Nat.lt_of_lt_of_le (Array.getElem?_eq_some_iff.1 hg).1 (by simp [sortWorld, grow, putRow, mapBlock])
   ·rw [flat_ps] at hu
    obtain ⟨q, hq1, rfl⟩ := Option.map_eq_some_iff.1 hu
    have hj := (List.getElem?_eq_some_iff.1 hq1).1
    rw [hl'] at hj
    have h := (hHo' j (by omega)).1
    rw [List.getElem?_map, Array.getElem?_toList, Array.getElem?_eq_getElem (by omega)] at hq1
    rw [getElem!_pos d' j (by omega)] at h
    obtain rfl := Option.some.inj hq1
    exact h
  ·intro g' n' c' e
   simp only [Value.slice.injEq, Option.some.injEq, Addr.mk.injEq] at e
   obtain ⟨⟨rfl, _⟩, _⟩ := e
   exact sw_type _ w _ 0 n d' os hg
  ·exact ⟨sw_below _ w g 0 n d' os he.2 hB, fun k o hk ho => (sw_block _ w g 0 n d' os (Array.getElem?_eq_some_iff.1 hk).1 (fun e => by subst e; rw [hg] at hk; cases hk; exact ho _ _ rfl)).trans hk⟩
end Go.Proofs.YtpodmgihlomglaaGreatDoor
namespace Go.Proofs.YtpodmgihlomglaaGreatDoor
open Go.RowKit Go.Shelf
set_option maxRecDepth 1000000
set_option linter.unusedSimpArgs false
attribute [local go_sem] Oper.semAt_some
theorem sorted_eq {L M : List Ent} (hL : Rise L) (hp : M.Perm L) (hs : M.Pairwise fun a b => ¬ kb b.1 < kb a.1) : M = L := by
 have hd : M.Pairwise fun a b => a.1 ≠ b.1 := (List.Perm.pairwise_iff (R := fun (a b : Ent) => a.1 ≠ b.1) (fun h => Ne.symm h) hp).2 (List.Pairwise.imp (fun h => lt_ne h) hL)
 have hr : Rise M := by
  refine List.Pairwise.imp ?_ (List.Pairwise.and hs hd)
  rintro a b ⟨h1, h2⟩
  rcases tri a.1 b.1 with h | h | h
  ·exact h
  ·exact absurd h h2
  ·exact absurd h h1
 exact rise_perm hr hL hp
theorem eps_make_wp {o : Oper} {a : Act} {K : Act → World → Prop} {Q : Exit → Act → World → Prop} {w : World} (l c : Operand) (hop : o.op = .makeSlice 117 l c)
  {B : Nat} (kl kc : IntKind) (C : Int) (n : Nat) (hl : a.eval l = .int kl 0) (hc : a.eval c = .int kc C) (hC : C = (n : Int)) (hn : n ≤ 10000000) (hB : B ≤ w.heap.size)
  (h : ∀ w', Eps B (.slice (some ⟨w.heap.size, 0, none⟩) 0 n) [] w' → Below w.heap.size w w' → K (a.put o.dst (.slice (some ⟨w.heap.size, 0, none⟩) 0 n)) w') : o.wp Tryz.prog a w K Q := by
 obtain ⟨i, hi, hz, h1, h2⟩ := info_parts eptr_info
 obtain ⟨w', hrun, r1, r2⟩ := run_make_own (P := Tryz.prog) w B 117 166 i (.pointer none) 1 Tryz.underlying117 hi hz h1 kl kc n (by rw [h2]; omega) (by unfold maxLen; omega) hB
 subst hC
 unfold Oper.wp
 simp [execOp, hop, hl, hc, hrun, Result.andThen]
 have hb : Below w.heap.size w w' := (Below.refl _ _).grown r2 (Nat.le_refl _) (fun k hk => by cases hk)
 exact h w' ⟨r1, Nat.le_trans hB hb.size⟩ hb
theorem eps_new_lt {B g n : Nat} {w : World} (h : Eps B (.slice (some ⟨g, 0, none⟩) 0 n) [] w) : g < w.heap.size := by
 obtain ⟨cur, hc⟩ := h.typed g 0 n rfl
 exact (Array.getElem?_eq_some_iff.1 hc).1
def LstE (B : Nat) (w : World) (v : Value) (qs : List (Nat × Ent)) : Prop := ∃ (a : Option Addr) (c : Nat), v = .slice a qs.length c ∧ (0 < qs.length → ∃ g cur, a = some ⟨g, 0, none⟩ ∧ B ≤ g ∧ w.heap[g]? = some (.cells cur 166 (0, 0)) ∧ ∀ j (hj : j < qs.length), cur[j]? = some (pv (some qs[j].1)))
theorem lst_of {B B' : Nat} {w : World} {v : Value} {qs : List (Nat × Ent)} (hv : ∃ a c, v = .slice a qs.length c ∧ (∀ p, a = some p → p.off = 0 ∧ p.spot = none)) (hc : CutAt (fun g => B ≤ g) w 1 v (en enE (qs.map (·.1))) qs.length) (hT : TypedE w v) (hB : B' ≤ B) : LstE B' w v qs := by
 obtain ⟨a, c, rfl, h0⟩ := hv
 refine ⟨a, c, rfl, fun hp => ?_⟩
 obtain ⟨g, o, c', e, _, hg, _, hcell⟩ := hc.pos hp
 simp only [Value.slice.injEq] at e
 obtain ⟨rfl, _, rfl⟩ := e
 obtain ⟨rfl, _⟩ := h0 _ rfl
 obtain ⟨cur, hcur⟩ := hT g _ _ rfl
 refine ⟨g, cur, rfl, Nat.le_trans hB hg, hcur, fun j hj => ?_⟩
 have h := hcell j (pv (some qs[j].1)) (by rw [flat_ps, List.getElem?_eq_getElem hj]; rfl)
 rw [Nat.zero_add, Lib.cell_of_heap hcur] at h
 exact h
set_option maxHeartbeats 4000000 in
theorem hm_entries {S : Nat → Prop} (w : World) (s : Nat) (n : Int) (L : List Ent) (c : Array Value) (h : MapAt S w s n L c) (hL : Rise L) (hn : L.length ≤ 50000) (hT : Tab6 w) :
  Calls Tryz.prog 114 #[.agg c] w fun r w' => ∃ (v : Value) (qs : List (Nat × Ent)), r = .returned v ∧ qs.map (·.2) = L ∧ (∀ q ∈ qs, EntAt (hsN s n) (fun g => S g ∧ g < w.heap.size) w' q.1 q.2) ∧ LstE w.heap.size w' v qs ∧ Below w.heap.size w w' ∧ w.heap.size + 2 ≤ w'.heap.size := by
 have htn : 0 < w.heap.size := World.block_lt_of_cell? w _ (hT 0 (by decide))
 obtain ⟨bb, a1, n1, c1, a2, n2, c2, rfl, hnd⟩ := h
 obtain ⟨l, hl⟩ : ∃ l, l = L.length := ⟨_, rfl⟩
 rw [← hl]
 obtain ⟨w1, hw1⟩ : ∃ w1, w.alloc (.cells #[.int .u64 (s : Int), .int .i64 n, .int .i64 ((l : Nat) : Int), .int .u32 (bb : Int), .slice a1 n1 c1, .slice a2 n2 c2] 121) = w1 := ⟨_, rfl⟩
 obtain ⟨hb1, hx1, hs1⟩ := new_below hw1
 have HAPP : Hid (∀ W, Below w1.heap.size w1 W → ∀ v, Eps w.heap.size v [] W → Calls Tryz.prog 133 #[.agg #[.int .u32 (bb : Int), .slice a1 n1 c1, .slice a2 n2 c2], v] W (AppRes (hsN s n) (fun g => S g ∧ g < w.heap.size) w.heap.size W [] L)) := fun W hW v hv =>
  hm_app (hsN s n) 13 (Nat.le_refl _) (fun g => S g ∧ g < w.heap.size) w.heap.size W L _ v [] (fun g h => h.2) htn (hnd.old.later (tW hb1 hW)) hn hv (by simp) (hT.below (tW hb1 hW))
 have HX1 := Lib.hid hx1
 have HB1 := Lib.hid hb1
 have HS1 := Lib.hid hs1
 have HLN : Hid (l ≤ 50000) := by show _ ≤ _; omega
 have HL := Lib.hid (And.intro hL hl)
 have HKS : Hid (∀ V, Below w1.heap.size w1 V → (V.heap[w.heap.size]? = some (.cells #[.int .u64 (s : Int), .int .i64 n, .int .i64 ((l : Nat) : Int), .int .u32 (bb : Int), .slice a1 n1 c1, .slice a2 n2 c2] 121 (0, 0)) ∧ V.cell? ⟨w.heap.size, 2, none⟩ = some (.int .i64 (l : Int)))) := fun V hV => by
  have h := (hV.block _ (by have := HS1.out; omega)).trans HX1.out
  exact ⟨h, cell_in h rfl⟩
 have HW : Hid (Below w1.heap.size w1 w1.drew) := drawn_below w1
 clear hnd hx1 hb1 hs1 hT hn hL hl htn
 go_enter Tryz.func114, Tryz.ntmps114
 go_upto_region 1 with fail
 clear hw1
 refine wp_region_T (S := (fun V => V.heap[w.heap.size]? = some (.cells #[.int .u64 (s : Int), .int .i64 n, .int .i64 ((l : Nat) : Int), .int .u32 (bb : Int), .slice a1 n1 c1, .slice a2 n2 c2] 121 (0, 0)) ∧ V.cell? ⟨w.heap.size, 2, none⟩ = some (.int .i64 (l : Int)))) [] (by kernel_rfl) (by first | exact HKS.out _ HW.out | exact ⟨HX4.out, cell_in HX4.out rfl⟩) (fun hHeld => ?_)
 refine tkA 0 4 (h := ?_)
 refine tyA 1 5 (hy := yieldsIf_arr (by rfl) 119 _ rfl w.heap.size 3 rfl #[.int .u32 (bb : Int), .slice a1 n1 c1, .slice a2 n2 c2] _ (fun w hw => (map_range hw.1)) Tryz.underlying119 rfl (by exact nd_size)) (h := ?_)
 refine tkA 2 6 (h := ?_)
 refine tkA 3 7 (h := ?_)
 (try simp only [pq])
 refine tkO 4 (some 8) (h := fun K hK => ?_)
 rw [if_pos (by rfl)]
 refine eps_make_wp _ _ rfl (B := w.heap.size) .i64 .i64 _ l rfl rfl rfl (by have := HLN.out; omega) (by have := HW.out.size; have := HB1.out.size; omega) ?_
 intro w3 hi3 hb
 have HI3 := Lib.hid hi3
 have HG3 : Hid (w.heap.size + 1 ≤ w1.drew.heap.size) := by show _ ≤ _; have := HW.out.size; have := HS1.out; omega
 replace HW := Lib.hid (tW HW.out hb)
 have HSZ3 : Hid (w.heap.size + 2 ≤ w3.heap.size) := by
  show _ ≤ _
  have := eps_new_lt hi3
  have := HG3.out
  omega
 clear hi3 hb
 refine hK.out _ _ (by first | exact HKS.out _ HW.out | exact ⟨HX4.out, cell_in HX4.out rfl⟩) (fun hHeld => ?_)
 clear hK K
 (try simp only [pq])
 refine tkO 5 (some 9) (h := fun K hK => ?_)
 go_simp
 go_at_call 133
 refine (HAPP.out w3 (by exact HW.out) _ HI3.out).mono ?_
 rintro r w4 ⟨v4, qs4, rfl, hp4, hq4, he4, ha4⟩
 have HP4 := Lib.hid hp4
 have HQ4 := Lib.hid hq4
 have HE4 := Lib.hid he4
 have HA4 := Lib.hid ha4
 have HW4 : Hid (Below w.heap.size w1 w4) := by show Below _ _ _; exact (HW.out.mono HB1.out.size).trans ha4.below
 have HX4 : Hid (w4.heap[w.heap.size]? = some (.cells #[.int .u64 (s : Int), .int .i64 n, .int .i64 ((l : Nat) : Int), .int .u32 (bb : Int), .slice a1 n1 c1, .slice a2 n2 c2] 121 (0, 0))) := ha4.row ((HW.out.block _ (by have := HS1.out; omega)).trans HX1.out) (by decide)
 clear hp4 hq4 he4 ha4
 dsimp only
 refine hK.out _ _ (by first | exact HKS.out _ HW.out | exact ⟨HX4.out, cell_in HX4.out rfl⟩) (fun hHeld => ?_)
 clear hK K
 (try simp only [pq])
 refine tkA 6 3 (h := ?_)
 (try simp only [pq])
 refine wpAnyT_done (by kernel_rfl) ?_ _
 clear hHeld
 have hqn : qs4.length ≤ 50000 := by
  have h := HP4.out.length_eq
  rw [List.length_map] at h
  have := HLN.out
  have := HL.out.2
  omega
 have HE4' : Hid (Eps w.heap.size v4 (qs4.map (·.1)) w4) := HE4.out
 have hsrt := hm_sort (hsN s n) (fun g => S g ∧ g < w.heap.size) w.heap.size w4 v4 qs4 HE4'.out HQ4.out (by omega)
 have HSRT := Lib.hid hsrt
 clear hsrt
 go_wp2_with (go_at_call 134; (with_reducible refine HSRT.out.mono ?_); rintro r w5 ⟨rfl, qs5, hp5, hs5, hc5, ht5, ha5⟩; have HR5 := Lib.hid (And.intro hp5 (And.intro hs5 (And.intro hc5 (And.intro ht5 ha5)))); clear hp5 hs5 hc5 ht5 ha5)
 obtain ⟨hp5, hs5, hc5, ht5, ha5⟩ := HR5.out
 have hlen5 : qs5.length = qs4.length := hp5.length_eq
 have hv : ∃ a c, v4 = .slice a qs5.length c ∧ (∀ p, a = some p → p.off = 0 ∧ p.spot = none) := by
  obtain ⟨⟨_, h2⟩, _⟩ := HE4'.out
  rw [List.length_map] at h2
  rcases h2 with ⟨rfl, h2⟩ | ⟨g, cap, cur, rfl, _⟩
  ·exact ⟨none, 0, by rw [hlen5, h2], fun p e => by cases e⟩
  ·exact ⟨_, _, by rw [hlen5], fun p e => by cases e; exact ⟨rfl, rfl⟩⟩
 have hbw5 : Below w.heap.size w w5 := (HB1.out.trans HW4.out).trans ha5.below
 have hfin : ∃ (v : Value) (qs : List (Nat × Ent)), Ending.returned v4 = .returned v ∧ qs.map (·.2) = L ∧ (∀ q ∈ qs, EntAt (hsN s n) (fun g => S g ∧ g < w.heap.size) w5 q.1 q.2) ∧ LstE w.heap.size w5 v qs ∧ Below w.heap.size w w5 ∧ w.heap.size + 2 ≤ w5.heap.size := by
  refine ⟨v4, qs5, rfl, sorted_eq HL.out.1 ((hp5.map _).trans HP4.out) hs5, fun q hq => ?_, lst_of hv hc5 ht5 (Nat.le_refl _), hbw5, ?_⟩
  ·exact (HQ4.out q (hp5.mem_iff.1 hq)).kp (ha5.kp fun g h => h.2)
  ·have h1 := HSZ3.out
   have h2 := HA4.out.below.size
   have h3 := ha5.below.size
   omega
 go_ret
 exact hfin
end Go.Proofs.YtpodmgihlomglaaGreatDoor
namespace Go.Proofs.YtpodmgihlomglaaGreatDoor
open Go.RowKit
set_option maxRecDepth 1000000
set_option linter.unusedSimpArgs false
def hgt (w : World) (N : Nat) : Nat := match w.cell? ⟨N, 1, none⟩ with | some (.int _ x) => x.toNat | _ => 0
theorem hgt_of {w : World} {N h : Nat} {p : Kid} {T : TypeId} {fr : Nat × Nat} (hN : w.heap[N]? = some (.cells (kidc h p).toArray T fr)) : hgt w N = h + 1 := by
 unfold hgt
 rw [cell_in (j := 1) (v := .int .i64 ((h + 1 : Nat) : Int)) hN rfl]
 simp
theorem getD_mid {A B C : List Cel} {r : Nat} (hr : r < B.length) : (A ++ B ++ C).getD (A.length + r) zeroV = B.getD r zeroV := by
 rw [List.getD_eq_getElem?_getD, List.getD_eq_getElem?_getD, List.getElem?_append_left (by rw [List.length_append]; omega), List.getElem?_append_right (by omega), Nat.add_sub_cancel_left]
set_option maxHeartbeats 4000000 in
theorem rp_Get_in {S : Nat → Prop} {c : Array Value} {l : List Cel} (W : World) (h : RootR S W c l) (i : Nat) (hi : i < l.length) (hN : l.length ≤ 200000) :
    Calls Tryz.prog 88 #[.agg c, .int .i64 (i : Int)] W fun e W' => e = .returned (.tuple #[.agg (celC (l.getD i zeroV)), .bool true]) ∧ Below W.heap.size W W' := by
  obtain ⟨w1, hw1⟩ : ∃ w1, (W.alloc (.cells c 112)).alloc (.cells #[.int .i64 0, .int .i64 0, .string ⟨#[]⟩, .pointer none] 35) = w1 := ⟨_, rfl⟩
  obtain ⟨hb1, hx1, hy1, hs1⟩ := two_new hw1
  have HY1 := Lib.hid hy1
  have HX1 := Lib.hid hx1
  have HB1 := Lib.hid hb1
  have HS1 := Lib.hid hs1
  have HS := Lib.hid h.size
  have HONE := Lib.hid h.one
  have HH := Lib.hid (rp_has w1 (h.later hb1) (i : Int))
  rw [show decide (0 ≤ (i : Int) ∧ (i : Int) < l.length) = true by simp; omega] at HH
  have HR : Hid (∃ hh p, c = (kidc hh p).toArray ∧ NodeR (fun g => g < W.heap.size) W hh p ∧ i < p.l.length ∧ p.l.getD i zeroV = l.getD i zeroV ∧ p.l.length ≤ 200000) := by
    rcases h.old with ⟨rfl, rfl⟩ | ⟨hh, p, e1, rfl, h3, h4⟩
    · simp at hi
    · exact ⟨hh, p, e1, h3.weak fun g hg => hg.2, hi, rfl, hN⟩
  obtain ⟨v, hv⟩ : ∃ v, v = l.getD i zeroV := ⟨_, rfl⟩
  rw [← hv] at HR ⊢
  clear hb1 hx1 hy1 hs1 h hi hN hv
  go_enter Tryz.func88, Tryz.ntmps88
  go_upto_region 1 with fail
  clear hw1
  go_wp2_with (first
    | (refine ld_if rfl 112 _ rfl W.heap.size rfl 112 _ _ _ HX1.out Tryz.underlying112 rfl (by rw [HS.out]; exact rope_size) ?_)
    | (go_at_call 97
       refine HH.out.mono ?_
       rintro e w3 ⟨rfl, hb3⟩
       have HX3 := Lib.hid ((hb3.block W.heap.size (by have := HS1.out; omega)).trans HX1.out)
       have HY3 := Lib.hid ((hb3.block (W.heap.size + 1) (by have := HS1.out; omega)).trans HY1.out)
       have HS3 : Hid (W.heap.size + 2 ≤ w3.heap.size) := (by have h1 := HS1.out; have h2 := hb3.size; show _ ≤ _; omega)
       have HB3 := Lib.hid (tW HB1.out hb3)
       clear hb3)
    | (refine ld_if rfl 110 _ rfl W.heap.size rfl 112 _ _ _ HX3.out Tryz.underlying110 rfl (by rw [HS.out]; exact rnode_size) ?_)
    | (refine st_agg rfl 110 _ _ rfl w3.heap.size c rfl rfl 110 _ (heap_alloc_last _ _) (by rw [HS.out]; exact rnode_size) (by rw [HS.out]; rfl) HONE.out ?_; intro w4 h4 k4; have HN4 := Lib.hid h4; have HK4 : Hid (Below w3.heap.size w3 w4) := (Below.newly' _ _).trans (k4.below (Nat.le_refl _)); clear h4 k4))
  obtain ⟨N, hNN⟩ : ∃ N, N = w3.heap.size := ⟨_, rfl⟩
  have HNW : Hid (W.heap.size + 2 ≤ N) := by show _ ≤ _; rw [hNN]; exact HS3.out
  have HB4 := Lib.hid (tW HB3.out HK4.out)
  have HY4 := Lib.hid ((HK4.out.block (W.heap.size + 1) (by have := HS3.out; omega)).trans HY3.out)
  rw [← hNN] at HN4 ⊢
  clear hNN HK4
  obtain ⟨hh, p, rfl, hp, hip, hpv, hpl⟩ := HR.out
  simp only [Act.put]
  go_loopw [1] (fun iv wr => ∃ (hh : Nat) (p : Kid) (r : Nat), iv = .int .i64 (r : Int) ∧ Hid (wr.heap[N]? = some (.cells (kidc hh p).toArray 110 (0, 0))) ∧ Hid (NodeR (fun g => g < W.heap.size) wr hh p ∧ r < p.l.length ∧ p.l.getD r zeroV = v ∧ p.l.length ≤ 200000) ∧ Hid (wr.heap[W.heap.size + 1]? = some (.cells #[.int .i64 0, .int .i64 0, .string ⟨#[]⟩, .pointer none] 35 (0, 0))) ∧ Hid (Below W.heap.size W wr)) (fun _ wr => hgt wr N)
  case atStart => exact ⟨hh, p, i, rfl, HN4, ⟨hp.low HB4.out, hip, hpv, hpl⟩, HY4, HB4⟩
  case round =>
    clear HR hp hip hpv hpl HN4 HB4 HX3 HB3 HB1 HX1 HS1 HH HS HONE HY4 HY3 HY1 HS3
    obtain ⟨hh, q, r, rfl, HN, HP, HY, HB⟩ := hrel
    obtain ⟨hq, hrq, hqv, hql⟩ := HP.out
    cases hh with
    | zero =>
      obtain ⟨hqa, hqk, hq1, hq16, hqh⟩ := hq
      obtain ⟨g, cp, cur, fr, hqb, hcap, hS, hg, hcs⟩ := hqh.pos hq1
      have ca2 : wr.cell? ⟨N, 2, none⟩ = some (.slice none 0 0) := by rw [← hqa]; exact cell_in HN.out rfl
      have ca3 : wr.cell? ⟨N, 3, none⟩ = some (.slice (some ⟨g, 0, none⟩) q.k cp) := by rw [← hqb]; exact cell_in HN.out rfl
      have HRV : Hid (wr.rangeAt g (r * 4) (enV v)) := fun k u hu => by
        have hk : k < 4 := (List.getElem?_eq_some_iff.1 hu).1
        have hqr : q.l[r]? = some v := by rw [List.getElem?_eq_getElem hrq, ← hqv, List.getD_eq_getElem?_getD, List.getElem?_eq_getElem hrq]; rfl
        refine cell_in hg (hcs _ u ?_)
        rw [en_at enV_len q.l r k v hqr hk]
        exact hu
      obtain ⟨n, hn⟩ : ∃ n, n = q.k := ⟨_, rfl⟩
      rw [← hn] at ca3
      have hrn : r < n := by omega
      have hri : (r : Int) < (n : Int) := by omega
      have hnil := nodes_none'
      clear hqa hqk hq1 hq16 hqh hqb hcap hS hg hcs hrq hqv hql hn HP HN
      go_wp2_with (first
        | (refine wpList_load_mid rfl 35 _ rfl g (r * 4) rfl (enV v) _ HRV.out Tryz.underlying35 rfl val_size ?_)
        | (refine st_agg rfl 35 _ _ rfl (W.heap.size + 1) (celC v) rfl rfl 35 _ HY.out val_size rfl (celC_one v) ?_; intro w6 h6 k6))
      exact bodyPost_ret (results_cell_row1 rfl _ _ (W.heap.size + 1) 35 _ (0, 0) _ rfl h6 Tryz.underlying35 rfl val_size) rfl ⟨rfl, HB.out.trans (k6.below (by omega))⟩
    | succ h' =>
      obtain ⟨hqb, hk1, hk16, ks, hhd, hkl, hl, hks⟩ := hq
      obtain ⟨n, hn⟩ : ∃ n, n = q.k := ⟨_, rfl⟩
      rw [← hn] at hk1 hk16 hhd hkl
      have HWAY := Lib.hid (rp_way wr h' n r q ks hhd hkl hk1 hk16 (by rw [← hl]; omega) (by rw [← hl]; omega))
      obtain ⟨g, cp, cur, fr, hqa, hcap, hS, hg, hcs⟩ := hhd.pos hk1
      have ca2 : wr.cell? ⟨N, 2, none⟩ = some (.slice (some ⟨g, 0, none⟩) n cp) := by rw [← hqa]; exact cell_in HN.out rfl
      have HRG : Hid (∀ k (hk : k < ks.length), wr.rangeAt g (k * 4) (kidc h' ks[k])) := fun k hk => en_range (h := h') hg hcs hk
      have HKS := Lib.hid hks
      have HL := Lib.hid (And.intro hl (And.intro hkl (And.intro hrq (And.intro hqv hql))))
      have hnil := fun w => nodes_some' ⟨g, 0, none⟩ n cp w
      have hn16 : (n : Int) ≤ 16 := by omega
      have HLT : Hid (N < wr.heap.size) := (Array.getElem?_eq_some_iff.1 HN.out).1
      clear hqb hk1 hk16 hhd hkl hl hks hqa hcap hS hg hcs hrq hqv hql hn HP
      go_upto_region 8 with (first
        | (refine ld_if rfl 110 _ rfl N rfl 110 _ _ _ HN.out Tryz.underlying110 rfl rnode_size ?_)
        | (go_at_call 115; refine HWAY.out.mono ?_; rintro e w5 ⟨k, s, rfl, hwy, hb5⟩; have HWYY := Lib.hid hwy; have HB5 := Lib.hid hb5; clear hwy hb5))
      obtain ⟨hkk, hir, hr1, hr2⟩ := HWYY.out
      obtain ⟨hl, hkl, hrq, hqv, hql⟩ := HL.out
      have hrl := hr2 (by rw [← hl]; exact hrq)
      have hb5 := HB5.out
      have ca5 : w5.cell? ⟨N, 2, none⟩ = some (.slice (some ⟨g, 0, none⟩) n cp) := (hb5.cell (p := ⟨N, 2, none⟩) HLT.out).trans ca2
      have HRG5 : Hid (w5.rangeAt g (k * 4) (kidc h' ks[k])) := range_later (HRG.out k hkk) hb5
      have HN5 := Lib.hid ((hb5.block N HLT.out).trans HN.out)
      have HY5 := Lib.hid ((hb5.block (W.heap.size + 1) (by have := HLT.out; have := HNW.out; omega)).trans HY.out)
      have HBB5 := Lib.hid (tW HB.out hb5)
      have HQ5 : Hid (NodeR (fun g => g < W.heap.size) w5 h' ks[k] ∧ s < ks[k].l.length ∧ ks[k].l.getD s zeroV = v ∧ ks[k].l.length ≤ 200000) := by
        refine ⟨((HKS.out _ (List.getElem_mem hkk)).2.old.later hb5).weak fun g hg => hg.1, hrl, ?_, ?_⟩
        · rw [← hqv, hl, cat_split hkk, hir, getD_mid hrl]
        · have h1 := congrArg List.length (cat_split hkk)
          rw [List.length_append, List.length_append, ← hl] at h1
          omega
      obtain ⟨y, hy⟩ : ∃ y, y = ks[k] := ⟨_, rfl⟩
      rw [← hy] at HRG5 HQ5
      have hkn : (k : Int) < (n : Int) := by omega
      have hkn' : k < n := by omega
      clear hkk hir hr1 hr2 hl hkl hrq hqv hql hrl hb5 hy ca2 HWYY HL HKS HRG HB5 HWAY
      go_wp2_with (first
        | (refine wpList_load_mid rfl 110 _ rfl g (k * 4) rfl (kidc h' y) _ HRG5.out Tryz.underlying110 rfl rnode_size ?_)
        | (refine st_agg rfl 110 _ _ rfl N (kidc h' y).toArray rfl rfl 110 _ HN5.out rnode_size rfl (kid_one h' y) ?_; intro w6 h6 k6; have HN6 := Lib.hid h6; have HK6 := Lib.hid k6; clear h6 k6))
      (try simp only [pq])
      go_roundw
      case rel =>
        refine ⟨h', y, s, rfl, HN6, ⟨?_, HQ5.out.2⟩, HK6.out.other HY5.out (by have := HNW.out; omega), ?_⟩
        · exact HQ5.out.1.kept HK6.out.by_ (fun X e => by cases e; intro h; have := HNW.out; omega)
        · exact HBB5.out.trans (HK6.out.below (by have := HNW.out; omega))
      case measure =>
        rw [hgt_of HN6.out, hgt_of HN.out]
        omega
set_option maxHeartbeats 1000000 in
theorem rp_Get_out {S : Nat → Prop} {c : Array Value} {l : List Cel} (W : World) (h : RootR S W c l) (i : Int) (hi : ¬ (0 ≤ i ∧ i < l.length)) :
    Calls Tryz.prog 88 #[.agg c, .int .i64 i] W fun e W' => e = .returned (.tuple #[.agg (celC zeroV), .bool false]) ∧ Below W.heap.size W W' := by
  obtain ⟨w1, hw1⟩ : ∃ w1, (W.alloc (.cells c 112)).alloc (.cells #[.int .i64 0, .int .i64 0, .string ⟨#[]⟩, .pointer none] 35) = w1 := ⟨_, rfl⟩
  obtain ⟨hb1, hx1, hy1, hs1⟩ := two_new hw1
  have HY1 := Lib.hid hy1
  have HX1 := Lib.hid hx1
  have HB1 := Lib.hid hb1
  have HS1 := Lib.hid hs1
  have HS := Lib.hid h.size
  have HH := Lib.hid (rp_has w1 (h.later hb1) i)
  rw [show decide (0 ≤ i ∧ i < l.length) = false by simpa using hi] at HH
  clear hb1 hx1 hy1 hs1 h hi
  go_enter Tryz.func88, Tryz.ntmps88
  go_upto_region 1 with fail
  clear hw1
  go_wp2_with (first
    | (refine ld_if rfl 112 _ rfl W.heap.size rfl 112 _ _ _ HX1.out Tryz.underlying112 rfl (by rw [HS.out]; exact rope_size) ?_)
    | (go_at_call 97
       refine HH.out.mono ?_
       rintro e w3 ⟨rfl, hb3⟩
       have HB3 := Lib.hid (tW HB1.out hb3)
       have HY3 := Lib.hid ((hb3.block (W.heap.size + 1) (by have := HS1.out; omega)).trans HY1.out)
       have HL3 : Hid (W.heap.size + 1 < w3.heap.size) := (by have h1 := HS1.out; have h2 := hb3.size; show _ < _; omega)
       clear hb3)
    | (refine ld_if rfl 35 _ rfl w3.heap.size rfl 35 _ _ _ (heap_alloc_last _ _) Tryz.underlying35 rfl val_size ?_)
    | (refine st_agg rfl 35 _ _ rfl (W.heap.size + 1) #[.int .i64 0, .int .i64 0, .string ⟨#[]⟩, .pointer none] rfl rfl 35 _ (((Below.newly' w3 _).block _ HL3.out).trans HY3.out) val_size rfl (by simp [Value.oneCell']) ?_; intro w6 h6 k6))
  exact bodyPost_ret (results_cell_row1 rfl _ _ (W.heap.size + 1) 35 _ (0, 0) _ rfl h6 Tryz.underlying35 rfl val_size) rfl ⟨rfl, (HB3.out.trans ((Below.newly' w3 _).mono HB3.out.size)).trans (k6.below (by omega))⟩
theorem rp_Get {S : Nat → Prop} {c : Array Value} {l : List Cel} (W : World) (h : RootR S W c l) (i : Int) (hN : l.length ≤ 200000) :
  Calls Tryz.prog 88 #[.agg c, .int .i64 i] W fun e W' => e = .returned (.tuple #[.agg (celC (if 0 ≤ i ∧ i < l.length then l.getD i.toNat zeroV else zeroV)), .bool (decide (0 ≤ i ∧ i < l.length))]) ∧ Below W.heap.size W W' := by
 by_cases hi : 0 ≤ i ∧ i < l.length
 ·obtain ⟨j, rfl⟩ : ∃ j : Nat, i = (j : Int) := ⟨i.toNat, by omega⟩
  rw [if_pos hi, decide_eq_true hi, Int.toNat_natCast]
  exact rp_Get_in W h j (by omega) hN
 ·rw [if_neg hi, decide_eq_false hi]
  exact rp_Get_out W h i hi
def insF (acc : List Ent) (Z : List Ent) : List Ent := Z.foldl (fun L e => insE L e.1 e.2) acc
theorem insF_cons (acc : List Ent) (e : Ent) (Z : List Ent) : insF acc (e :: Z) = insF (insE acc e.1 e.2) Z := rfl
theorem insF_snoc (acc : List Ent) (Z : List Ent) (e : Ent) : insF acc (Z ++ [e]) = insE (insF acc Z) e.1 e.2 := by
 unfold insF
 rw [List.foldl_append]
 rfl
theorem insF_rise : ∀ (Z acc : List Ent), Rise acc → Rise (insF acc Z)
 | [], _, h => h
 | e :: Z, _, h => by
  rw [insF_cons]
  exact insF_rise Z _ (h.ins _ _)
theorem get_some_mem {L : List Ent} {k : ByteArray} : (getE L k).isSome = true ↔ ∃ e ∈ L, e.1 = k := by
 cases h : getE L k with
 | none =>
  rw [get_none] at h
  simp only [Option.isSome_none, Bool.false_eq_true, false_iff]
  rintro ⟨e, he, rfl⟩
  exact h e he rfl
 | some x =>
  simp only [Option.isSome_some, true_iff]
  refine Decidable.byContradiction fun hn => ?_
  have : getE L k = none := get_none.2 fun e he he' => hn ⟨e, he, he'⟩
  rw [h] at this
  cases this
theorem get_ins_some {L : List Ent} {j k : ByteArray} {x : Cel} : (getE (insE L k x) j).isSome = true ↔ j = k ∨ (getE L j).isSome = true := by
 rw [get_some_mem, get_some_mem]
 constructor
 ·rintro ⟨e, he, rfl⟩
  rcases mem_ins.1 he with rfl | ⟨h, _⟩
  ·exact .inl rfl
  ·exact .inr ⟨e, h, rfl⟩
 ·rintro (rfl | ⟨e, he, rfl⟩)
  ·exact ⟨(j, x), mem_ins.2 (.inl rfl), rfl⟩
  ·by_cases hk : e.1 = k
   ·exact ⟨(k, x), mem_ins.2 (.inl rfl), hk.symm⟩
   ·exact ⟨e, mem_ins.2 (.inr ⟨he, hk⟩), rfl⟩
theorem insF_len : ∀ (Z acc : List Ent), Rise acc → (insF acc Z).length ≤ acc.length + Z.length ∧ ((insF acc Z).length = acc.length + Z.length ↔ (Z.map (·.1)).Nodup ∧ ∀ e ∈ Z, (getE acc e.1).isSome = false)
 | [], acc, _ => by simp [insF]
 | e :: Z, acc, h => by
  obtain ⟨h1, h2⟩ := insF_len Z _ (h.ins e.1 e.2)
  have h3 := len_ins h e.1 e.2
  rw [insF_cons, List.length_cons, List.map_cons, List.nodup_cons]
  by_cases hs : (getE acc e.1).isSome = true
  ·rw [if_pos hs] at h3
   refine ⟨by omega, ⟨fun h4 => by omega, fun h4 => ?_⟩⟩
   have := h4.2 e (List.mem_cons_self ..)
   rw [hs] at this
   cases this
  ·rw [if_neg hs] at h3
   refine ⟨by omega, ?_⟩
   have e1 : (insF (insE acc e.1 e.2) Z).length = acc.length + (Z.length + 1) ↔ (insF (insE acc e.1 e.2) Z).length = (insE acc e.1 e.2).length + Z.length := by rw [h3]; omega
   rw [e1, h2]
   constructor
   ·rintro ⟨a1, a2⟩
    refine ⟨⟨fun hm => ?_, a1⟩, fun x hx => ?_⟩
    ·obtain ⟨x, hx, hxe⟩ := List.mem_map.1 hm
     have := a2 x hx
     rw [Bool.eq_false_iff] at this
     exact this (get_ins_some.2 (.inl hxe))
    ·rcases List.mem_cons.1 hx with rfl | hx
     ·simpa using hs
     ·have := a2 x hx
      rw [Bool.eq_false_iff] at this ⊢
      exact fun h' => this (get_ins_some.2 (.inr h'))
   ·rintro ⟨⟨a1, a2⟩, a3⟩
    refine ⟨a2, fun x hx => ?_⟩
    rw [Bool.eq_false_iff]
    intro h'
    rcases get_ins_some.1 h' with h' | h'
    ·exact a1 (List.mem_map.2 ⟨x, hx, h'⟩)
    ·have := a3 x (List.mem_cons_of_mem _ hx)
     rw [h'] at this
     cases this
theorem insF_mem : ∀ (Z acc : List Ent), (Z.map (·.1)).Nodup → (∀ e ∈ Z, ∀ d ∈ acc, d.1 ≠ e.1) → ∀ e, e ∈ insF acc Z ↔ e ∈ acc ∨ e ∈ Z
 | [], acc, _, _, e => by simp [insF]
 | d :: Z, acc, hn, ha, e => by
  rw [List.map_cons, List.nodup_cons] at hn
  rw [insF_cons, insF_mem Z _ hn.2 (fun x hx y hy => ?_), mem_ins, List.mem_cons]
  ·constructor
   ·rintro ((h | h) | h)
    ·exact .inr (.inl h)
    ·exact .inl h.1
    ·exact .inr (.inr h)
   ·rintro (h | h | h)
    ·exact .inl (.inr ⟨h, ha d (List.mem_cons_self ..) e h⟩)
    ·exact .inl (.inl h)
    ·exact .inr h
  ·rcases mem_ins.1 hy with rfl | ⟨hy, _⟩
   ·intro h
    exact hn.1 (List.mem_map.2 ⟨x, hx, h.symm⟩)
   ·exact ha x (List.mem_cons_of_mem _ hx) y hy
def insM (Z : List Ent) : List Ent := insF [] Z
abbrev kbE (e : Ent) : List UInt8 := kb e.1
theorem insM_rise (Z : List Ent) : Rise (insM Z) := insF_rise Z [] Rise.nil
theorem insM_len (Z : List Ent) : (insM Z).length ≤ Z.length ∧ ((insM Z).length = Z.length ↔ (Z.map (·.1)).Nodup) := by
 obtain ⟨h1, h2⟩ := insF_len Z [] Rise.nil
 simp only [List.length_nil, Nat.zero_add] at h1 h2
 refine ⟨h1, h2.trans ⟨fun h => h.1, fun h => ⟨h, fun e _ => ?_⟩⟩⟩
 simp [getE]
theorem insM_srt {Z : List Ent} (h : (Z.map (·.1)).Nodup) : insM Z = srtB kbE Z := by
 have hk : (Z.map kbE).Nodup := by
  have := nodup_kb.2 h
  rwa [List.map_map] at this
 have h1 : RiseB kbE (srtB kbE Z) := srt_rise hk
 refine rise_mem (insM_rise Z) h1 fun e => ?_
 rw [(srt_perm (f := kbE) Z).mem_iff]
 exact (insF_mem Z [] h (fun _ _ _ hd => (by cases hd)) e).trans (by simp)
theorem tw_map {β γ : Type} (p : γ → Bool) (g : β → γ) : ∀ l : List β, (l.map g).takeWhile p = (l.takeWhile (p ∘ g)).map g ∧ (l.map g).dropWhile p = (l.dropWhile (p ∘ g)).map g
 | [] => ⟨rfl, rfl⟩
 | a :: l => by
  obtain ⟨h1, h2⟩ := tw_map p g l
  rw [List.map_cons, List.takeWhile_cons, List.dropWhile_cons, List.takeWhile_cons, List.dropWhile_cons]
  by_cases h : p (g a) = true
  ·rw [if_pos h, if_pos h, if_pos (show (p ∘ g) a = true from h), if_pos (show (p ∘ g) a = true from h), h1, h2]
   exact ⟨rfl, rfl⟩
  ·rw [if_neg h, if_neg h, if_neg (show ¬ (p ∘ g) a = true from h), if_neg (show ¬ (p ∘ g) a = true from h)]
   exact ⟨rfl, rfl⟩
theorem putB_map {β γ : Type} (g : β → γ) (f : γ → List UInt8) (l : List β) (x : β) : putB f (l.map g) (g x) = (putB (fun y => f (g y)) l x).map g := by
 unfold putB
 obtain ⟨h1, h2⟩ := tw_map (fun y => decide (f y < f (g x))) g l
 rw [h1, h2, List.map_append, List.map_cons]
 rfl
theorem srt_map {β γ : Type} (g : β → γ) (f : γ → List UInt8) (l : List β) : srtB f (l.map g) = (srtB (fun y => f (g y)) l).map g := by
 unfold srtB
 have : ∀ (l acc : List β), (l.map g).foldl (putB f) (acc.map g) = (l.foldl (putB fun y => f (g y)) acc).map g := by
  intro l
  induction l with
  | nil => intro acc; rfl
  | cons a l ih =>
   intro acc
   rw [List.map_cons, List.foldl_cons, List.foldl_cons, putB_map, ih]
 exact this l []
def sortM (ks : List ByteArray) (xs : List Tr) (l : List Cel) : List (ByteArray × Tr × Cel) := srtB (fun p => kb p.1) (ks.zip (xs.zip l))
theorem sortM_tree (ks : List ByteArray) (xs : List Tr) (l : List Cel) (hl : l.length = xs.length) : srtB kbF (ks.zip xs) = (sortM ks xs l).map fun p => (p.1, p.2.1) := by
 have e : ks.zip xs = (ks.zip (xs.zip l)).map fun p => (p.1, p.2.1) := by
  have h := zip_fst xs l (by omega)
  conv => lhs; rw [← h]
  rw [List.zip_map_right]
  apply List.map_congr_left
  intro p _
  rfl
 rw [e, srt_map]
 rfl
theorem sortM_cel (ks : List ByteArray) (xs : List Tr) (l : List Cel) (hl : l.length = xs.length) (hk : ks.length = xs.length) (hn : ks.Nodup) : insM (ks.zip l) = (sortM ks xs l).map fun p => (p.1, p.2.2) := by
 have e : ks.zip l = (ks.zip (xs.zip l)).map fun p => (p.1, p.2.2) := by
  have h := zip_snd xs l (by omega)
  conv => lhs; rw [← h]
  rw [List.zip_map_right]
  apply List.map_congr_left
  intro p _
  rfl
 rw [insM_srt (by rw [zip_fst ks l (by omega)]; exact hn), e, srt_map]
 rfl
theorem sortM_mem {ks : List ByteArray} {xs : List Tr} {l : List Cel} {p : ByteArray × Tr × Cel} (h : p ∈ sortM ks xs l) : p.2 ∈ xs.zip l :=
 (List.of_mem_zip ((srt_perm (f := fun p : ByteArray × Tr × Cel => kb p.1) _).mem_iff.1 h)).2
def sortS (xs : List Tr) (l : List Cel) : List (Tr × Cel) := srtB (fun p => keyT p.1) (xs.zip l)
theorem sortS_tree (xs : List Tr) (l : List Cel) (hl : l.length = xs.length) : srtB keyT xs = (sortS xs l).map (·.1) := by
 have h := zip_fst xs l (by omega)
 conv => lhs; rw [← h]
 rw [srt_map]
 rfl
theorem nodup_kB {xs : List Tr} : (xs.map kB).Nodup ↔ (xs.map keyT).Nodup := by
 rw [← nodup_kb, List.map_map]
 have : (kb ∘ kB) = keyT := funext fun a => kb_kB a
 rw [this]
theorem sortS_cel (xs : List Tr) (l : List Cel) (hl : l.length = xs.length) (hn : (xs.map keyT).Nodup) : insM ((xs.map kB).zip l) = (sortS xs l).map fun p => (kB p.1, p.2) := by
 have e : (xs.map kB).zip l = (xs.zip l).map fun p => (kB p.1, p.2) := by
  rw [List.zip_map_left]
  apply List.map_congr_left
  intro p _
  rfl
 rw [insM_srt (by rw [zip_fst _ l (by simpa using hl.symm)]; exact nodup_kB.2 hn), e, srt_map]
 unfold sortS
 congr 2
theorem sortS_mem {xs : List Tr} {l : List Cel} {p : Tr × Cel} (h : p ∈ sortS xs l) : p ∈ xs.zip l := (srt_perm (f := fun p : Tr × Cel => keyT p.1) _).mem_iff.1 h
theorem compact_rise {l : List (List UInt8)} (h : l.Pairwise fun a b => a ≤ b) : (Lib.compact l).length < l.length ↔ ¬ l.Nodup := by
 have hle := Lib.compact_length_le l
 have key : (Lib.compact l).length = l.length ↔ ∀ j, j < l.length → Lib.keeps l.toArray j = true := by
  unfold Lib.compact Lib.compactUpTo
  rw [List.length_map]
  have h1 := List.length_filter_eq_length_iff (p := Lib.keeps l.toArray) (l := List.range l.length)
  rw [List.length_range] at h1
  rw [h1]
  simp
 have key2 : (∀ j, j < l.length → Lib.keeps l.toArray j = true) ↔ l.Nodup := by
  constructor
  ·intro hk
   unfold List.Nodup
   rw [List.pairwise_iff_getElem] at h ⊢
   intro i j hi hj hij
   have hstep : ∀ (d : Nat) (hd : i + 1 + d < l.length), l[i] ≠ l[i + 1 + d] := by
    intro d
    have hk2 := hk (i + 1 + d)
    unfold Lib.keeps at hk2
    intro hd he
    have h3 := hk2 hd
    simp only [decide_eq_true_eq] at h3
    rcases h3 with h3 | h3
    ·omega
    ·rw [show i + 1 + d - 1 = i + d by omega] at h3
     rw [getElem!_pos _ _ (by simpa using hd), getElem!_pos _ _ (by simp; omega)] at h3
     simp only [List.getElem_toArray] at h3
     have h4 := h (i + d) (i + 1 + d) (by omega) hd (by omega)
     rcases Nat.eq_zero_or_pos d with rfl | hd0
     ·exact h3 he.symm
     ·have h5 := h i (i + d) hi (by omega) (by omega)
      rw [← he] at h4 h3
      exact h3 (List.le_antisymm h5 h4)
   have := hstep (j - i - 1) (by omega)
   simp only [show i + 1 + (j - i - 1) = j by omega] at this
   exact this
  ·intro hn j hj
   unfold Lib.keeps
   simp only [decide_eq_true_eq]
   rcases Nat.eq_zero_or_pos j with h0 | h0
   ·exact .inl h0
   ·refine .inr ?_
    rw [getElem!_pos _ _ (by simpa using hj), getElem!_pos _ _ (by simp; omega)]
    simp only [List.getElem_toArray]
    unfold List.Nodup at hn
    rw [List.pairwise_iff_getElem] at hn
    exact (hn (j - 1) j (by omega) hj (by omega)).symm
 constructor
 ·intro hlt hn
  have := key.2 (key2.2 hn)
  omega
 ·intro hn
  rcases Nat.lt_or_ge (Lib.compact l).length l.length with h1 | h1
  ·exact h1
  ·exact absurd (key2.1 (key.1 (by omega))) hn
theorem compact_sorted (l : List (List UInt8)) : (Lib.compact (l.mergeSort fun x y => decide (x ≤ y))).length < l.length ↔ ¬ l.Nodup := by
 have h := List.pairwise_mergeSort (le := fun x y : List UInt8 => decide (x ≤ y)) (fun a b c h1 h2 => by simp only [decide_eq_true_eq] at h1 h2 ⊢; exact List.le_trans h1 h2) (fun a b => by simp only [Bool.or_eq_true, decide_eq_true_eq]; exact List.le_total a b) l
 have hp := List.mergeSort_perm l fun x y => decide (x ≤ y)
 have h2 := compact_rise (h.imp fun h => by simpa using h)
 rw [hp.length_eq, hp.nodup_iff] at h2
 exact h2
end Go.Proofs.YtpodmgihlomglaaGreatDoor
