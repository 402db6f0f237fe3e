import Derived.Test.YtpodmgihlomglaaGreatDoorP6
import Derived.Deep.RegionWith
import Derived.Lib.Tables
import Derived.Lib.TrailingZeros
namespace Go.Proofs.YtpodmgihlomglaaGreatDoor
open Go.RowKit Go.Shelf
section
variable {P : Program} {md : Region.Mode} {ops : Array Oper} {Q : Exit → Act → World → Prop} {S : World → Prop} {U : List Nat} {n : Nat}
def wpAnyW (n : Nat) (P : Program) (md : Region.Mode) (ops : Array Oper) (Q : Exit → Act → World → Prop) (S : World → Prop) (U : List Nat) : Nat → Array Bool → Act → World → Prop
 | 0, listed, a, w => Region.ready md ops listed = [] ∧ Q .normal a w
 | fuel + 1, listed, a, w =>
  (Region.ready md ops listed = [] → Q .normal a w) ∧
  ∀ i ∈ Region.ready md ops listed, wpOpIn Fence.wide n P ops Q i (fun a' w' => (U.contains i = false → S w') ∧ wpAnyW n P md ops Q S U fuel (listed.setIfInBounds i true) a' w') a w
theorem wpAnyW_any : ∀ (fuel : Nat) (listed : Array Bool) (a : Act) (w : World), wpAnyW n P md ops Q S U fuel listed a w → wpAnyIn Fence.wide n P md ops Q fuel listed a w
 | 0, _, _, _, h => h
 | fuel + 1, _, _, _, h => ⟨h.1, fun i hi => wpOpIn_mono (fun a' w' h' => wpAnyW_any fuel _ a' w' h'.2) (h.2 i hi)⟩
structure TakenW (n : Nat) (P : Program) (ops : Array Oper) (Q : Exit → Act → World → Prop) (S : World → Prop) (i : Nat) (oi : Oper) (v : Value) (Y : Act → Prop) : Prop where
 same : ∀ a a' : Act, Y a → execOp a'.eval oi = execOp a.eval oi → Region.wanted oi (yielded ops a'.tmps) = Region.wanted oi (yielded ops a.tmps) → Y a'
 step : ∀ (a : Act) (w : World) (K : Act → World → Prop), Y a → S w → K (a.put oi.dst v) w → wpOpIn Fence.wide n P ops Q i K a w
theorem wpOpW_put {i j : Nat} {oi oj : Oper} {v : Value} {Y : Act → Prop} (hT : TakenW n P ops Q S i oi v Y) (hj : ops[j]? = some oj) (hap : oi.apart ops oj = true)
  (hsi : ∀ cs b, oi.op ≠ .select cs b) (hsj : ∀ cs b, oj.op ≠ .select cs b)
  (hQ : ∀ c a w, Q (.panic c) (a.put oi.dst v) w → Q (.panic c) a w) {K : Act → World → Prop} {a : Act} {w : World}
  (hy : Y a) (h : wpOpIn Fence.wide n P ops Q j K (a.put oi.dst v) w) :
  wpOpIn Fence.wide n P ops Q j (fun a' w' => Y a' ∧ K (a'.put oi.dst v) w') a w := by
 obtain ⟨h1, h2, h3⟩ := Oper.apart_spec hap
 have keep : ∀ (a : Act), Y a → ∀ u, Y (a.put oj.dst u) := fun a hy u =>
  hT.same _ _ hy (execOp_put oi hsi a oj.dst u h3) (wanted_put oi a oj.dst u h3)
 have keepD : ∀ d, Y { a with defers := d :: a.defers } := fun d => hT.same _ _ hy rfl rfl
 unfold wpOpIn at *
 simp only [hj] at *
 rw [wanted_put oj a oi.dst v h1] at h
 split
 ·rename_i hw
  simp only [hw, if_true] at h
  unfold Oper.wpIn at *
  refine ⟨fun _ _ => trivial, ?_⟩
  have h := h.2
  rw [show Fence.wide.round = none from rfl, Oper.semAt_none, execOp_put oj hsj a oi.dst v h1] at h
  rw [show Fence.wide.round = none from rfl, Oper.semAt_none]
  generalize (execOp a.eval oj).run P w = r at *
  cases r with
  | ok x w' =>
   cases x <;> simp only [Oper.uponIn] at h ⊢
   case value u => exact ⟨keep a hy u, by rw [← Act.put_comm a v u h2]; exact h⟩
   case skip => exact ⟨keep a hy _, by rw [← Act.put_comm a v undef h2]; exact h⟩
   case defer d =>
    refine ⟨keep _ (keepD d) _, ?_⟩
    rw [← Act.put_comm _ v undef h2, ← Act.put_defers]
    exact h
   case enter f args =>
    refine ⟨h.1, CallsIn.mono h.2 fun e w'' he => ?_⟩
    cases e with
    | returned u => exact ⟨keep a hy u, by rw [← Act.put_comm a v u h2]; exact he⟩
    | panicked c => exact hQ _ _ _ he
    | outgrown => exact he
   case row row args => exact ⟨h.1, RowsIn.mono h.2 fun u w'' he => ⟨keep a hy u, by rw [← Act.put_comm a v u h2]; exact he⟩⟩
   case round l f tmps assign body =>
    refine ⟨h.1, RoundIn.mono h.2 fun e w'' he => ?_⟩
    cases e with
    | returned u => exact ⟨keep a hy u, by rw [← Act.put_comm a v u h2]; exact he⟩
    | panicked c => exact hQ _ _ _ he
    | outgrown => exact he
  | halt x w' =>
   cases x <;> simp only [Oper.uponIn] at h ⊢
   case panic u => exact hQ _ _ _ h
 ·rename_i hw
  simp only [hw] at h
  exact ⟨fun _ _ => trivial, keep a hy _, by rw [← Act.put_comm a v undef h2]; exact h.2⟩
theorem wpAnyW_first {i : Nat} {oi : Oper} {v : Value} {Y : Act → Prop} (hT : TakenW n P ops Q S i oi v Y) (hi : ops[i]? = some oi) (hsel : ∀ (j : Nat) (o : Oper) cs b, ops[j]? = some o → o.op ≠ .select cs b)
  (hQ : ∀ c a w, Q (.panic c) (a.put oi.dst v) w → Q (.panic c) a w) (hw : waitsFor md ops U i = true) :
  ∀ (fuel : Nat) (listed : Array Bool) (a : Act) (w : World),
   (∀ j oj, ops[j]? = some oj → j ≠ i → listed.getD j true = false → (∀ e ∈ oj.after, Region.binds md e = true → e.on ≠ i) → oi.apart ops oj = true) →
   Closed md ops listed → i ∈ Region.ready md ops listed → Y a → S w →
   wpAnyW n P md ops Q S U fuel (listed.setIfInBounds i true) (a.put oi.dst v) w → wpAnyW n P md ops Q S U (fuel + 1) listed a w := by
 intro fuel
 induction fuel with
 | zero =>
  intro listed a w _ _ hr hy hS H
  refine ⟨fun h => (by rw [h] at hr; cases hr), fun j hj => ?_⟩
  by_cases hji : j = i
  ·subst hji; exact hT.step _ _ _ hy hS ⟨fun _ => hS, H⟩
  ·have := ready_mono hj hji
   rw [H.1] at this
   cases this
 | succ fuel ih =>
  intro listed a w hfree hcl hr hy hS H
  refine ⟨fun h => (by rw [h] at hr; cases hr), fun j hj => ?_⟩
  by_cases hji : j = i
  ·subst hji; exact hT.step _ _ _ hy hS ⟨fun _ => hS, H⟩
  ·have h1 := H.2 j (ready_mono hj hji)
   obtain ⟨hjun, oj, hoj, hall⟩ := mem_ready.1 hj
   have hifalse : listed.getD i false = false := by
    have h0 := (mem_ready.1 hr).1
    rcases Nat.lt_or_ge i listed.size with h' | h'
    ·simp [h'] at h0 ⊢; exact h0
    ·simp [Array.getElem?_eq_none h']
   have hnot : ∀ e ∈ oj.after, Region.binds md e = true → e.on ≠ i := fun e he hb heq => by
    have h1 := hall e he hb
    rw [heq, hifalse] at h1
    cases h1
   have hnU : U.contains j = false := by
    cases hc : U.contains j with
    | false => rfl
    | true => exact (waits_ready hw hcl hifalse hc hj).elim
   have h2 := wpOpW_put hT hoj (hfree j oj hoj hji hjun hnot) (fun cs b => hsel i oi cs b hi) (fun cs b => hsel j oj cs b hoj) hQ hy h1
   have hfree' : ∀ k ok, ops[k]? = some ok → k ≠ i → (listed.setIfInBounds j true).getD k true = false →
     (∀ e ∈ ok.after, Region.binds md e = true → e.on ≠ i) → oi.apart ops ok = true := fun k ok hk hki hun hno => by
    refine hfree k ok hk hki ?_ hno
    by_cases hjk : j = k
    ·subst hjk; exact hjun
    ·rw [getD_set_ne true hjk] at hun; exact hun
   refine wpOpIn_mono (fun a' w' h3 => ⟨fun hc => h3.2.1 hc, ih (listed.setIfInBounds j true) a' w' hfree' (closed_set hcl hj) (ready_mono hr (Ne.symm hji)) h3.1 (h3.2.1 hnU) ?_⟩) h2
   rw [Array.setIfInBounds_comm _ _ hji]
   exact h3.2.2
theorem takenW_if {i : Nat} {oi : Oper} {v : Value} (hi : ops[i]? = some oi) : TakenW n P ops Q S i oi v (YieldsIf P ops S oi v) where
 same _ _ hy he hw := hy.of_same he hw
 step a w K hy hS h := by
  unfold wpOpIn
  simp only [hi]
  rcases hy with ⟨hw, hv⟩ | ⟨hw, rfl⟩
  ·rw [if_pos hw]
   unfold Oper.wpIn
   refine ⟨fun _ _ => trivial, ?_⟩
   rw [show Fence.wide.round = none from rfl, Oper.semAt_none, hv w hS]
   exact h
  ·rw [if_neg (by rw [hw]; simp)]
   exact ⟨fun _ _ => trivial, h⟩
theorem takenW_call {i : Nat} {oi : Oper} {v : Value} (hi : ops[i]? = some oi) : TakenW n P ops Q S i oi v (YieldsC P ops S oi v) where
 same _ _ hy he hw := hy.of_same he hw
 step a w K hy hS h := by
  obtain ⟨hw, hv⟩ := hy
  obtain ⟨f, args, hrun, hc⟩ := hv w hS
  unfold wpOpIn
  simp only [hi]
  rw [if_pos hw]
  unfold Oper.wpIn
  refine ⟨fun _ _ => trivial, ?_⟩
  rw [show Fence.wide.round = none from rfl, Oper.semAt_none, hrun]
  refine ⟨fun hh => by simp [Fence.wide] at hh, (callsIn_wide.2 hc).mono ?_⟩
  rintro e w' ⟨rfl, rfl⟩
  exact h
theorem wpAnyW_take {i : Nat} {oi : Oper} {v : Value} {fuel : Nat} {listed : Array Bool} {a : Act} {w : World} (hi : ops[i]? = some oi)
  (hs : Region.noSelect ops = true) (hf : Region.free md ops listed i = true) (hr : (Region.ready md ops listed).contains i = true) (hw : (waitsFor md ops U i && closedB md ops listed) = true)
  (hQ : ∀ c a w, Q (.panic c) (a.put oi.dst v) w → Q (.panic c) a w) (hy : YieldsIf P ops S oi v a) (hS : S w)
  (h : wpAnyW n P md ops Q S U fuel (listed.setIfInBounds i true) (a.put oi.dst v) w) : wpAnyW n P md ops Q S U (fuel + 1) listed a w :=
 wpAnyW_first (takenW_if hi) hi (Region.noSelect_spec hs) hQ (Bool.and_eq_true_iff.1 hw).1 fuel listed a w (Region.free_spec hi hf) (closed_of (Bool.and_eq_true_iff.1 hw).2) (by simpa using hr) hy hS h
theorem wpAnyW_takeC {i : Nat} {oi : Oper} {v : Value} {fuel : Nat} {listed : Array Bool} {a : Act} {w : World} (hi : ops[i]? = some oi)
  (hs : Region.noSelect ops = true) (hf : Region.free md ops listed i = true) (hr : (Region.ready md ops listed).contains i = true) (hw : (waitsFor md ops U i && closedB md ops listed) = true)
  (hQ : ∀ c a w, Q (.panic c) (a.put oi.dst v) w → Q (.panic c) a w) (hy : YieldsC P ops S oi v a) (hS : S w)
  (h : wpAnyW n P md ops Q S U fuel (listed.setIfInBounds i true) (a.put oi.dst v) w) : wpAnyW n P md ops Q S U (fuel + 1) listed a w :=
 wpAnyW_first (takenW_call hi) hi (Region.noSelect_spec hs) hQ (Bool.and_eq_true_iff.1 hw).1 fuel listed a w (Region.free_spec hi hf) (closed_of (Bool.and_eq_true_iff.1 hw).2) (by simpa using hr) hy hS h
theorem wpAnyW_done {listed : Array Bool} {a : Act} {w : World} (hr : Region.ready md ops listed = []) (h : Q .normal a w) :
  ∀ fuel, wpAnyW n P md ops Q S U fuel listed a w
 | 0 => ⟨hr, h⟩
 | _ + 1 => ⟨fun _ => h, by rw [hr]; simp⟩
theorem wpIn_region_W {id : Nat} {a : Act} {w : World} (U : List Nat) (hm : P.follows .mixedOrders = true) (hS : S w.drew)
  (h : S w.drew → wpAnyW n P .any ops Q S U ops.size (Array.replicate ops.size false) a w.drew) : (Code.region id ops true).wpIn Fence.wide n P Q a w :=
 wpIn_region_any hm (wpAnyW_any _ _ _ _ (h hS))
theorem wpAnyW_last {fuel : Nat} {listed : Array Bool} {a : Act} {w : World} {i : Nat} {o : Oper} (hr : Region.ready md ops listed = [i]) (hU : U.contains i = true) (ho : ops[i]? = some o)
  (h : ∀ K' : Act → World → Prop, Shut (∀ a w, wpAnyW n P md ops Q S U fuel (listed.setIfInBounds i true) a w → K' a w) → if Region.wanted o (yielded ops a.tmps) = true then Oper.wpIn Fence.wide n P o a w K' Q else (∀ f, o.about P w a.eval = some f → Fence.wide.fn f) ∧ K' (a.put o.dst undef) w) :
  wpAnyW n P md ops Q S U (fuel + 1) listed a w := by
 refine ⟨fun h0 => absurd (hr ▸ h0) (by simp), fun j hj => ?_⟩
 rw [hr] at hj
 obtain rfl : j = i := by simpa using hj
 exact wpOpIn_step ho (fun K' hK => h K' (fun a w hW => hK a w ⟨(fun hc => absurd (hU.symm.trans hc) (by decide)), hW⟩))
end
end Go.Proofs.YtpodmgihlomglaaGreatDoor
namespace Go.Proofs.YtpodmgihlomglaaGreatDoor
open Go.RowKit
set_option maxRecDepth 1000000
set_option linter.unusedSimpArgs false
theorem rows_cut {B : Nat} {e : TypeId} {s : Nat} {v : Value} {cs : List (Array Value)} {w : World} (h : RowsOwn B e s v cs w) : CutAt (fun g => B ≤ g) w s v (cs.flatMap Array.toList) cs.length := by
 obtain ⟨h1, h2, h3⟩ := h
 have h1' := h1
 obtain ⟨hl, h4⟩ := h1
 rcases h4 with ⟨rfl, e0⟩ | ⟨g, cap, cur, fz, rfl, a2, a3, a4, a5, a6, a7⟩
 ·rw [e0]
  exact ⟨none, 0, rfl, Nat.le_refl _, by rw [hl, e0], .inl ⟨rfl, rfl⟩⟩
 ·refine ⟨_, cap, rfl, by omega, hl, .inr ⟨g, 0, rfl, a2, (Array.getElem?_eq_some_iff.1 a3).1, fun j u hu => ?_⟩⟩
  have := h1'.cells (g := g) rfl j u hu
  rwa [add_at] at this
theorem kid_cells (h : Nat) (ks : List Kid) : (ks.map fun p => (kidc h p).toArray).flatMap Array.toList = en (kidc h) ks := by
 unfold en
 induction ks with
 | nil => rfl
 | cons p ks ih => rw [List.map_cons, List.flatMap_cons, List.flatMap_cons, ih]
theorem fit_of {α : Type} {xs : List α} {kq : List (Kid × List α)} (h : kq.map (·.2) = chunks (cntN xs.length) xs) (hk : ∀ x ∈ kq, x.1.k = x.2.length) : Fit xs.length (kq.map (·.1)) := by
 have hl : kq.length = cntN xs.length := by
  have := congrArg List.length h
  rwa [List.length_map, chunks_len] at this
 refine ⟨by rw [List.length_map, hl], fun p hp => ?_⟩
 obtain ⟨x, hx, rfl⟩ := List.mem_map.1 hp
 have hm : x.2 ∈ chunks (cntN xs.length) xs := by rw [← h]; exact List.mem_map.2 ⟨x, hx, rfl⟩
 rw [List.length_map, hl, hk x hx]
 refine ⟨(chunks_wide xs _ hm).2.2, fun h1 => ?_⟩
 rw [chunks_one xs h1, List.mem_singleton] at hm
 rw [hm]
theorem cat_leaf : ∀ kq : List (Kid × List Cel), (∀ x ∈ kq, x.1.l = x.2) → catK (kq.map (·.1)) = (kq.map (·.2)).flatten
 | [], _ => rfl
 | x :: kq, h => by
  rw [List.map_cons, List.map_cons, catK_cons, List.flatten_cons, h x (List.mem_cons_self ..), cat_leaf kq fun y hy => h y (List.mem_cons_of_mem _ hy)]
theorem cat_inner : ∀ kq : List (Kid × List Kid), (∀ x ∈ kq, x.1.l = catK x.2) → catK (kq.map (·.1)) = catK ((kq.map (·.2)).flatten)
 | [], _ => rfl
 | x :: kq, h => by
  rw [List.map_cons, List.map_cons, catK_cons, List.flatten_cons, catK_app, h x (List.mem_cons_self ..), cat_inner kq fun y hy => h y (List.mem_cons_of_mem _ hy)]
theorem chunks_all {α : Type} (xs : List α) : (chunks (cntN xs.length) xs).flatten = xs :=
 chunks_flat _ _ fun h => List.eq_nil_of_length_eq_zero (by unfold cntN at h; omega)
theorem part_pos {α : Type} {xs : List α} {pl : List (Value × List α)} (h : pl.map (·.2) = chunks (cntN xs.length) xs) {k : Nat} (hk : k < pl.length) : 1 ≤ pl[k].2.length ∧ pl[k].2.length ≤ 16 := by
 have hm : pl[k].2 ∈ chunks (cntN xs.length) xs := by rw [← h]; exact List.mem_map.2 ⟨pl[k], List.getElem_mem hk, rfl⟩
 exact ⟨(chunks_wide xs _ hm).1, (chunks_wide xs _ hm).2.1⟩
theorem parts_len {α : Type} {xs : List α} {pl : List (Value × List α)} (h : pl.map (·.2) = chunks (cntN xs.length) xs) : pl.length = cntN xs.length := by
 have := congrArg List.length h
 rwa [List.length_map, chunks_len] at this
set_option maxHeartbeats 4000000 in
theorem rp_leaves (w : World) {S : Nat → Prop} (B : Nat) (ls : List (Value × List Cel)) (hcells : ∀ k (hk : k < ls.length), w.cell? ⟨B, k, none⟩ = some ls[k].1) (hcut : ∀ p ∈ ls, CutAt S w 4 p.1 (ivV p.2) p.2.length)
  (xs : List Cel) (hxs : catE ls ls.length = xs) (hN : xs.length ≤ 100000) (hl : ls.length ≤ 1000) :
  Calls Tryz.prog 126 #[.slice (some ⟨B, 0, none⟩) ls.length ls.length] w fun e w' => ∃ v, e = .returned v ∧ ∃ ks, NodesR (fun g => w.heap.size ≤ g) w' 0 v ks ∧ catK ks = xs ∧ Fit xs.length ks ∧ Below w.heap.size w w' := by
 have HSP := Lib.hid (sp_val enV_len enV_one w B ls hcells (fun p hp => by exact hcut p hp) xs hxs hN hl)
 have HN := Lib.hid hN
 clear hcells hcut hxs hN
 go_enter Tryz.func126, Tryz.ntmps126
 go_wp2_with (go_at_call 145; refine HSP.out.mono ?_; rintro e w1 ⟨v1, rfl, pl, ⟨a1, g1, cap1, rfl, ha1, hc1, hh1⟩, hpl, hb1⟩; have HA1 := Lib.hid ha1; have HC1 := Lib.hid hc1; have HH1 := Lib.hid hh1; have HPL := Lib.hid hpl; have HB1 := Lib.hid hb1; clear ha1 hc1 hh1 hpl hb1)
 clear HSP
 have hpl5 : (pl.length : Int) ≤ 100000 := by have := parts_len HPL.out; have := HN.out; unfold cntN at *; omega
 go_loopw [3, 9] (fun nv iv wr => ∃ (k : Nat) (kq : List (Kid × List Cel)), iv = .int .i64 (k : Int) ∧ k ≤ pl.length ∧ Hid (RowsOwn w1.heap.size 110 4 nv ((kq.map (·.1)).map fun p => (kidc 0 p).toArray) wr) ∧
  Hid ((∀ x ∈ kq, NodeR (fun g => w.heap.size ≤ g ∧ g < w1.heap.size) wr 0 x.1 ∧ x.1.l = x.2) ∧ kq.map (·.2) = (pl.take k).map (·.2)) ∧ Hid (Below w1.heap.size w1 wr)) (fun _ iv _ => pl.length - (intOf iv).toNat)
 case atStart => exact ⟨0, [], rfl, Nat.zero_le _, ⟨World.ownsRowF_nil _ _ _ _, Nat.le_refl _, fun c h => (by cases h)⟩, ⟨fun x h => (by cases h), rfl⟩, Below.refl _ _⟩
 case round =>
  obtain ⟨k, kq, rfl, hk, HP, HK, HB⟩ := hrel
  by_cases hlt : k < pl.length
  ·have hpp := part_pos HPL.out hlt
   obtain rfl : a1 = some ⟨g1, 0, none⟩ := HA1.out (by omega)
   have hc := (HB.out.cell (p := ⟨g1, k, none⟩) (World.block_lt_of_cell? _ _ (HC1.out k hlt))).trans (HC1.out k hlt)
   have HH := Lib.hid (HH1.out _ (List.getElem_mem hlt))
   obtain ⟨q, hq⟩ : ∃ q, q = pl[k] := ⟨_, rfl⟩
   rw [← hq] at hc hpp HH
   obtain ⟨qv, ql⟩ := q
   dsimp only at hc hpp HH
   obtain ⟨n, hn⟩ : ∃ n, n = ql.length := ⟨_, rfl⟩
   rw [← hn] at hpp HH
   obtain ⟨g, c, cur, fr, rfl, hcap, _⟩ := HH.out.pos hpp.1
   have HQ := Lib.hid hq
   have HNN := Lib.hid hn
   have HPP := Lib.hid hpp
   have hn16 : (n : Int) ≤ 16 := by omega
   have HLEN : Hid (kq.length ≤ 100000) := by
    show _ ≤ _
    have := congrArg List.length HK.out.2
    rw [List.length_map, List.length_map, List.length_take] at this
    omega
   clear hq hn hpp hcap hk
   go_wp2_with (first
    | (refine bs_list rfl 108 110 _ rfl #[.int .i64 (n : Int), .int .i64 1, .slice none 0 0, .slice (some ⟨g, 0, none⟩) n c] 4 (.agg zeroR) rfl rfl (by decide) (by decide) Tryz.underlying108 (by kernel_rfl) ?_; intro w3 h3 hb3 hs3; have HG3 := Lib.hid h3; have HB3 := Lib.hid hb3; clear h3 hb3 hs3)
    | (refine rows_list rfl (z := .agg zeroR) (by_ := 64) 108 110 _ _ rfl rfl (HP.out.later HB3.out) wr.heap.size rfl HG3.out rfl (by simp [Value.oneCell']) Tryz.underlying108 (by kernel_rfl) rfl (by decide) (by rw [List.length_map, List.length_map]; exact HLEN.out) (by decide) ?_; intro v6 w6 hp6 hg6; have HP6 := Lib.hid hp6; have HG6 := Lib.hid hg6; clear hp6 hg6))
   go_roundw
   case rel =>
    have hp3 := HP.out.later HB3.out
    have hkT : ∀ X, _ = some X → w1.heap.size ≤ X := fun X e => by
     rcases hp3.own with h | ⟨g', _, _, h, h2, _⟩
     ·have e' := h.symm.trans e; cases e'
     ·have e' := h.symm.trans e; obtain rfl := Option.some.inj e'; exact h2
    refine ⟨k + 1, kq ++ [(⟨.slice none 0 0, .slice (some ⟨g, 0, none⟩) n c, ql, n, rfl, rfl⟩, ql)], by simp, by omega, ?_, ⟨fun x hx => ?_, ?_⟩, ?_⟩
    ·rw [List.map_append, List.map_append]
     have e : ((kidc 0 ⟨.slice none 0 0, .slice (some ⟨g, 0, none⟩) n c, ql, n, rfl, rfl⟩).toArray : Array Value) = #[.int .i64 (n : Int), .int .i64 1, .slice none 0 0, .slice (some ⟨g, 0, none⟩) n c] := by rw [HNN.out]; rfl
     rw [List.map_singleton, List.map_singleton, e]
     exact HP6.out
    ·rcases List.mem_append.1 hx with hx | hx
     ·exact ⟨((HK.out.1 x hx).1.later HB3.out).kept HG6.out (fun X e h => by have := hkT X e; omega), (HK.out.1 x hx).2⟩
     ·rw [List.mem_singleton] at hx
      subst hx
      refine ⟨⟨rfl, HNN.out, HPP.out.1, HPP.out.2, ?_⟩, rfl⟩
      have hh := HH.out.old
      exact ((hh.later (tW HB.out HB3.out)).kept HG6.out (fun X e h => by have := hkT X e; omega))
    ·rw [List.map_append, HK.out.2, List.take_succ_eq_append_getElem hlt, List.map_append, ← HQ.out]
     rfl
    ·exact (tW HB.out HB3.out).trans (below_of_grown HG6.out (by have := HB.out.size; have := HB3.out.size; omega) hkT)
   case measure => simp [intOf]; omega
  ·obtain rfl : k = pl.length := by omega
   go_wp2_with fail
   go_ret
   have hk := HK.out
   rw [List.take_length, HPL.out] at hk
   refine ⟨_, rfl, kq.map (·.1), ⟨?_, fun p hp => ?_⟩, ?_, fit_of hk.2 fun x hx => ?_, tW HB1.out HB.out⟩
   ·have h := (rows_cut HP.out).weak (S' := fun g => w.heap.size ≤ g) (fun g hg => Nat.le_trans HB1.out.size hg)
    rw [kid_cells, List.length_map] at h
    exact h
   ·obtain ⟨x, hx, rfl⟩ := List.mem_map.1 hp
    exact (hk.1 x hx).1.weak fun g hg => hg.1
   ·rw [cat_leaf _ fun x hx => (hk.1 x hx).2, hk.2, chunks_all]
   ·have h := (hk.1 x hx)
    rw [h.1.2.1, h.2]
abbrev Sc := Int × Int × List UInt8
def chkSc (s : Sc) : Int :=
 if s.1 < 0 ∨ 3 < s.1 then 3
 else if (s.1 = 0 ∨ s.1 = 3) ∧ s.2.1 ≠ 0 then 1
 else if s.1 ≠ 3 ∧ s.2.2 ≠ [] then 1
 else if s.1 = 1 ∧ s.2.1 ≠ 0 ∧ s.2.1 ≠ 1 then 4
 else 0
def covOne (c : UInt8) : List UInt8 := if c = 0 then [0, 255] else [c]
def covS (l : List UInt8) : List UInt8 := l.flatMap covOne
def keySc (s : Sc) : List UInt8 :=
 if chkSc s ≠ 0 then [] else if s.1 = 0 then [1] else if s.1 = 1 then [2, bt8 s.2.1] else if s.1 = 2 then 3 :: bytesS s.2.1 else 4 :: (covS s.2.2 ++ [0, 0])
theorem chk_cases (s : Sc) (h : chkSc s = 0) : s = (0, 0, []) ∨ s = (1, 0, []) ∨ s = (1, 1, []) ∨ (∃ n, s = (2, n, [])) ∨ ∃ t, s = (3, 0, t) := by
 obtain ⟨k, n, t⟩ := s
 unfold chkSc at h
 simp only at h
 split at h
 ·cases h
 rename_i h1
 split at h
 ·cases h
 rename_i h2
 split at h
 ·cases h
 rename_i h3
 split at h
 ·cases h
 rename_i h4
 have hk : k = 0 ∨ k = 1 ∨ k = 2 ∨ k = 3 := by omega
 rcases hk with rfl | rfl | rfl | rfl
 ·have hn : n = 0 := by omega
  have ht : t = [] := by
   rcases Decidable.em (t = []) with h | h
   ·exact h
   ·exact absurd ⟨by decide, h⟩ h3
  subst hn ht; exact .inl rfl
 ·have ht : t = [] := by
   rcases Decidable.em (t = []) with h | h
   ·exact h
   ·exact absurd ⟨by decide, h⟩ h3
  subst ht
  have hn : n = 0 ∨ n = 1 := by omega
  rcases hn with rfl | rfl
  ·exact .inr (.inl rfl)
  ·exact .inr (.inr (.inl rfl))
 ·have ht : t = [] := by
   rcases Decidable.em (t = []) with h | h
   ·exact h
   ·exact absurd ⟨by decide, h⟩ h3
  subst ht; exact .inr (.inr (.inr (.inl ⟨n, rfl⟩)))
 ·have hn : n = 0 := by omega
  subst hn; exact .inr (.inr (.inr (.inr ⟨t, rfl⟩)))
theorem chk_null : chkSc (0, 0, []) = 0 := by decide
theorem chk_false : chkSc (1, 0, []) = 0 := by decide
theorem chk_true : chkSc (1, 1, []) = 0 := by decide
theorem chk_int (n : Int) : chkSc (2, n, []) = 0 := by simp [chkSc]
theorem chk_text (t : List UInt8) : chkSc (3, 0, t) = 0 := by simp [chkSc]
theorem key_null : keySc (0, 0, []) = [1] := by decide
theorem key_false : keySc (1, 0, []) = [2, 0] := by decide +kernel
theorem key_true : keySc (1, 1, []) = [2, 1] := by decide +kernel
theorem key_int (n : Int) : keySc (2, n, []) = 3 :: bytesS n := by simp [keySc, chk_int]
theorem key_text (t : List UInt8) : keySc (3, 0, t) = 4 :: (covS t ++ [0, 0]) := by simp [keySc, chk_text]
theorem key_bad (s : Sc) (h : ¬ chkSc s = 0) : keySc s = [] := by simp [keySc, h]
theorem cov_cons (c : UInt8) (t : List UInt8) : covS (c :: t) = covOne c ++ covS t := by simp [covS]
theorem cov_len (t : List UInt8) : (covS t).length ≤ 2 * t.length := by
 induction t with
 | nil => simp [covS]
 | cons c t ih =>
  rw [cov_cons, List.length_append, List.length_cons]
  have : (covOne c).length ≤ 2 := by unfold covOne; split <;> simp
  omega
theorem key_len (s : Sc) : (keySc s).length ≤ 2 * s.2.2.length + 9 := by
 by_cases hc : chkSc s = 0
 ·rcases chk_cases s hc with rfl | rfl | rfl | ⟨n, rfl⟩ | ⟨t, rfl⟩
  ·rw [key_null]; simp
  ·rw [key_false]; simp
  ·rw [key_true]; simp
  ·rw [key_int]; simp [bytesS_len]
  ·rw [key_text]
   have := cov_len t
   simp; omega
 ·rw [key_bad s hc]; simp
theorem ord_cons_lt (a b : UInt8) (l r : List UInt8) (h : a < b) : orderS (a :: l) (b :: r) = -1 := (orderS_less _ _).2 (List.cons_lt_cons_iff.2 (.inl h))
theorem ord_cons (a : UInt8) (l r : List UInt8) : orderS (a :: l) (a :: r) = orderS l r := by
 unfold orderS
 have h1 : (a :: l = a :: r) ↔ l = r := by simp
 have h2 : (a :: l < a :: r) ↔ l < r := by
  rw [List.cons_lt_cons_iff]
  exact ⟨fun h => by rcases h with h | h; exact absurd h (UInt8.lt_irrefl _); exact h.2, fun h => .inr ⟨rfl, h⟩⟩
 simp only [h1, h2]
theorem com_ne (a b : UInt8) (l r : List UInt8) (h : ¬ a = b) : commonS (a :: l) (b :: r) = 0 := by simp [commonS, h]
theorem com_eq (a : UInt8) (l r : List UInt8) : commonS (a :: l) (a :: r) = commonS l r + 1 := by simp [commonS]
def Apart (k l : List UInt8) (o : Int) : Prop := commonS k l < k.length ∧ commonS k l < l.length ∧ ∀ x y, orderS (k ++ x) (l ++ y) = o
theorem Apart.cons {k l : List UInt8} {o : Int} (h : Apart k l o) (c : UInt8) : Apart (c :: k) (c :: l) o := by
 refine ⟨?_, ?_, fun x y => ?_⟩
 ·rw [com_eq, List.length_cons]; have := h.1; omega
 ·rw [com_eq, List.length_cons]; have := h.2.1; omega
 ·rw [List.cons_append, List.cons_append, ord_cons]; exact h.2.2 x y
theorem Apart.lt {a b : UInt8} (h : a < b) (k l : List UInt8) : Apart (a :: k) (b :: l) (-1) := by
 have hne : ¬ a = b := fun e => by subst e; exact absurd h (UInt8.lt_irrefl _)
 exact ⟨by rw [com_ne _ _ _ _ hne]; simp, by rw [com_ne _ _ _ _ hne]; simp, fun x y => ord_cons_lt _ _ _ _ h⟩
theorem bit_test (b i : Nat) : bitN b i = b.testBit i := by
 unfold bitN
 rw [Nat.testBit_eq_decide_div_mod_eq]
 rfl
theorem ext_32 {a b : Nat} (ha : a < 2 ^ 32) (hb : b < 2 ^ 32) (h : ∀ i, i < 32 → a.testBit i = b.testBit i) : a = b := by
 apply Nat.eq_of_testBit_eq
 intro i
 by_cases hi : i < 32
 ·exact h i hi
 ·rw [Nat.testBit_lt_two_pow (Nat.lt_of_lt_of_le ha (Nat.pow_le_pow_right (by decide) (by omega))), Nat.testBit_lt_two_pow (Nat.lt_of_lt_of_le hb (Nat.pow_le_pow_right (by decide) (by omega)))]
theorem word_of (op : BinOp) (a b n : Nat) (hn : n < 2 ^ 32) (h : ∀ i, i < 32 → (match op with
  | .and => BitVec.ofNat 32 a &&& BitVec.ofNat 32 b
  | .or => BitVec.ofNat 32 a ||| BitVec.ofNat 32 b
  | .xor => BitVec.ofNat 32 a ^^^ BitVec.ofNat 32 b
  | _ => BitVec.ofNat 32 a &&& ~~~(BitVec.ofNat 32 b)).getLsbD i = n.testBit i) : bits op .u32 (a : Int) (b : Int) = (n : Int) := by
 unfold bits
 show IntKind.u32.wrap _ = _
 have e : (match op with
  | .and => BitVec.ofInt 32 (a : Int) &&& BitVec.ofInt 32 (b : Int)
  | .or => BitVec.ofInt 32 (a : Int) ||| BitVec.ofInt 32 (b : Int)
  | .xor => BitVec.ofInt 32 (a : Int) ^^^ BitVec.ofInt 32 (b : Int)
  | _ => BitVec.ofInt 32 (a : Int) &&& ~~~(BitVec.ofInt 32 (b : Int))).toNat = n := by
  simp only [BitVec.ofInt_natCast]
  apply ext_32 (BitVec.isLt _) hn
  intro i hi
  rw [BitVec.testBit_toNat]
  exact h i hi
 rw [IntKind.wrap_u32]
 have hn2 : n < 4294967296 := hn
 refine Eq.trans (congrArg (fun m : Nat => (m : Int) % 4294967296) e) ?_
 omega
theorem nat_bit {a : Nat} {i : Nat} (hi : i < 32) : (BitVec.ofNat 32 a).getLsbD i = a.testBit i := by
 rw [BitVec.getLsbD_ofNat]; simp [hi]
theorem and_32 (a b : Nat) (ha : a < 2 ^ 32) : bits .and .u32 (a : Int) (b : Int) = ((a &&& b : Nat) : Int) :=
 word_of .and a b _ (Nat.lt_of_le_of_lt Nat.and_le_left ha) fun i hi => by simp only [BitVec.getLsbD_and, nat_bit hi, Nat.testBit_and]
theorem rk_eq {b c : Nat} : ∀ {k : Nat}, (∀ i, i < k → b.testBit i = c.testBit i) → rkN b k = rkN c k
 | 0, _ => rfl
 | k + 1, h => by
  unfold rkN
  rw [rk_eq (k := k) (fun i hi => h i (by omega)), bit_test, bit_test, h k (by omega)]
theorem rk_flat {b : Nat} {i : Nat} : ∀ {k : Nat}, i ≤ k → (∀ j, i ≤ j → j < k → b.testBit j = false) → rkN b k = rkN b i
  | 0, h, _ => by obtain rfl : i = 0 := by omega
                  rfl
  | k + 1, h, h2 => by
    by_cases e : i = k + 1
    · subst e; rfl
    · rw [← rk_flat (k := k) (i := i) (by omega) fun j a c => h2 j a (by omega)]
      conv => lhs; unfold rkN
      rw [bit_test, h2 k (by omega) (by omega)]
      simp
theorem rk_low (b i : Nat) (hi : i ≤ 32) : rkN (b &&& (2 ^ i - 1)) 32 = rkN b i := by
 rw [rk_flat hi fun j h1 _ => by rw [Nat.testBit_and, Nat.testBit_two_pow_sub_one]; simp; omega]
 exact rk_eq fun j hj => by rw [Nat.testBit_and, Nat.testBit_two_pow_sub_one]; simp [hj]
theorem rk_add (b m : Nat) : ∀ k, rkN b (m + k) = rkN b m + rkN (b / 2 ^ m) k
 | 0 => rfl
 | k + 1 => by
  show rkN b (m + k) + _ = _ + (rkN (b / 2 ^ m) k + _)
  rw [rk_add b m k, Nat.add_assoc, bit_test, bit_test, Nat.testBit_div_two_pow, Nat.add_comm k m]
  rfl
theorem rk_mod (b : Nat) : rkN (b % 256) 8 = rkN b 8 := rk_eq fun i hi => by
 rw [show (256 : Nat) = 2 ^ 8 by decide, Nat.testBit_mod_two_pow]; simp [hi]
theorem rk_bytes (b : Nat) : rkN b 32 = rkN (b / 16777216) 8 + rkN (b / 65536 % 256) 8 + rkN (b / 256 % 256) 8 + rkN (b % 256) 8 := by
 rw [show (32 : Nat) = 8 + (8 + (8 + 8)) by decide, rk_add, rk_add, rk_add, rk_mod, rk_mod, rk_mod, Nat.div_div_eq_div_mul, Nat.div_div_eq_div_mul]
 simp only [Nat.reducePow, Nat.reduceMul]
 omega
theorem range_at {i : Nat} (hi : i < 32) : List.range 32 = List.range i ++ ([i] ++ (List.range (31 - i)).map (i + 1 + ·)) := by
 rw [show (32 : Nat) = (i + 1) + (31 - i) by omega, List.range_add, List.range_succ]
 simp
def leftN (b p : Nat) : Nat := b / 2 ^ p * 2 ^ p
theorem left_test (b p i : Nat) : (leftN b p).testBit i = (decide (p ≤ i) && b.testBit i) := by
 unfold leftN
 rw [Nat.testBit_mul_two_pow, Nat.testBit_div_two_pow]
 by_cases h : p ≤ i
 ·simp [h]
 ·simp [h]
theorem left_zero (b : Nat) : leftN b 0 = b := by simp [leftN]
theorem left_lt {b : Nat} (p : Nat) (h : b < 2 ^ 32) : leftN b p < 2 ^ 32 := Nat.lt_of_le_of_lt (Nat.div_mul_le_self b (2 ^ p)) h
theorem pow_word {j : Nat} (hj : j < 32) : (2 : Int) ^ j % 4294967296 = ((2 ^ j : Nat) : Int) := by
 have h : 2 ^ j < 4294967296 := Nat.pow_lt_pow_right (show 1 < 2 by decide) hj
 have e : ((2 : Int) ^ j) = ((2 ^ j : Nat) : Int) := by simp
 rw [e]
 generalize 2 ^ j = m at h
 omega
set_option maxHeartbeats 1000000 in
theorem sp_bit_on (j : Nat) (hj : j < 32) (w : World) : Calls Tryz.prog 158 #[.int .i64 (j : Int)] w fun e w' => e = .returned (.int .u32 ((2 ^ j : Nat) : Int)) ∧ w' = w := by
 have hp := Lib.hid (pow_word hj)
 have h1 : (j : Int) < 32 := by omega
 have h2 : 0 ≤ (j : Int) := by omega
 go_enter Tryz.func158, Tryz.ntmps158
 go_wp2
 go_ret
 exact ⟨congrArg (fun x => Ending.returned (.int .u32 x)) hp.out, rfl⟩
theorem mask_8 (x : Int) (h0 : 0 ≤ x) (h1 : x < 4294967296) : bits .and .u32 x 255 = x % 256 :=
 bits_mask .u32 32 (by decide) (fun n a c => by rw [IntKind.wrap_u32]; simp only [Int.reducePow] at c; omega) 8 (by decide) x h0 (by simp only [Int.reducePow]; omega)
theorem pop8_rk : ∀ n : Fin 256, Lib.pop8 (n.val : Int) = (rkN n.val 8 : Int) := by decide +kernel
theorem pop8_at (n : Nat) (h : n < 256) : Lib.pop8 (n : Int) = (rkN n 8 : Int) := pop8_rk ⟨n, h⟩
set_option maxHeartbeats 1000000 in
theorem sp_ones (x : Nat) (hx : x < 4294967296) (w : World) : Calls Tryz.prog 210 #[.int .u32 (x : Int)] w fun e w' => e = .returned (.int .i64 (rkN x 32 : Nat)) ∧ ∃ n, w' = w.drewN n := by
 have h1 : 0 ≤ (x : Int) := by omega
 have h2 : (x : Int) < 4294967296 := by omega
 have h3 : 0 ≤ (x : Int) / 16777216 := by omega
 have h4 : (x : Int) / 16777216 ≤ 255 := by omega
 have h5 : 0 ≤ (x : Int) / 65536 := by omega
 have h6 : 0 ≤ (x : Int) / 256 := by omega
 have hv : Hid ((Lib.pop8 ((x : Int) / 16777216) + Lib.pop8 ((x : Int) / 65536 % 256) + Lib.pop8 ((x : Int) / 256 % 256) + Lib.pop8 ((x : Int) % 256)) % 256 = ((rkN x 32 : Nat) : Int)) := by
  show _ = _
  have q1 : Lib.pop8 ((x : Int) / 16777216) = ((rkN (x / 16777216) 8 : Nat) : Int) := pop8_at (x / 16777216) (by omega)
  have q2 : Lib.pop8 ((x : Int) / 65536 % 256) = ((rkN (x / 65536 % 256) 8 : Nat) : Int) := pop8_at (x / 65536 % 256) (by omega)
  have q3 : Lib.pop8 ((x : Int) / 256 % 256) = ((rkN (x / 256 % 256) 8 : Nat) : Int) := pop8_at (x / 256 % 256) (by omega)
  have q4 : Lib.pop8 ((x : Int) % 256) = ((rkN (x % 256) 8 : Nat) : Int) := pop8_at (x % 256) (by omega)
  have g1 := rk_le (x / 16777216) 8
  have g2 := rk_le (x / 65536 % 256) 8
  have g3 := rk_le (x / 256 % 256) 8
  have g4 := rk_le (x % 256) 8
  rw [q1, q2, q3, q4, rk_bytes]
  omega
 have m1 := mask_8 ((x : Int) / 65536) (by omega) (by omega)
 have m2 := mask_8 ((x : Int) / 256) (by omega) (by omega)
 have m3 := mask_8 (x : Int) (by omega) (by omega)
 go_enter Tryz.func210, Tryz.ntmps210
 go_upto_region 1 with fail
 generalize hT : (ByteArray.mk (List.toArray _) : ByteArray) = t
 obtain rfl : Lib.pop8tab = t := by rw [← hT]; decide +kernel
 clear hT
 go_quiet (fail)
 go_wp2
 go_ret
 exact ⟨congrArg (fun v => Ending.returned (.int .i64 v)) hv.out, nq, rfl⟩
set_option maxHeartbeats 1000000 in
theorem sp_count (x : Nat) (hx : x < 4294967296) (w : World) : Calls Tryz.prog 193 #[.int .u32 (x : Int)] w fun e w' => e = .returned (.int .i64 (rkN x 32 : Nat)) ∧ ∃ n, w' = w.drewN n := by
 go_enter Tryz.func193, Tryz.ntmps193
 go_wp2_with (go_at_call 210; refine (sp_ones x hx _).mono ?_; rintro e w1 ⟨rfl, n, rfl⟩)
 go_ret
 exact ⟨rfl, n, rfl⟩
def Tab6 (w : World) : Prop := ∀ j, j < 32 → w.cell? ⟨0, j, none⟩ = some (.int .u8 (Lib.deBruijn32tab.getD j 0 : Nat))
theorem Tab6.below {w w' : World} (h : Tab6 w) (hb : Below w.heap.size w w') : Tab6 w' := fun j hj => (hb.cell (p := ⟨0, j, none⟩) (World.block_lt_of_cell? w _ (h j hj))).trans (h j hj)
theorem sp_key (x a : Nat) (hx : x < 4294967296) (hx0 : x ≠ 0) (hlow : x &&& (4294967296 - x) = a) :
  bits BinOp.and IntKind.u32 (x : Int) (-(x : Int) % 4294967296) * 125613361 % 4294967296 / 134217728 = ((a * 125613361 % 4294967296 / 134217728 : Nat) : Int) := by
 have e1 : -(x : Int) % 4294967296 = ((4294967296 - x : Nat) : Int) := by omega
 rw [e1, and_32 x _ hx, hlow]
 omega
set_option maxHeartbeats 1000000 in
theorem sp_zeros_core (x k idx : Nat) (w : World) (hx0 : ((x : Int) == 0) = false)
  (key : bits BinOp.and IntKind.u32 (x : Int) (-(x : Int) % 4294967296) * 125613361 % 4294967296 / 134217728 = (idx : Int))
  (hi : idx < 32) (hk : k < 32) (hcell : w.cell? ⟨0, idx, none⟩ = some (.int .u8 k)) :
  Calls Tryz.prog 183 #[.int .u32 x] w fun e w' => e = .returned (.int .i64 k) ∧ w' = w := by
 go_enter Tryz.func183, Tryz.ntmps183
 go_wp2_with (simp only [key])
 go_ret
 exact ⟨rfl, rfl⟩
theorem sp_zeros (x : Nat) (hx : x < 4294967296) (hx0 : x ≠ 0) (w : World) (hT : Tab6 w) :
  Calls Tryz.prog 183 #[.int .u32 x] w fun e w' => e = .returned (.int .i64 (Lib.ctz 32 x : Nat)) ∧ w' = w := by
 obtain ⟨hlow, hk⟩ := Lib.lowest_bit 32 x hx0 hx
 obtain ⟨hi, htab⟩ := Lib.deBruijn32_at _ hk
 have hcell := hT _ hi
 rw [htab] at hcell
 exact sp_zeros_core x _ _ w (by simp; omega) (sp_key x _ hx hx0 hlow) hi hk hcell
inductive Tr where
 | nd (k n : Int) (t : ByteArray) (ks : List ByteArray) (xs : List Tr)
namespace Tr
def k : Tr → Int | nd k _ _ _ _ => k
def n : Tr → Int | nd _ n _ _ _ => n
def t : Tr → ByteArray | nd _ _ t _ _ => t
def ks : Tr → List ByteArray | nd _ _ _ ks _ => ks
def xs : Tr → List Tr | nd _ _ _ _ xs => xs
end Tr
abbrev nullT : Tr := .nd 0 0 ⟨#[]⟩ [] []
theorem tr_ind {P : Tr → Prop} (h : ∀ k n t ks xs, (∀ x ∈ xs, P x) → P (.nd k n t ks xs)) : ∀ a, P a := by
 intro a
 apply Tr.rec (motive_1 := P) (motive_2 := fun l => ∀ x ∈ l, P x)
 ·intro k n t ks xs ih; exact h k n t ks xs ih
 ·intro x hx; cases hx
 ·intro a l ha hl x hx
  rcases List.mem_cons.1 hx with rfl | hx
  ·exact ha
  ·exact hl x hx
mutual
def depT : Tr → Nat
 | .nd _ _ _ _ xs => depL xs + 1
def depL : List Tr → Nat
 | [] => 0
 | x :: r => max (depT x) (depL r)
end
mutual
def nodT : Tr → Nat
 | .nd _ _ _ _ xs => nodL xs + 1
def nodL : List Tr → Nat
 | [] => 0
 | x :: r => nodT x + nodL r
end
theorem depT_eq (a : Tr) : depT a = depL a.xs + 1 := by cases a; rw [depT]; rfl
theorem nodT_eq (a : Tr) : nodT a = nodL a.xs + 1 := by cases a; rw [nodT]; rfl
theorem nod_pos (a : Tr) : 1 ≤ nodT a := by rw [nodT_eq]; omega
theorem dep_pos (a : Tr) : 1 ≤ depT a := by rw [depT_eq]; omega
theorem nodL_app (l m : List Tr) : nodL (l ++ m) = nodL l + nodL m := by
 induction l with
 | nil => simp [nodL]
 | cons x l ih => rw [List.cons_append, nodL, nodL, ih]; omega
theorem depL_app (l m : List Tr) : depL (l ++ m) = max (depL l) (depL m) := by
 induction l with
 | nil => simp [depL]
 | cons x l ih => rw [List.cons_append, depL, depL, ih]; omega
theorem nodL_perm {l m : List Tr} (h : l.Perm m) : nodL l = nodL m := by
 induction h with
 | nil => rfl
 | cons x _ ih => rw [nodL, nodL, ih]
 | swap x y l => simp only [nodL]; omega
 | trans _ _ h1 h2 => rw [h1, h2]
theorem depL_perm {l m : List Tr} (h : l.Perm m) : depL l = depL m := by
 induction h with
 | nil => rfl
 | cons x _ ih => rw [depL, depL, ih]
 | swap x y l => simp only [depL]; omega
 | trans _ _ h1 h2 => rw [h1, h2]
theorem nodL_mem {l : List Tr} {x : Tr} (h : x ∈ l) : nodT x ≤ nodL l := by
 induction l with
 | nil => cases h
 | cons y l ih =>
  rw [nodL]
  rcases List.mem_cons.1 h with rfl | h
  ·omega
  ·have := ih h; omega
theorem depL_mem {l : List Tr} {x : Tr} (h : x ∈ l) : depT x ≤ depL l := by
 induction l with
 | nil => cases h
 | cons y l ih =>
  rw [depL]
  rcases List.mem_cons.1 h with rfl | h
  ·omega
  ·have := ih h; omega
theorem len_nodL (l : List Tr) : l.length ≤ nodL l := by
 induction l with
 | nil => simp
 | cons x l ih => rw [nodL, List.length_cons]; have := nod_pos x; omega
theorem dep_le_nod (a : Tr) : depT a ≤ nodT a := by
 induction a using tr_ind with
 | h k n t ks xs ih =>
  rw [depT, nodT]
  suffices depL xs ≤ nodL xs by omega
  clear k n t ks
  induction xs with
  | nil => simp [depL]
  | cons x l ih2 =>
   rw [depL, nodL]
   have h1 := ih x (List.mem_cons_self ..)
   have h2 := ih2 (fun y hy => ih y (List.mem_cons_of_mem _ hy))
   omega
def keyB (k : ByteArray) : List UInt8 := keySc (3, 0, kb k)
mutual
def keyT : Tr → List UInt8
 | .nd k n t ks xs => if k ≤ 3 then keySc (k, n, kb t) else bt8 (k + 1) :: (keyL k ks xs ++ [0])
def keyL (k : Int) : List ByteArray → List Tr → List UInt8
 | _, [] => []
 | ks, x :: r => (if k = 5 then keyB (ks.headD ⟨#[]⟩) else []) ++ (keyT x ++ keyL k ks.tail r)
end
mutual
def Good : Tr → Prop
  | .nd k n t ks xs => GoodL xs ∧
    ((0 ≤ k ∧ k ≤ 3 ∧ chkSc (k, n, kb t) = 0 ∧ InR n ∧ ks = [] ∧ xs = []) ∨
     (n = 0 ∧ t = ⟨#[]⟩ ∧ ((k = 4 ∧ ks = []) ∨ (k = 5 ∧ ks.length = xs.length ∧ ks.Pairwise fun a b => kb a < kb b) ∨ (k = 6 ∧ ks = [] ∧ xs.Pairwise fun a b => keyT a < keyT b))))
def GoodL : List Tr → Prop
 | [] => True
 | x :: r => Good x ∧ GoodL r
end
theorem goodL_iff {l : List Tr} : GoodL l ↔ ∀ x ∈ l, Good x := by
 induction l with
 | nil => simp [GoodL]
 | cons x l ih => rw [GoodL, ih]; simp
theorem good_iff {a : Tr} : Good a ↔ (∀ x ∈ a.xs, Good x) ∧
    ((0 ≤ a.k ∧ a.k ≤ 3 ∧ chkSc (a.k, a.n, kb a.t) = 0 ∧ InR a.n ∧ a.ks = [] ∧ a.xs = []) ∨
     (a.n = 0 ∧ a.t = ⟨#[]⟩ ∧ ((a.k = 4 ∧ a.ks = []) ∨ (a.k = 5 ∧ a.ks.length = a.xs.length ∧ a.ks.Pairwise fun a b => kb a < kb b) ∨ (a.k = 6 ∧ a.ks = [] ∧ a.xs.Pairwise fun a b => keyT a < keyT b)))) := by
  cases a with
  | nd k n t ks xs => rw [Good, goodL_iff]; rfl
theorem Good.part {a x : Tr} (h : Good a) (hx : x ∈ a.xs) : Good x := (good_iff.1 h).1 x hx
theorem inr0 : InR 0 := by unfold InR; omega
theorem good_null : Good nullT := by
 rw [good_iff]
 refine ⟨fun x hx => ?_, Or.inl ⟨by decide, by decide, by decide, inr0, rfl, rfl⟩⟩
 exact absurd hx List.not_mem_nil
end Go.Proofs.YtpodmgihlomglaaGreatDoor
