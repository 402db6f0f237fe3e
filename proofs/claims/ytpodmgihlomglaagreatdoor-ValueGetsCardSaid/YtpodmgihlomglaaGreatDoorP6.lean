import Derived.Test.YtpodmgihlomglaaGreatDoorP4
import Derived.Test.YtpodmgihlomglaaGreatDoorP5
import Derived.Lib.ItoaLen
namespace Go.Proofs.YtpodmgihlomglaaGreatDoor
open Go.RowKit
set_option linter.unusedSimpArgs false
abbrev Ent := ByteArray × Cel
def kb (k : ByteArray) : List UInt8 := k.data.toList
theorem kb_inj {a b : ByteArray} (h : kb a = kb b) : a = b := by
 apply ByteArray.ext
 exact Array.toList_inj.1 h
theorem kb_iff {a b : ByteArray} : kb a = kb b ↔ a = b := ⟨kb_inj, fun h => by rw [h]⟩
def Rise (L : List Ent) : Prop := L.Pairwise fun a b => kb a.1 < kb b.1
theorem Rise.filter {L : List Ent} (h : Rise L) (p : Ent → Bool) : Rise (L.filter p) := List.Pairwise.filter p h
theorem Rise.nil : Rise [] := List.Pairwise.nil
theorem Rise.one (e : Ent) : Rise [e] := List.pairwise_singleton _ e
def getE (L : List Ent) (k : ByteArray) : Option Cel := (L.find? fun e => decide (e.1 = k)).map (·.2)
def delE (L : List Ent) (k : ByteArray) : List Ent := L.filter fun e => decide (e.1 ≠ k)
def belE (L : List Ent) (k : ByteArray) : List Ent := L.filter fun e => decide (kb e.1 < kb k)
def abvE (L : List Ent) (k : ByteArray) : List Ent := L.filter fun e => decide (kb k < kb e.1)
def insE (L : List Ent) (k : ByteArray) (x : Cel) : List Ent := belE L k ++ (k, x) :: abvE L k
theorem lt_ne {a b : ByteArray} (h : kb a < kb b) : a ≠ b := fun e => by subst e; exact lt_irrefl_l _ h
theorem lt_asym {a b : ByteArray} (h : kb a < kb b) : ¬ kb b < kb a := fun k => lt_irrefl_l _ (List.lt_trans h k)
theorem tri (a b : ByteArray) : kb a < kb b ∨ a = b ∨ kb b < kb a := by
 by_cases h : a = b
 ·exact .inr (.inl h)
 ·rcases total_l (kb a) (kb b) (fun e => h (kb_inj e)) with h | h
  ·exact .inl h
  ·exact .inr (.inr h)
theorem Rise.ins {L : List Ent} (h : Rise L) (k : ByteArray) (x : Cel) : Rise (insE L k x) := by
 unfold Rise insE
 rw [List.pairwise_append]
 refine ⟨h.filter _, ?_, ?_⟩
 ·rw [List.pairwise_cons]
  refine ⟨fun e he => ?_, h.filter _⟩
  simpa using (List.mem_filter.1 he).2
 ·intro a ha b hb
  have ha' : kb a.1 < kb k := by simpa using (List.mem_filter.1 ha).2
  rcases List.mem_cons.1 hb with rfl | hb
  ·exact ha'
  ·have hb' : kb k < kb b.1 := by simpa using (List.mem_filter.1 hb).2
   exact List.lt_trans ha' hb'
theorem mem_ins {L : List Ent} {k : ByteArray} {x : Cel} {e : Ent} : e ∈ insE L k x ↔ e = (k, x) ∨ (e ∈ L ∧ e.1 ≠ k) := by
 unfold insE belE abvE
 rw [List.mem_append, List.mem_cons, List.mem_filter, List.mem_filter]
 constructor
 ·rintro (⟨h1, h2⟩ | h | ⟨h1, h2⟩)
  ·exact .inr ⟨h1, lt_ne (by simpa using h2)⟩
  ·exact .inl h
  ·exact .inr ⟨h1, (lt_ne (by simpa using h2)).symm⟩
 ·rintro (h | ⟨h1, h2⟩)
  ·exact .inr (.inl h)
  ·rcases tri e.1 k with h | h | h
   ·exact .inl ⟨h1, by simpa using h⟩
   ·exact absurd h h2
   ·exact .inr (.inr ⟨h1, by simpa using h⟩)
theorem Rise.inj {L : List Ent} (h : Rise L) {a b : Ent} (ha : a ∈ L) (hb : b ∈ L) (e : a.1 = b.1) : a = b := by
 induction L with
 | nil => cases ha
 | cons c L ih =>
  have h' := List.pairwise_cons.1 h
  rcases List.mem_cons.1 ha with ha | ha
  ·rcases List.mem_cons.1 hb with hb | hb
   ·rw [ha, hb]
   ·rw [ha] at e
    exact absurd e (lt_ne (h'.1 b hb))
  ·rcases List.mem_cons.1 hb with hb | hb
   ·rw [hb] at e
    exact absurd e.symm (lt_ne (h'.1 a ha))
   ·exact ih h'.2 ha hb
theorem get_mem {L : List Ent} (h : Rise L) {k : ByteArray} {x : Cel} : getE L k = some x ↔ (k, x) ∈ L := by
 unfold getE
 rw [Option.map_eq_some_iff]
 constructor
 ·rintro ⟨e, he, rfl⟩
  have h1 := List.find?_some he
  have h2 := List.mem_of_find?_eq_some he
  have h1' : e.1 = k := by simpa using h1
  rw [← h1']
  exact h2
 ·intro hm
  cases hf : L.find? fun e => decide (e.1 = k) with
  | none =>
   have := List.find?_eq_none.1 hf _ hm
   simp at this
  | some e =>
   have h1 := List.find?_some hf
   have h1' : e.1 = k := by simpa using h1
   have h2 := h.inj (List.mem_of_find?_eq_some hf) hm h1'
   exact ⟨e, rfl, by rw [h2]⟩
theorem get_none {L : List Ent} {k : ByteArray} : getE L k = none ↔ ∀ e ∈ L, e.1 ≠ k := by
 unfold getE
 rw [Option.map_eq_none_iff, List.find?_eq_none]
 constructor
 ·intro h e he; simpa using h e he
 ·intro h e he; simpa using h e he
theorem get_filter {L : List Ent} (p : Ent → Bool) {k : ByteArray} (hp : ∀ e ∈ L, e.1 = k → p e = true) : getE (L.filter p) k = getE L k := by
 induction L with
 | nil => rfl
 | cons e L ih =>
  have ih := ih fun a ha => hp a (List.mem_cons_of_mem _ ha)
  unfold getE at ih ⊢
  by_cases h : e.1 = k
  ·have := hp e List.mem_cons_self h
   rw [List.filter_cons_of_pos this]
   simp [h]
  ·by_cases h2 : p e = true
   ·rw [List.filter_cons_of_pos h2, List.find?_cons_of_neg (by simp [h]), List.find?_cons_of_neg (by simp [h])]
    exact ih
   ·rw [List.filter_cons_of_neg h2, List.find?_cons_of_neg (by simp [h])]
    exact ih
theorem bel_abv {L : List Ent} (h : Rise L) (k : ByteArray) : delE L k = belE L k ++ abvE L k := by
 induction L with
 | nil => rfl
 | cons e L ih =>
  have h' := List.pairwise_cons.1 h
  have ih := ih h'.2
  unfold delE belE abvE at ih ⊢
  rcases tri e.1 k with hk | hk | hk
  ·rw [List.filter_cons_of_pos (by simp [lt_ne hk]), List.filter_cons_of_pos (by simp [hk]), List.filter_cons_of_neg (by simp [lt_asym hk]), ih, List.cons_append]
  ·have hb : (L.filter fun e => decide (kb e.1 < kb k)) = [] := by
    rw [List.filter_eq_nil_iff]
    intro a ha
    have := h'.1 a ha
    rw [hk] at this
    simpa using lt_asym this
   rw [List.filter_cons_of_neg (by simp [hk]), List.filter_cons_of_neg (by simp [hk, lt_irrefl_l]), List.filter_cons_of_neg (by simp [hk, lt_irrefl_l]), ih]
  ·have hb : (L.filter fun e => decide (kb e.1 < kb k)) = [] := by
    rw [List.filter_eq_nil_iff]
    intro a ha
    have := List.lt_trans hk (h'.1 a ha)
    simpa using lt_asym this
   rw [List.filter_cons_of_pos (by simp [(lt_ne hk).symm]), List.filter_cons_of_neg (by simp [lt_asym hk]), List.filter_cons_of_pos (by simp [hk]), ih, hb, List.nil_append, List.nil_append]
def atE (L : List Ent) (k : ByteArray) : List Ent := match getE L k with
 | none => []
 | some x => [(k, x)]
theorem parts_E {L : List Ent} (h : Rise L) (k : ByteArray) : L = belE L k ++ (atE L k ++ abvE L k) := by
 induction L with
 | nil => rfl
 | cons e L ih =>
  have h' := List.pairwise_cons.1 h
  have ih := ih h'.2
  have none_b : (∀ a ∈ L, kb k < kb a.1) → belE L k = [] ∧ abvE L k = L ∧ getE L k = none := fun ha => by
   refine ⟨?_, ?_, ?_⟩
   ·unfold belE
    rw [List.filter_eq_nil_iff]
    intro a h
    simpa using lt_asym (ha a h)
   ·unfold abvE
    rw [List.filter_eq_self]
    intro a h
    simpa using ha a h
   ·rw [get_none]
    intro a h
    exact (lt_ne (ha a h)).symm
  rcases tri e.1 k with hk | hk | hk
  ·have e1 : belE (e :: L) k = e :: belE L k := by unfold belE; rw [List.filter_cons_of_pos (by simp [hk])]
   have e2 : abvE (e :: L) k = abvE L k := by unfold abvE; rw [List.filter_cons_of_neg (by simp [lt_asym hk])]
   have e3 : atE (e :: L) k = atE L k := by unfold atE getE; rw [List.find?_cons_of_neg (by simp [lt_ne hk])]
   rw [e1, e2, e3, List.cons_append, ← ih]
  ·obtain ⟨b1, b2, b3⟩ := none_b (fun a ha => by rw [← hk]; exact h'.1 a ha)
   have e1 : belE (e :: L) k = [] := by unfold belE at b1 ⊢; rw [List.filter_cons_of_neg (by simp [hk, lt_irrefl_l]), b1]
   have e2 : abvE (e :: L) k = L := by unfold abvE at b2 ⊢; rw [List.filter_cons_of_neg (by simp [hk, lt_irrefl_l]), b2]
   have e3 : atE (e :: L) k = [e] := by unfold atE getE; rw [List.find?_cons_of_pos (by simp [hk])]; simp [← hk]
   rw [e1, e2, e3]
   rfl
  ·obtain ⟨b1, b2, b3⟩ := none_b (fun a ha => List.lt_trans hk (h'.1 a ha))
   have e1 : belE (e :: L) k = [] := by unfold belE at b1 ⊢; rw [List.filter_cons_of_neg (by simp [lt_asym hk]), b1]
   have e2 : abvE (e :: L) k = e :: L := by unfold abvE at b2 ⊢; rw [List.filter_cons_of_pos (by simp [hk]), b2]
   have e3 : atE (e :: L) k = [] := by
    unfold getE at b3
    unfold atE getE
    rw [List.find?_cons_of_neg (by simp [(lt_ne hk).symm]), b3]
   rw [e1, e2, e3]
   rfl
theorem len_ins {L : List Ent} (h : Rise L) (k : ByteArray) (x : Cel) : (insE L k x).length = if (getE L k).isSome = true then L.length else L.length + 1 := by
 have e := congrArg List.length (parts_E h k)
 unfold insE
 rw [List.length_append, List.length_append] at e
 rw [List.length_append, List.length_cons]
 unfold atE at e
 cases hg : getE L k with
 | none => rw [hg] at e; simp at e ⊢; omega
 | some y => rw [hg] at e; simp at e ⊢; omega
theorem cut_take {L : List Ent} (h : Rise L) (k : ByteArray) : L.take (belE L k).length = belE L k :=
 (congrArg (List.take (belE L k).length) (parts_E h k)).trans List.take_left
theorem cut_drop {L : List Ent} (h : Rise L) (k : ByteArray) : L.drop (belE L k).length = atE L k ++ abvE L k :=
 (congrArg (List.drop (belE L k).length) (parts_E h k)).trans List.drop_left
theorem at_none {L : List Ent} {k : ByteArray} (h : getE L k = none) : atE L k = [] := by unfold atE; rw [h]
theorem at_some {L : List Ent} {k : ByteArray} {x : Cel} (h : getE L k = some x) : atE L k = [(k, x)] := by unfold atE; rw [h]
theorem at_place {L : List Ent} (h : Rise L) (k : ByteArray) : (∀ e, L[(belE L k).length]? = some e → (e.1 = k ↔ (getE L k).isSome = true)) ∧ ((getE L k).isSome = true → ∃ e, L[(belE L k).length]? = some e ∧ e.1 = k ∧ getE L k = some e.2) := by
 have e0 : L[(belE L k).length]? = (L.drop (belE L k).length)[0]? := by rw [List.getElem?_drop, Nat.add_zero]
 rw [e0, cut_drop h k]
 cases hg : getE L k with
 | none =>
  rw [at_none hg, List.nil_append]
  refine ⟨fun e he => ?_, fun h => by cases h⟩
  have hm : e ∈ abvE L k := List.mem_of_getElem? he
  have : kb k < kb e.1 := by simpa using (List.mem_filter.1 hm).2
  simp [(lt_ne this).symm]
 | some y =>
  rw [at_some hg]
  refine ⟨fun e he => ?_, fun _ => ⟨(k, y), rfl, rfl, rfl⟩⟩
  have : (k, y) = e := by simpa using he
  simp [← this]
theorem fm_congr {α β : Type} {f g : α → List β} : ∀ {l : List α}, (∀ i ∈ l, f i = g i) → l.flatMap f = l.flatMap g
 | [], _ => rfl
 | a :: l, h => by
  rw [List.flatMap_cons, List.flatMap_cons, h a List.mem_cons_self, fm_congr (l := l) fun i hi => h i (List.mem_cons_of_mem _ hi)]
def chE (hs : ByteArray → Nat) (lv i : Nat) (L : List Ent) : List Ent := L.filter fun e => decide (chunkN (hs e.1) lv = i)
section
variable {hs : ByteArray → Nat} {lv i : Nat} {L : List Ent} {k : ByteArray} {x : Cel}
theorem filt_comm {α : Type} (q r : α → Bool) (L : List α) : (L.filter q).filter r = (L.filter r).filter q := by
 rw [List.filter_filter, List.filter_filter]
 congr 1
 funext e
 exact Bool.and_comm _ _
theorem Rise.ch (h : Rise L) (hs : ByteArray → Nat) (lv i : Nat) : Rise (chE hs lv i L) := h.filter _
theorem mem_ch {e : Ent} : e ∈ chE hs lv i L ↔ e ∈ L ∧ chunkN (hs e.1) lv = i := by
 unfold chE
 rw [List.mem_filter]
 simp
theorem ch_ins_same (h : chunkN (hs k) lv = i) : chE hs lv i (insE L k x) = insE (chE hs lv i L) k x := by
 unfold chE insE belE abvE
 rw [List.filter_append, List.filter_cons_of_pos (by simp [h]), filt_comm _ (fun e : Ent => decide (chunkN (hs e.1) lv = i)), filt_comm _ (fun e : Ent => decide (chunkN (hs e.1) lv = i))]
theorem ch_del_other (h : chunkN (hs k) lv ≠ i) : chE hs lv i (delE L k) = chE hs lv i L := by
 unfold chE delE
 rw [List.filter_filter]
 refine List.filter_congr fun e _ => ?_
 by_cases hk : e.1 = k
 ·simp [hk, h]
 ·simp [hk]
theorem ch_ins_other (hr : Rise L) (h : chunkN (hs k) lv ≠ i) : chE hs lv i (insE L k x) = chE hs lv i L := by
 rw [← ch_del_other (L := L) h, bel_abv hr k]
 unfold chE insE
 rw [List.filter_append, List.filter_append, List.filter_cons_of_neg (by simp [h])]
theorem ch_get (h : chunkN (hs k) lv = i) : getE (chE hs lv i L) k = getE L k :=
 get_filter _ fun e _ hk => by simp [hk, h]
theorem ch_len_le : (chE hs lv i L).length ≤ L.length := List.length_filter_le _ _
theorem ch_perm (hs : ByteArray → Nat) (lv : Nat) : ∀ L : List Ent, ((List.range 32).flatMap fun i => chE hs lv i L).Perm L
 | [] => by
  have : ((List.range 32).flatMap fun i => chE hs lv i []) = [] := by
   rw [List.flatMap_eq_nil_iff]
   intro i _
   rfl
  rw [this]
 | e :: L => by
  have ih := ch_perm hs lv L
  have hj := chunkN_lt (hs e.1) lv
  generalize hje : chunkN (hs e.1) lv = j at hj
  have hsp : List.range 32 = List.range j ++ (j :: (List.range (31 - j)).map (j + 1 + ·)) := by
   rw [show (32 : Nat) = (j + 1) + (31 - j) by omega, List.range_add, List.range_succ]
   simp
  rw [hsp] at ih ⊢
  rw [List.flatMap_append, List.flatMap_cons] at ih ⊢
  have o : ∀ i, i ≠ j → chE hs lv i (e :: L) = chE hs lv i L := fun i hi => by
   unfold chE
   rw [List.filter_cons_of_neg (by simp [hje]; exact fun h => hi h.symm)]
  have s : chE hs lv j (e :: L) = e :: chE hs lv j L := by
   unfold chE
   rw [List.filter_cons_of_pos (by simp [hje])]
  have f1 : ((List.range j).flatMap fun i => chE hs lv i (e :: L)) = (List.range j).flatMap fun i => chE hs lv i L := by
   refine fm_congr fun i hi => ?_
   rw [List.mem_range] at hi
   exact o i (by omega)
  have f2 : (((List.range (31 - j)).map (j + 1 + ·)).flatMap fun i => chE hs lv i (e :: L)) = ((List.range (31 - j)).map (j + 1 + ·)).flatMap fun i => chE hs lv i L := by
   refine fm_congr fun i hi => ?_
   rw [List.mem_map] at hi
   obtain ⟨a, _, rfl⟩ := hi
   exact o _ (by omega)
  rw [f1, f2, s, List.cons_append]
  exact (List.perm_middle).trans (List.Perm.cons e ih)
end
theorem rise_perm {L M : List Ent} (hL : Rise L) (hM : Rise M) (h : L.Perm M) : L = M :=
 h.eq_of_pairwise (fun _ _ _ _ h1 h2 => absurd h2 (lt_asym h1)) hL hM
end Go.Proofs.YtpodmgihlomglaaGreatDoor
namespace Go.Proofs.YtpodmgihlomglaaGreatDoor
open Go.RowKit
set_option maxRecDepth 1000000
set_option linter.unusedSimpArgs false
structure Kid where
 a : Value
 b : Value
 l : List Cel
 k : Nat
 ha : a.oneCell' = true
 hb : b.oneCell' = true
def kidc (h : Nat) (p : Kid) : List Value := [.int .i64 (p.l.length : Int), .int .i64 ((h + 1 : Nat) : Int), p.a, p.b]
theorem kidc_len (h : Nat) (p : Kid) : (kidc h p).length = 4 := rfl
theorem kidc_one (h : Nat) (p : Kid) : ∀ u ∈ kidc h p, u.oneCell' = true := by
 intro u hu
 simp only [kidc, List.mem_cons, List.not_mem_nil, or_false] at hu
 rcases hu with rfl | rfl | rfl | rfl
 ·rfl
 ·rfl
 ·exact p.ha
 ·exact p.hb
def catK (ks : List Kid) : List Cel := ks.flatMap (·.l)
theorem catK_app (xs ys : List Kid) : catK (xs ++ ys) = catK xs ++ catK ys := by simp [catK]
theorem catK_cons (x : Kid) (ys : List Kid) : catK (x :: ys) = x.l ++ catK ys := by simp [catK]
theorem catK_one (x : Kid) : catK [x] = x.l := by simp [catK]
def NodeR (S : Nat → Prop) (W : World) : Nat → Kid → Prop
 | 0, p => p.a = .slice none 0 0 ∧ p.k = p.l.length ∧ 1 ≤ p.k ∧ p.k ≤ 16 ∧ HeadAt S W 35 4 p.b (ivV p.l) p.k
 | h + 1, p => p.b = .slice none 0 0 ∧ 1 ≤ p.k ∧ p.k ≤ 16 ∧ ∃ ks : List Kid, HeadAt S W 110 4 p.a (en (kidc h) ks) p.k ∧ ks.length = p.k ∧ p.l = catK ks ∧ ∀ q ∈ ks, 8 ≤ q.k ∧ NodeR S W h q
section
variable {S S' : Nat → Prop} {W W' : World} {n₀ : Nat}
theorem NodeR.weak (hs : ∀ g, S g → S' g) : ∀ {h : Nat} {p : Kid}, NodeR S W h p → NodeR S' W h p
 | 0, _, ⟨h1, h2, h3, h4, h5⟩ => ⟨h1, h2, h3, h4, h5.weak hs⟩
 | _ + 1, _, ⟨h1, h2, h3, ks, h4, h5, h6, h7⟩ => ⟨h1, h2, h3, ks, h4.weak hs, h5, h6, fun q hq => ⟨(h7 q hq).1, (h7 q hq).2.weak hs⟩⟩
theorem NodeR.old : ∀ {h : Nat} {p : Kid}, NodeR S W h p → NodeR (fun g => S g ∧ g < W.heap.size) W h p
 | 0, _, ⟨h1, h2, h3, h4, h5⟩ => ⟨h1, h2, h3, h4, h5.old⟩
 | _ + 1, _, ⟨h1, h2, h3, ks, h4, h5, h6, h7⟩ => ⟨h1, h2, h3, ks, h4.old, h5, h6, fun q hq => ⟨(h7 q hq).1, (h7 q hq).2.old⟩⟩
theorem NodeR.kept {row : Option Nat} (hg : W.grownBy W' row) (hr : ∀ X, row = some X → ¬ S X) : ∀ {h : Nat} {p : Kid}, NodeR S W h p → NodeR S W' h p
 | 0, _, ⟨h1, h2, h3, h4, h5⟩ => ⟨h1, h2, h3, h4, h5.kept hg hr⟩
 | _ + 1, _, ⟨h1, h2, h3, ks, h4, h5, h6, h7⟩ => ⟨h1, h2, h3, ks, h4.kept hg hr, h5, h6, fun q hq => ⟨(h7 q hq).1, (h7 q hq).2.kept hg hr⟩⟩
theorem NodeR.keptT {row : Option Nat} (hg : W.grownBy W' row) (hT : ∀ X, row = some X → ∃ o : Obj, W.heap[X]? = some o ∧ ∀ cs fr, o ≠ .cells cs 35 fr ∧ o ≠ .cells cs 110 fr) : ∀ {h : Nat} {p : Kid}, NodeR S W h p → NodeR S W' h p
 | 0, _, ⟨h1, h2, h3, h4, h5⟩ => ⟨h1, h2, h3, h4, h5.keptT hg fun X e => by obtain ⟨o, h1, h2⟩ := hT X e; exact ⟨o, h1, fun cs fr => (h2 cs fr).1⟩⟩
 | _ + 1, _, ⟨h1, h2, h3, ks, h4, h5, h6, h7⟩ => ⟨h1, h2, h3, ks, h4.keptT hg fun X e => by obtain ⟨o, h1, h2⟩ := hT X e; exact ⟨o, h1, fun cs fr => (h2 cs fr).2⟩, h5, h6, fun q hq => ⟨(h7 q hq).1, (h7 q hq).2.keptT hg hT⟩⟩
theorem NodeR.later {h : Nat} {p : Kid} (hn : NodeR S W h p) (hb : Below W.heap.size W W') : NodeR S W' h p :=
 hn.kept (row := none) ⟨hb.os, hb.tape, hb.output, hb.size, fun k hk _ => hb.block k hk⟩ (fun _ e => by cases e)
theorem NodeR.low (hb : Below n₀ W W') : ∀ {h : Nat} {p : Kid}, NodeR (fun g => g < n₀) W h p → NodeR (fun g => g < n₀) W' h p
 | 0, _, ⟨h1, h2, h3, h4, h5⟩ => ⟨h1, h2, h3, h4, h5.low hb⟩
 | _ + 1, _, ⟨h1, h2, h3, ks, h4, h5, h6, h7⟩ => ⟨h1, h2, h3, ks, h4.low hb, h5, h6, fun q hq => ⟨(h7 q hq).1, (h7 q hq).2.low hb⟩⟩
theorem NodeR.wid {h : Nat} {p : Kid} (hn : NodeR S W h p) : 1 ≤ p.k ∧ p.k ≤ 16 := by
 cases h with
 | zero => exact ⟨hn.2.2.1, hn.2.2.2.1⟩
 | succ h => exact ⟨hn.2.1, hn.2.2.1⟩
theorem NodeR.shape {h : Nat} {p : Kid} (hn : NodeR S W h p) : (∃ q k c, p.a = .slice q k c) ∧ ∃ q k c, p.b = .slice q k c := by
 cases h with
 | zero => obtain ⟨q, c, e, _⟩ := hn.2.2.2.2.shape; exact ⟨⟨_, _, _, hn.1⟩, _, _, _, e⟩
 | succ h => obtain ⟨h1, _, _, ks, h4, _⟩ := hn; obtain ⟨q, c, e, _⟩ := h4.shape; exact ⟨⟨_, _, _, e⟩, _, _, _, h1⟩
end
theorem cat_lower {c : Nat} : ∀ ks : List Kid, (∀ q ∈ ks, c ≤ q.l.length) → ks.length * c ≤ (catK ks).length
 | [], _ => by simp [catK]
 | q :: ks, h => by
  have h1 := cat_lower ks (fun x hx => h x (List.mem_cons_of_mem _ hx))
  have h2 := h q (List.mem_cons_self ..)
  rw [catK_cons, List.length_append, List.length_cons, Nat.add_mul]
  omega
theorem cat_upper {c : Nat} : ∀ ks : List Kid, (∀ q ∈ ks, q.l.length ≤ c) → (catK ks).length ≤ ks.length * c
 | [], _ => by simp [catK]
 | q :: ks, h => by
  have h1 := cat_upper ks (fun x hx => h x (List.mem_cons_of_mem _ hx))
  have h2 := h q (List.mem_cons_self ..)
  rw [catK_cons, List.length_append, List.length_cons, Nat.add_mul]
  omega
theorem NodeR.least {S : Nat → Prop} {W : World} : ∀ {h : Nat} {p : Kid}, NodeR S W h p → p.k * 8 ^ h ≤ p.l.length
 | 0, p, hn => by rw [hn.2.1]; simp
 | h + 1, p, ⟨_, _, _, ks, _, h5, h6, h7⟩ => by
  rw [h6, ← h5]
  refine Nat.le_trans ?_ (cat_lower (c := 8 ^ (h + 1)) ks fun q hq => ?_)
  ·exact Nat.le_refl _
  ·have h1 := NodeR.least (h7 q hq).2
   have h2 : 8 * 8 ^ h ≤ q.k * 8 ^ h := Nat.mul_le_mul_right _ (h7 q hq).1
   rw [Nat.pow_succ]
   omega
theorem NodeR.most {S : Nat → Prop} {W : World} : ∀ {h : Nat} {p : Kid}, NodeR S W h p → p.l.length ≤ p.k * 16 ^ h
 | 0, p, hn => by rw [hn.2.1]; simp
 | h + 1, p, ⟨_, _, _, ks, _, h5, h6, h7⟩ => by
  rw [h6, ← h5]
  refine Nat.le_trans (cat_upper (c := 16 ^ (h + 1)) ks fun q hq => ?_) (Nat.le_refl _)
  have h1 := NodeR.most (h7 q hq).2
  have h2 : q.k * 16 ^ h ≤ 16 * 16 ^ h := Nat.mul_le_mul_right _ (h7 q hq).2.wid.2
  rw [Nat.pow_succ]
  omega
theorem NodeR.high {S : Nat → Prop} {W : World} {h : Nat} {p : Kid} (hn : NodeR S W h p) : h < p.l.length := by
 have h1 := hn.least
 have h2 : h < 8 ^ h := Nat.lt_pow_self (by decide)
 have h3 : 1 * 8 ^ h ≤ p.k * 8 ^ h := Nat.mul_le_mul_right _ hn.wid.1
 omega
theorem NodeR.len0 {S : Nat → Prop} {W : World} {h : Nat} {p : Kid} (hn : NodeR S W h p) : 0 < p.l.length := by have := hn.high; omega
def NodesR (S : Nat → Prop) (W : World) (h : Nat) (v : Value) (ks : List Kid) : Prop := CutAt S W 4 v (en (kidc h) ks) ks.length ∧ ∀ p ∈ ks, NodeR S W h p
section
variable {S S' : Nat → Prop} {W W' : World} {h : Nat} {v : Value} {ks : List Kid}
theorem NodesR.weak (hn : NodesR S W h v ks) (hs : ∀ g, S g → S' g) : NodesR S' W h v ks := ⟨hn.1.weak hs, fun p hp => (hn.2 p hp).weak hs⟩
theorem NodesR.old (hn : NodesR S W h v ks) : NodesR (fun g => S g ∧ g < W.heap.size) W h v ks := ⟨hn.1.old, fun p hp => (hn.2 p hp).old⟩
theorem NodesR.kept {row : Option Nat} (hn : NodesR S W h v ks) (hg : W.grownBy W' row) (hr : ∀ X, row = some X → ¬ S X) : NodesR S W' h v ks := ⟨hn.1.kept hg hr, fun p hp => (hn.2 p hp).kept hg hr⟩
theorem NodesR.later (hn : NodesR S W h v ks) (hb : Below W.heap.size W W') : NodesR S W' h v ks := ⟨hn.1.later hb, fun p hp => (hn.2 p hp).later hb⟩
end
def Fit (N : Nat) (ks : List Kid) : Prop := ks.length = cntN N ∧ ∀ p ∈ ks, (2 ≤ ks.length → 8 ≤ p.k) ∧ (ks.length = 1 → p.k = N)
def zeroR : Array Value := #[.int .i64 0, .int .i64 0, .slice none 0 0, .slice none 0 0]
def RootR (S : Nat → Prop) (W : World) (c : Array Value) (l : List Cel) : Prop :=
 (l = [] ∧ c = zeroR) ∨ ∃ h p, c = (kidc h p).toArray ∧ p.l = l ∧ NodeR S W h p ∧ (h = 0 ∨ 2 ≤ p.k)
section
variable {S S' : Nat → Prop} {W W' : World} {c : Array Value} {l : List Cel} {n₀ : Nat}
theorem RootR.weak (hn : RootR S W c l) (hs : ∀ g, S g → S' g) : RootR S' W c l := by
 rcases hn with hn | ⟨h, p, h1, h2, h3, h4⟩
 ·exact .inl hn
 ·exact .inr ⟨h, p, h1, h2, h3.weak hs, h4⟩
theorem RootR.old (hn : RootR S W c l) : RootR (fun g => S g ∧ g < W.heap.size) W c l := by
 rcases hn with hn | ⟨h, p, h1, h2, h3, h4⟩
 ·exact .inl hn
 ·exact .inr ⟨h, p, h1, h2, h3.old, h4⟩
theorem RootR.kept {row : Option Nat} (hn : RootR S W c l) (hg : W.grownBy W' row) (hr : ∀ X, row = some X → ¬ S X) : RootR S W' c l := by
 rcases hn with hn | ⟨h, p, h1, h2, h3, h4⟩
 ·exact .inl hn
 ·exact .inr ⟨h, p, h1, h2, h3.kept hg hr, h4⟩
theorem RootR.keptT {row : Option Nat} (hn : RootR S W c l) (hg : W.grownBy W' row) (hT : ∀ X, row = some X → ∃ o : Obj, W.heap[X]? = some o ∧ ∀ cs fr, o ≠ .cells cs 35 fr ∧ o ≠ .cells cs 110 fr) : RootR S W' c l := by
 rcases hn with hn | ⟨h, p, h1, h2, h3, h4⟩
 ·exact .inl hn
 ·exact .inr ⟨h, p, h1, h2, h3.keptT hg hT, h4⟩
theorem RootR.later (hn : RootR S W c l) (hb : Below W.heap.size W W') : RootR S W' c l := by
 rcases hn with hn | ⟨h, p, h1, h2, h3, h4⟩
 ·exact .inl hn
 ·exact .inr ⟨h, p, h1, h2, h3.later hb, h4⟩
theorem RootR.low (hn : RootR (fun g => g < n₀) W c l) (hb : Below n₀ W W') : RootR (fun g => g < n₀) W' c l := by
 rcases hn with hn | ⟨h, p, h1, h2, h3, h4⟩
 ·exact .inl hn
 ·exact .inr ⟨h, p, h1, h2, h3.low hb, h4⟩
theorem RootR.but {X : Nat} {cs : Array Value} {T : TypeId} {fr : Nat × Nat} (hn : RootR S W c l) (k : Only X W W') (hX : W.heap[X]? = some (.cells cs T fr)) (h1 : T ≠ 35) (h2 : T ≠ 110) : RootR S W' c l :=
 hn.keptT k.by_ fun Y e => by
  cases e
  exact ⟨_, hX, fun cs fr => ⟨fun e => (by simp only [Obj.cells.injEq] at e; exact h1 e.2.1), fun e => (by simp only [Obj.cells.injEq] at e; exact h2 e.2.1)⟩⟩
theorem RootR.size (hn : RootR S W c l) : c.size = 4 := by
 rcases hn with ⟨_, rfl⟩ | ⟨h, p, rfl, _⟩ <;> rfl
theorem RootR.one (hn : RootR S W c l) : c.all (·.oneCell') = true := by
 rcases hn with ⟨_, rfl⟩ | ⟨h, p, rfl, _⟩
 ·simp [zeroR, Value.oneCell']
 ·rw [Array.all_eq_true_iff_forall_mem]
  intro u hu
  exact kidc_one h p u (by simpa using hu)
theorem RootR.n (hn : RootR S W c l) : c[0]? = some (.int .i64 (l.length : Int)) := by
 rcases hn with ⟨rfl, rfl⟩ | ⟨h, p, rfl, rfl, _⟩ <;> rfl
theorem RootR.cells (hn : RootR S W c l) : ∃ (d : Nat) (q1 : Option Addr) (n1 c1 : Nat) (q2 : Option Addr) (n2 c2 : Nat), c = #[.int .i64 (l.length : Int), .int .i64 (d : Int), .slice q1 n1 c1, .slice q2 n2 c2] ∧ d ≤ l.length ∧ (d = 0 ↔ l.length = 0) ∧ (2 ≤ d → 2 * 8 ^ (d - 1) ≤ l.length) ∧ l.length ≤ 16 ^ d := by
 rcases hn with ⟨rfl, rfl⟩ | ⟨h, p, rfl, rfl, h3, h4⟩
 ·exact ⟨0, _, _, _, _, _, _, rfl, Nat.le_refl _, Iff.rfl, fun h => absurd h (by omega), by simp⟩
 ·obtain ⟨⟨q1, n1, c1, e1⟩, q2, n2, c2, e2⟩ := h3.shape
  have h5 := h3.high
  have h6 := h3.most
  have h7 := h3.wid
  refine ⟨h + 1, q1, n1, c1, q2, n2, c2, by rw [kidc, e1, e2], by omega, by constructor <;> (intro; omega), fun h8 => ?_, ?_⟩
  ·have h9 := h3.least
   have : 2 * 8 ^ h ≤ p.k * 8 ^ h := Nat.mul_le_mul_right _ (by rcases h4 with h4 | h4 <;> omega)
   rw [Nat.add_sub_cancel]
   omega
  ·have : p.k * 16 ^ h ≤ 16 * 16 ^ h := Nat.mul_le_mul_right _ h7.2
   rw [Nat.pow_succ]
   omega
end
end Go.Proofs.YtpodmgihlomglaaGreatDoor
namespace Go.Proofs.YtpodmgihlomglaaGreatDoor
open Go.RowKit
set_option maxRecDepth 1000000
set_option linter.unusedSimpArgs false
section
variable {P : Program}
theorem run_copy_full (w : World) (dT sT ty elem : TypeId) (g m s : Nat) (a : Addr) (n sCap : Nat) (cur : Array Value) (t : TypeId) (cs : List Value)
  (hu : P.underlying dT = some (.slice elem)) (hs : (P.info? elem).map (·.size) = some s)
  (hg : w.heap[g]? = some (.cells cur t (0, 0))) (hle : m ≤ n) (hn : cs.length = m * s)
  (hsrc : ∀ j v, cs[j]? = some v → w.cell? (a.add j) = some v) (hfit : cur.size = m * s) (h1 : ∀ v ∈ cs, v.oneCell' = true) :
  (Builtin.copy_ #[dT, sT] ty #[.slice (some ⟨g, 0, none⟩) m m, .slice (some a) n sCap]).run P w = .ok (goInt m) (w.setRow g cs.toArray) := by
 have hl := run_loadCells_list (P := P) w a cs hsrc
 have hst := run_storeCells_at P g 0 t cs 0 cur w hg (by omega) h1
 have hmin : Nat.min n m = m := Nat.min_eq_right hle
 have e : (cur.toList.take 0 ++ cs ++ cur.toList.drop (0 + cs.length)).toArray = cs.toArray := by
  rw [List.take_zero, List.nil_append, List.drop_of_length_le (by rw [Array.length_toList]; omega), List.append_nil]
 cases hq : P.info? elem with
 | none => simp [hq] at hs
 | some i =>
  have hi : i.size = s := by simpa [hq] using hs
  rw [hn] at hl
  simp only [Nat.add_zero, e] at hst
  simp [Builtin.copy_, run_underlying hu, Builtin.lenOf, Builtin.firstCells, sizeOf, typeInfo, hq, hi, hmin, hl, hst]
theorem wpList_copy_full {w : World} {S : Nat → Prop} {ops : Array Oper} {rest : List Oper} {o : Oper} {a : Act} {Q : Exit → Act → World → Prop} (hgd : o.guard = none) (d x : Operand) (dT sT : TypeId)
  (ho : o.op = .call { callee := .builtin .copy, args := #[d, x], argTypes := #[dT, sT] }) (elem : TypeId) (hu : P.underlying dT = some (.slice elem)) (s : Nat) (hsz : (P.info? elem).map (·.size) = some s)
  (g m : Nat) (hd : a.eval d = .slice (some ⟨g, 0, none⟩) m m) {v : Value} (hv : a.eval x = v) {cs : List Value} {n : Nat} (hc : CutAt S w s v cs n) (hm : m ≤ n) (h0 : 0 < m)
  (T : TypeId) (cur : Array Value) (hg : w.heap[g]? = some (.cells cur T (0, 0))) (hfit : cur.size = m * s) (h1 : ∀ u ∈ cs, u.oneCell' = true)
  (h : ∀ w', w'.heap[g]? = some (.cells (cs.take (m * s)).toArray T (0, 0)) → Only g w w' → wpList P ops Q rest (a.put o.dst (goInt m)) w') : wpList P ops Q (o :: rest) a w := by
 obtain ⟨g', o', c', rfl, h2, h3, h4, h5⟩ := hc.pos (by omega)
 have hl := hc.len
 have hrun := run_copy_full (P := P) w dT sT o.type elem g m s ⟨g', o', none⟩ n c' cur T (cs.take (m * s)) hu hsz hg hm (by rw [List.length_take, hl, Nat.min_eq_left (Nat.mul_le_mul_right _ hm)])
  (fun j u hu => by
   rw [add_at]
   refine h5 j u ?_
   rw [List.getElem?_take] at hu
   split at hu
   ·exact hu
   ·cases hu) hfit (fun u hu => h1 u (List.mem_of_mem_take hu))
 refine wpList_plain hgd fun K hK => ?_
 unfold Oper.wp
 simp [execOp, ho, resolve, invoke, builtin, hd, hv, hrun, Result.andThen]
 exact hK _ _ (h _ (setRow_heap w g _ _ _ _ hg) (only_setRow _ _ _))
end
def PartsAt {α : Type} (enc : α → List Value) (S : Nat → Prop) (W : World) (t : TypeId) (s : Nat) (v : Value) (pl : List (Value × List α)) : Prop :=
 ∃ (a : Option Addr) (g cap : Nat), v = .slice a pl.length cap ∧ (0 < pl.length → a = some ⟨g, 0, none⟩) ∧ (∀ k (hk : k < pl.length), W.cell? ⟨g, k, none⟩ = some pl[k].1) ∧ ∀ p ∈ pl, HeadAt S W t s p.1 (en enc p.2) p.2.length
theorem tv_size : ∀ w, (sizeOf (Tryz.prog.elem 55)).run Tryz.prog w = .ok 4 w := fun w => by
 have e : Tryz.prog.elem 55 = 35 := by kernel_rfl
 rw [e]
 obtain ⟨i, hi, _, h1, _⟩ := info_parts val_info
 simp [sizeOf, typeInfo, hi, h1]
theorem tn_size : ∀ w, (sizeOf (Tryz.prog.elem 108)).run Tryz.prog w = .ok 4 w := fun w => by
 have e : Tryz.prog.elem 108 = 110 := by kernel_rfl
 rw [e]
 obtain ⟨i, hi, _, h1, _⟩ := info_parts rnode_info
 simp [sizeOf, typeInfo, hi, h1]
theorem tv_sl : Tryz.prog.underlying 55 = some (.slice (Tryz.prog.elem 55)) := by kernel_rfl
theorem tn_sl : Tryz.prog.underlying 108 = some (.slice (Tryz.prog.elem 108)) := by kernel_rfl
theorem part_head {α : Type} {enc : α → List Value} {s : Nat} (henc : ∀ x, (enc x).length = s) {W : World} {T : TypeId} {g m B : Nat} {xs : List α} (hB : B ≤ g) (hm : m ≤ xs.length) (h0 : 0 < m)
  (hg : W.heap[g]? = some (.cells ((en enc xs).take (m * s)).toArray T (0, 0))) : HeadAt (fun g => B ≤ g) W T s (.slice (some ⟨g, 0, none⟩) m m) (en enc (xs.take m)) m := by
 rw [en_take henc] at hg
 refine ⟨by rw [en_len henc, List.length_take, Nat.min_eq_left hm], .inr ⟨h0, g, m, _, (0, 0), rfl, Nat.le_refl _, hB, hg, fun j u hu => by simpa using hu⟩⟩
set_option maxHeartbeats 4000000 in
theorem sp_val {α : Type} {enc : α → List Value} (henc : ∀ x, (enc x).length = 4) (hone : ∀ x, ∀ u ∈ enc x, u.oneCell' = true) (w : World) {S : Nat → Prop} (B : Nat) (ls : List (Value × List α))
  (hcells : ∀ k (hk : k < ls.length), w.cell? ⟨B, k, none⟩ = some ls[k].1) (hcut : ∀ p ∈ ls, CutAt S w 4 p.1 (en enc p.2) p.2.length) (xs : List α) (hxs : catE ls ls.length = xs) (hN : xs.length ≤ 100000) (hl : ls.length ≤ 1000) :
  Calls Tryz.prog 145 #[.slice (some ⟨B, 0, none⟩) ls.length ls.length] w fun e w' => ∃ v, e = .returned v ∧ ∃ pl, PartsAt enc (fun g => w.heap.size ≤ g) w' 35 4 v pl ∧ pl.map (·.2) = chunks (cntN xs.length) xs ∧ Below w.heap.size w w' := by
 obtain ⟨i, hi, hz, h1, h2⟩ := info_parts val_info
 have HCC := Lib.hid (cc_val hone w B ls hcells hcut (by rw [hxs]; exact hN) hl)
 rw [hxs] at HCC
 have HI := Lib.hid (And.intro hi (And.intro hz (And.intro h1 h2)))
 obtain ⟨N, hN'⟩ : ∃ N, N = xs.length := ⟨_, rfl⟩
 have HN := Lib.hid hN
 rw [← hN'] at hN HCC
 have hN6 : (N : Int) ≤ 100000 := by omega
 have HCNT : Hid (((N : Int) + 16 - 1) / 16 = (cntN N : Nat)) := by show _ = _; unfold cntN; omega
 have HNN := Lib.hid hN'
 clear hi hz h1 h2 hcells hcut hxs hN hN'
 go_enter Tryz.func145, Tryz.ntmps145
 go_wp2_with (go_at_call 166; refine HCC.out.mono ?_; rintro e w1 ⟨v1, rfl, hc1, hb1⟩; obtain ⟨a1, c1, rfl, _⟩ := hc1.shape; have HC1 := Lib.hid hc1; have HB1 := Lib.hid hb1; clear hc1 hb1)
 go_loopw [3, 4, 5] (fun all parts left wr => ∃ (c : Nat) (rest : List α) (a : Option Addr) (cp : Nat) (done : List (Value × List α)), left = .int .i64 (c : Int) ∧ all = .slice a rest.length cp ∧ Hid ((c = 0 → rest = []) ∧ 1 * c ≤ rest.length ∧ rest.length ≤ N ∧ done.length + c = cntN N ∧ done.map (·.2) ++ chunks c rest = chunks (cntN N) xs) ∧
  Hid (CutAt (fun g => g < w1.heap.size) wr 4 (.slice a rest.length cp) (en enc rest) rest.length) ∧ Hid (RowsOwn w1.heap.size 55 1 parts (done.map fun p => #[p.1]) wr) ∧ Hid (∀ p ∈ done, HeadAt (fun g => w1.heap.size ≤ g) wr 35 4 p.1 (en enc p.2) p.2.length) ∧ Hid (Below w.heap.size w wr)) (fun _ _ left _ => (intOf left).toNat)
 case atStart =>
  refine ⟨cntN N, xs, a1, c1, [], by rw [HCNT.out], by rw [HNN.out], ⟨fun h => ?_, ?_, by rw [HNN.out]; exact Nat.le_refl _, by simp, by simp⟩, ?_, ?_, Lib.hid (fun p h => by cases h), HB1⟩
  ·refine List.eq_nil_of_length_eq_zero ?_
   rw [← HNN.out]
   unfold cntN at h
   omega
  ·rw [← HNN.out]
   unfold cntN
   omega
  ·have h := HC1.out.old.weak (S' := fun g => g < w1.heap.size) (fun g hg => hg.2)
   rw [HNN.out] at h
   exact h
  ·exact ⟨World.ownsRowF_nil _ _ _ _, Nat.le_refl _, fun c h => by cases h⟩
 case round =>
  have HB1' : Hid (w.heap.size ≤ w1.heap.size) := HB1.out.size
  clear HC1 HCC HB1
  obtain ⟨c, rest, a, cp, done, rfl, rfl, HR, HC, HP, HD, HB⟩ := hrel
  by_cases h0 : c = 0
  ·subst h0
   go_wp2_with fail
   go_ret
   refine ⟨_, rfl, done, ?_, by have := HR.out.2.2.2.2; rw [← HNN.out]; simpa [chunks] using this, HB.out⟩
   rcases Nat.eq_zero_or_pos done.length with hd | hd
   ·obtain rfl := List.eq_nil_of_length_eq_zero hd
    obtain ⟨_, h2⟩ := HP.out.1
    rcases h2 with ⟨e, _⟩ | ⟨g, cap, cur, fz, e, _⟩
    ·exact ⟨none, 0, 0, e, fun h => absurd h (by simp), fun k hk => absurd hk (by simp), fun p h => by cases h⟩
    ·exact ⟨some ⟨g, 0, none⟩, g, cap, e, fun _ => rfl, fun k hk => absurd hk (by simp), fun p h => by cases h⟩
   ·obtain ⟨g, cap, cur, fz, e, _⟩ := HP.out.at_ (by intro e; rw [List.map_eq_nil_iff] at e; rw [e] at hd; simp at hd)
    rw [List.length_map] at e
    refine ⟨some ⟨g, 0, none⟩, g, cap, e, fun _ => rfl, fun k hk => ?_, fun p hp => (HD.out p hp).weak fun g hg => Nat.le_trans HB1'.out hg⟩
    have hr := HP.out.read e (i := k) (c := #[done[k].1]) (by rw [List.getElem?_map, List.getElem?_eq_getElem hk]; rfl)
    have := hr 0 done[k].1 rfl
    rwa [Nat.mul_one, Nat.add_zero] at this
  ·have hR := HR.out
   have hc0 : ((c : Int) > 0) := by omega
   have hc1 : ¬ ((c : Int) = 0) := by omega
   obtain ⟨c', hce⟩ : ∃ c', c = c' + 1 := ⟨c - 1, by omega⟩
   obtain ⟨m, hm⟩ : ∃ m, m = rest.length / (c' + 1) := ⟨_, rfl⟩
   rw [hce] at hR
   have hm0 : 0 < m := by have := (chunk_step hR.2.1).1; omega
   have hmle : m ≤ rest.length := by rw [hm]; exact Nat.div_le_self _ _
   have hq1 : (rest.length : Int) / (c : Int) = (m : Int) := by rw [hm, hce]; exact (Int.natCast_ediv _ _).symm
   have hm5 : (m : Int) ≤ 100000 := by omega
   have hcs : ((c : Int) - 1) = (c' : Int) := by omega
   have hc5 : (c : Int) ≤ 100000 := by omega
   obtain ⟨a3, c3, hc3, hr3⟩ := cut_l 55 tv_sl tv_size HC.out (lo := m) hmle
   rw [en_drop henc] at hc3
   have HC3 := Lib.hid hc3
   have HM := Lib.hid (And.intro hm (And.intro hm0 hmle))
   have HRN := Lib.hid hR
   have hrl : (rest.length : Int) ≤ 100000 := by omega
   have HW1 : Hid (w1.heap.size ≤ wr.heap.size) := HP.out.2.1
   have HCE := Lib.hid hce
   clear hm hm0 hmle hR hc3 h0 hce HR
   go_wp2_with (first
    | (refine wpList_make_s _ rfl _ _ 55 rfl 35 i (.agg (celC zeroV)) 4 Tryz.underlying55 HI.out.1 HI.out.2.1 HI.out.2.2.1 .i64 .i64 m rfl rfl (by rw [HI.out.2.2.2]; omega) (by omega) ?_)
    | (refine wpList_copy_full rfl _ _ 55 55 rfl 35 Tryz.underlying55 4 val_size wr.heap.size m rfl rfl (HC.out.later (Below.newly' _ _)) HM.out.2.2 HM.out.2.1 35 _ (heap_alloc_last _ _) (by simp [size_madeCells]) (en_one hone _) ?_; intro w4 h4 k4; have HG4 := Lib.hid h4; have HB4 : Hid (Below wr.heap.size wr w4) := (Below.newly' _ _).trans (k4.below (Nat.le_refl _)); clear h4 k4)
    | (refine rows_list rfl (z := .slice none 0 0) (by_ := 24) 198 55 _ _ rfl rfl ((HP.out.later HB4.out).later (Below.newly' _ _)) w4.heap.size rfl (heap_alloc_last w4 _) rfl (by simp [Value.oneCell']) Tryz.underlying198 (by kernel_rfl) rfl (by decide) (by rw [List.length_map]; have := HRN.out; have := HN.out; have := HNN.out; unfold cntN at *; omega) (by decide) ?_; intro v6 w6 hp6 hg6; have HP6 := Lib.hid hp6; have HG6 := Lib.hid hg6; clear hp6 hg6))
   go_roundw
   case rel =>
    have hm := HM.out
    have hR := HRN.out
    have hw1 := HW1.out
    have hb5 : Below wr.heap.size wr (w4.alloc (.cells #[.slice (some ⟨wr.heap.size, 0, none⟩) m m] 55)) := Below.more HB4.out _
    have hp5 : RowsOwn w1.heap.size 55 1 u4 (done.map fun p => #[p.1]) (w4.alloc (.cells #[.slice (some ⟨wr.heap.size, 0, none⟩) m m] 55)) := HP.out.later hb5
    have hdl : (rest.drop m).length = rest.length - m := List.length_drop
    have hst := (chunk_step hR.2.1).2
    rw [← hm.1] at hst
    have htl : (rest.take m).length = m := by rw [List.length_take, Nat.min_eq_left hm.2.2]
    refine ⟨c', rest.drop m, a3, c3, done ++ [(.slice (some ⟨wr.heap.size, 0, none⟩) m m, rest.take m)], rfl, by rw [hdl], ⟨fun h => ?_, by rw [hdl]; exact hst, by rw [hdl]; omega, ?_, ?_⟩, ?_, ?_, Lib.hid (fun p hp => ?_), ?_⟩
    ·refine List.eq_nil_of_length_eq_zero ?_
     rw [hdl, hm.1, h]
     simp
    ·rw [List.length_append, List.length_singleton]
     omega
    ·rw [← hR.2.2.2.2, List.map_append, List.append_assoc, chunks, ← hm.1]
     rfl
    ·rw [hdl]
     exact (HC3.out.later hb5).kept HG6.out (fun X e => by
      rcases hp5.own with h | ⟨g, _, _, h, h2, _⟩
      ·have e' : u4.ownBlock = some X := e
       rw [h] at e'; cases e'
      ·have e' : u4.ownBlock = some X := e
       rw [h] at e'; obtain rfl := Option.some.inj e'; omega)
    ·rw [List.map_append]
     exact HP6.out
    ·have hT : ∀ X, u4.ownBlock = some X → ∃ o : Obj, (w4.alloc (.cells #[.slice (some ⟨wr.heap.size, 0, none⟩) m m] 55)).heap[X]? = some o ∧ ∀ cs fr, o ≠ .cells cs 35 fr := fun X e => by
      obtain ⟨cs, fr, h⟩ := hp5.typed' X e
      exact ⟨_, h, fun cs' fr' e => by cases e⟩
     rcases List.mem_append.1 hp with hp | hp
     ·exact ((HD.out p hp).later hb5).keptT HG6.out hT
     ·rw [List.mem_singleton] at hp
      subst hp
      rw [htl]
      exact ((part_head henc hw1 hm.2.2 hm.2.1 HG4.out).later (Below.newly' _ _)).keptT HG6.out hT
    ·exact (tW HB.out hb5).trans (hp5.below HG6.out (Nat.le_trans HB1'.out (Nat.le_refl _)) (by have := hb5.size; have := HB.out.size; omega))
   case measure => have := HCE.out; simp [intOf]; omega
set_option maxHeartbeats 4000000 in
theorem sp_node {α : Type} {enc : α → List Value} (henc : ∀ x, (enc x).length = 4) (hone : ∀ x, ∀ u ∈ enc x, u.oneCell' = true) (w : World) {S : Nat → Prop} (B : Nat) (ls : List (Value × List α))
  (hcells : ∀ k (hk : k < ls.length), w.cell? ⟨B, k, none⟩ = some ls[k].1) (hcut : ∀ p ∈ ls, CutAt S w 4 p.1 (en enc p.2) p.2.length) (xs : List α) (hxs : catE ls ls.length = xs) (hN : xs.length ≤ 100000) (hl : ls.length ≤ 1000) :
  Calls Tryz.prog 144 #[.slice (some ⟨B, 0, none⟩) ls.length ls.length] w fun e w' => ∃ v, e = .returned v ∧ ∃ pl, PartsAt enc (fun g => w.heap.size ≤ g) w' 110 4 v pl ∧ pl.map (·.2) = chunks (cntN xs.length) xs ∧ Below w.heap.size w w' := by
 obtain ⟨i, hi, hz, h1, h2⟩ := info_parts rnode_info
 have HCC := Lib.hid (cc_node hone w B ls hcells hcut (by rw [hxs]; exact hN) hl)
 rw [hxs] at HCC
 have HI := Lib.hid (And.intro hi (And.intro hz (And.intro h1 h2)))
 obtain ⟨N, hN'⟩ : ∃ N, N = xs.length := ⟨_, rfl⟩
 have HN := Lib.hid hN
 rw [← hN'] at hN HCC
 have hN6 : (N : Int) ≤ 100000 := by omega
 have HCNT : Hid (((N : Int) + 16 - 1) / 16 = (cntN N : Nat)) := by show _ = _; unfold cntN; omega
 have HNN := Lib.hid hN'
 clear hi hz h1 h2 hcells hcut hxs hN hN'
 go_enter Tryz.func144, Tryz.ntmps144
 go_wp2_with (go_at_call 165; refine HCC.out.mono ?_; rintro e w1 ⟨v1, rfl, hc1, hb1⟩; obtain ⟨a1, c1, rfl, _⟩ := hc1.shape; have HC1 := Lib.hid hc1; have HB1 := Lib.hid hb1; clear hc1 hb1)
 go_loopw [3, 4, 5] (fun all parts left wr => ∃ (c : Nat) (rest : List α) (a : Option Addr) (cp : Nat) (done : List (Value × List α)), left = .int .i64 (c : Int) ∧ all = .slice a rest.length cp ∧ Hid ((c = 0 → rest = []) ∧ 1 * c ≤ rest.length ∧ rest.length ≤ N ∧ done.length + c = cntN N ∧ done.map (·.2) ++ chunks c rest = chunks (cntN N) xs) ∧
  Hid (CutAt (fun g => g < w1.heap.size) wr 4 (.slice a rest.length cp) (en enc rest) rest.length) ∧ Hid (RowsOwn w1.heap.size 108 1 parts (done.map fun p => #[p.1]) wr) ∧ Hid (∀ p ∈ done, HeadAt (fun g => w1.heap.size ≤ g) wr 110 4 p.1 (en enc p.2) p.2.length) ∧ Hid (Below w.heap.size w wr)) (fun _ _ left _ => (intOf left).toNat)
 case atStart =>
  refine ⟨cntN N, xs, a1, c1, [], by rw [HCNT.out], by rw [HNN.out], ⟨fun h => ?_, ?_, by rw [HNN.out]; exact Nat.le_refl _, by simp, by simp⟩, ?_, ?_, Lib.hid (fun p h => by cases h), HB1⟩
  ·refine List.eq_nil_of_length_eq_zero ?_
   rw [← HNN.out]
   unfold cntN at h
   omega
  ·rw [← HNN.out]
   unfold cntN
   omega
  ·have h := HC1.out.old.weak (S' := fun g => g < w1.heap.size) (fun g hg => hg.2)
   rw [HNN.out] at h
   exact h
  ·exact ⟨World.ownsRowF_nil _ _ _ _, Nat.le_refl _, fun c h => by cases h⟩
 case round =>
  have HB1' : Hid (w.heap.size ≤ w1.heap.size) := HB1.out.size
  clear HC1 HCC HB1
  obtain ⟨c, rest, a, cp, done, rfl, rfl, HR, HC, HP, HD, HB⟩ := hrel
  by_cases h0 : c = 0
  ·subst h0
   go_wp2_with fail
   go_ret
   refine ⟨_, rfl, done, ?_, by have := HR.out.2.2.2.2; rw [← HNN.out]; simpa [chunks] using this, HB.out⟩
   rcases Nat.eq_zero_or_pos done.length with hd | hd
   ·obtain rfl := List.eq_nil_of_length_eq_zero hd
    obtain ⟨_, h2⟩ := HP.out.1
    rcases h2 with ⟨e, _⟩ | ⟨g, cap, cur, fz, e, _⟩
    ·exact ⟨none, 0, 0, e, fun h => absurd h (by simp), fun k hk => absurd hk (by simp), fun p h => by cases h⟩
    ·exact ⟨some ⟨g, 0, none⟩, g, cap, e, fun _ => rfl, fun k hk => absurd hk (by simp), fun p h => by cases h⟩
   ·obtain ⟨g, cap, cur, fz, e, _⟩ := HP.out.at_ (by intro e; rw [List.map_eq_nil_iff] at e; rw [e] at hd; simp at hd)
    rw [List.length_map] at e
    refine ⟨some ⟨g, 0, none⟩, g, cap, e, fun _ => rfl, fun k hk => ?_, fun p hp => (HD.out p hp).weak fun g hg => Nat.le_trans HB1'.out hg⟩
    have hr := HP.out.read e (i := k) (c := #[done[k].1]) (by rw [List.getElem?_map, List.getElem?_eq_getElem hk]; rfl)
    have := hr 0 done[k].1 rfl
    rwa [Nat.mul_one, Nat.add_zero] at this
  ·have hR := HR.out
   have hc0 : ((c : Int) > 0) := by omega
   have hc1 : ¬ ((c : Int) = 0) := by omega
   obtain ⟨c', hce⟩ : ∃ c', c = c' + 1 := ⟨c - 1, by omega⟩
   obtain ⟨m, hm⟩ : ∃ m, m = rest.length / (c' + 1) := ⟨_, rfl⟩
   rw [hce] at hR
   have hm0 : 0 < m := by have := (chunk_step hR.2.1).1; omega
   have hmle : m ≤ rest.length := by rw [hm]; exact Nat.div_le_self _ _
   have hq1 : (rest.length : Int) / (c : Int) = (m : Int) := by rw [hm, hce]; exact (Int.natCast_ediv _ _).symm
   have hm5 : (m : Int) ≤ 100000 := by omega
   have hcs : ((c : Int) - 1) = (c' : Int) := by omega
   have hc5 : (c : Int) ≤ 100000 := by omega
   obtain ⟨a3, c3, hc3, hr3⟩ := cut_l 108 tn_sl tn_size HC.out (lo := m) hmle
   rw [en_drop henc] at hc3
   have HC3 := Lib.hid hc3
   have HM := Lib.hid (And.intro hm (And.intro hm0 hmle))
   have HRN := Lib.hid hR
   have hrl : (rest.length : Int) ≤ 100000 := by omega
   have HW1 : Hid (w1.heap.size ≤ wr.heap.size) := HP.out.2.1
   have HCE := Lib.hid hce
   clear hm hm0 hmle hR hc3 h0 hce HR
   go_wp2_with (first
    | (refine wpList_make_s _ rfl _ _ 108 rfl 110 i (.agg #[.int .i64 0, .int .i64 0, .slice none 0 0, .slice none 0 0]) 4 Tryz.underlying108 HI.out.1 HI.out.2.1 HI.out.2.2.1 .i64 .i64 m rfl rfl (by rw [HI.out.2.2.2]; omega) (by omega) ?_)
    | (refine wpList_copy_full rfl _ _ 108 108 rfl 110 Tryz.underlying108 4 rnode_size wr.heap.size m rfl rfl (HC.out.later (Below.newly' _ _)) HM.out.2.2 HM.out.2.1 110 _ (heap_alloc_last _ _) (by simp [size_madeCells]) (en_one hone _) ?_; intro w4 h4 k4; have HG4 := Lib.hid h4; have HB4 : Hid (Below wr.heap.size wr w4) := (Below.newly' _ _).trans (k4.below (Nat.le_refl _)); clear h4 k4)
    | (refine rows_list rfl (z := .slice none 0 0) (by_ := 24) 196 108 _ _ rfl rfl ((HP.out.later HB4.out).later (Below.newly' _ _)) w4.heap.size rfl (heap_alloc_last w4 _) rfl (by simp [Value.oneCell']) Tryz.underlying196 (by kernel_rfl) rfl (by decide) (by rw [List.length_map]; have := HRN.out; have := HN.out; have := HNN.out; unfold cntN at *; omega) (by decide) ?_; intro v6 w6 hp6 hg6; have HP6 := Lib.hid hp6; have HG6 := Lib.hid hg6; clear hp6 hg6))
   go_roundw
   case rel =>
    have hm := HM.out
    have hR := HRN.out
    have hw1 := HW1.out
    have hb5 : Below wr.heap.size wr (w4.alloc (.cells #[.slice (some ⟨wr.heap.size, 0, none⟩) m m] 108)) := Below.more HB4.out _
    have hp5 : RowsOwn w1.heap.size 108 1 u4 (done.map fun p => #[p.1]) (w4.alloc (.cells #[.slice (some ⟨wr.heap.size, 0, none⟩) m m] 108)) := HP.out.later hb5
    have hdl : (rest.drop m).length = rest.length - m := List.length_drop
    have hst := (chunk_step hR.2.1).2
    rw [← hm.1] at hst
    have htl : (rest.take m).length = m := by rw [List.length_take, Nat.min_eq_left hm.2.2]
    refine ⟨c', rest.drop m, a3, c3, done ++ [(.slice (some ⟨wr.heap.size, 0, none⟩) m m, rest.take m)], rfl, by rw [hdl], ⟨fun h => ?_, by rw [hdl]; exact hst, by rw [hdl]; omega, ?_, ?_⟩, ?_, ?_, Lib.hid (fun p hp => ?_), ?_⟩
    ·refine List.eq_nil_of_length_eq_zero ?_
     rw [hdl, hm.1, h]
     simp
    ·rw [List.length_append, List.length_singleton]
     omega
    ·rw [← hR.2.2.2.2, List.map_append, List.append_assoc, chunks, ← hm.1]
     rfl
    ·rw [hdl]
     exact (HC3.out.later hb5).kept HG6.out (fun X e => by
      rcases hp5.own with h | ⟨g, _, _, h, h2, _⟩
      ·have e' : u4.ownBlock = some X := e
       rw [h] at e'; cases e'
      ·have e' : u4.ownBlock = some X := e
       rw [h] at e'; obtain rfl := Option.some.inj e'; omega)
    ·rw [List.map_append]
     exact HP6.out
    ·have hT : ∀ X, u4.ownBlock = some X → ∃ o : Obj, (w4.alloc (.cells #[.slice (some ⟨wr.heap.size, 0, none⟩) m m] 108)).heap[X]? = some o ∧ ∀ cs fr, o ≠ .cells cs 110 fr := fun X e => by
      obtain ⟨cs, fr, h⟩ := hp5.typed' X e
      exact ⟨_, h, fun cs' fr' e => by cases e⟩
     rcases List.mem_append.1 hp with hp | hp
     ·exact ((HD.out p hp).later hb5).keptT HG6.out hT
     ·rw [List.mem_singleton] at hp
      subst hp
      rw [htl]
      exact ((part_head henc hw1 hm.2.2 hm.2.1 HG4.out).later (Below.newly' _ _)).keptT HG6.out hT
    ·exact (tW HB.out hb5).trans (hp5.below HG6.out (Nat.le_trans HB1'.out (Nat.le_refl _)) (by have := hb5.size; have := HB.out.size; omega))
   case measure => have := HCE.out; simp [intOf]; omega
end Go.Proofs.YtpodmgihlomglaaGreatDoor
