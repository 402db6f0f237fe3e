import Derived.Test.YtpodmgihlomglaaGreatDoorP16
namespace Go.Proofs.YtpodmgihlomglaaGreatDoor
open Go.RowKit
set_option maxRecDepth 1000000
set_option linter.unusedSimpArgs false
def Kq (S : Nat → Prop) (w w' : World) : Prop := ∀ (g : Nat) (o : Obj), S g → w.heap[g]? = some o → w'.heap[g]? = some o
section
variable {S S' : Nat → Prop} {w w' w'' : World}
theorem Kq.later (hb : Below w.heap.size w w') : Kq S w w' := fun g _ _ h => (hb.block g (Array.getElem?_eq_some_iff.1 h).1).trans h
theorem Kq.low {n₀ : Nat} (hb : Below n₀ w w') (hS : ∀ g, S g → g < n₀) : Kq S w w' := fun g _ hg h => (hb.block g (hS g hg)).trans h
theorem Kq.only {X : Nat} (k : Only X w w') (hX : ¬ S X) : Kq S w w' := fun _ _ hg h => k.other h (fun e => hX (e ▸ hg))
theorem Kq.grown {row : Option Nat} (hg : w.grownBy w' row) (hX : ∀ X, row = some X → ¬ S X) : Kq S w w' := fun g _ hS h => (hg.block g (Array.getElem?_eq_some_iff.1 h).1 (fun e => hX g e.symm hS)).trans h
theorem Kq.kp (h : Kq S w w') : Kp S w w' := fun g o hg _ e => h g o hg e
theorem Kq.refl : Kq S w w := fun _ _ _ e => e
theorem Kq.trans (h : Kq S w w') (k : Kq S w' w'') : Kq S w w'' := fun g o hg e => k g o hg (h g o hg e)
theorem CutAt.imp {s n : Nat} {v : Value} {cs : List Value} (h : CutAt S w s v cs n) (k : Kq S w w') (hS : ∀ g, S g → g < w.heap.size → S' g) : CutAt S' w' s v cs n := by
 obtain ⟨a, cap, h1, h2, h3, h4⟩ := h
 refine ⟨a, cap, h1, h2, h3, h4.imp_right ?_⟩
 rintro ⟨g, o, e, hg, hlt, h⟩
 have hb : w.heap[g]? = some w.heap[g] := Array.getElem?_eq_getElem hlt
 have hb' := k g _ hg hb
 exact ⟨g, o, e, hS g hg hlt, (Array.getElem?_eq_some_iff.1 hb').1, fun j u hu => (World.cell?_of_block (a := ⟨g, o + j, none⟩) (hb'.trans hb.symm)).trans (h j u hu)⟩
theorem HeadAt.imp {T : TypeId} {s n : Nat} {v : Value} {cs : List Value} (h : HeadAt S w T s v cs n) (k : Kq S w w') (hS : ∀ g, S g → g < w.heap.size → S' g) : HeadAt S' w' T s v cs n := by
 obtain ⟨h0, h⟩ := h
 refine ⟨h0, h.imp_right ?_⟩
 rintro ⟨h1, g, c, cur, fr, h2, h3, hg, h4, h5⟩
 exact ⟨h1, g, c, cur, fr, h2, h3, hS g hg (Array.getElem?_eq_some_iff.1 h4).1, k g _ hg h4, h5⟩
theorem NodeR.imp (k : Kq S w w') (hS : ∀ g, S g → g < w.heap.size → S' g) : ∀ {h : Nat} {p : Kid}, NodeR S w h p → NodeR S' w' h p
 | 0, _, ⟨h1, h2, h3, h4, h5⟩ => ⟨h1, h2, h3, h4, h5.imp k hS⟩
 | _ + 1, _, ⟨h1, h2, h3, ks, h4, h5, h6, h7⟩ => ⟨h1, h2, h3, ks, h4.imp k hS, h5, h6, fun q hq => ⟨(h7 q hq).1, (h7 q hq).2.imp k hS⟩⟩
theorem RootR.imp {c : Array Value} {l : List Cel} (hn : RootR S w c l) (k : Kq S w w') (hS : ∀ g, S g → g < w.heap.size → S' g) : RootR S' w' c l := by
 rcases hn with hn | ⟨h, p, h1, h2, h3, h4⟩
 ·exact .inl hn
 ·exact .inr ⟨h, p, h1, h2, h3.imp k hS, h4⟩
end
def innC (rc mc : Array Value) (d : Value) (n : Nat) : Array Value := rc ++ mc ++ #[d, .int .i64 (n : Int)]
def itemE (k : Int) (l : List Cel) : List Cel := if k = 4 then l else []
def mapE (k : Int) (ks : List ByteArray) (xs : List Tr) (l : List Cel) : List Ent := (mkeys k ks xs).zip l
def InnAt (S : Nat → Prop) (W : World) (b : Nat) (k : Int) (ks : List ByteArray) (xs : List Tr) (l : List Cel) : Prop :=
 ∃ (rc mc : Array Value) (d : Value) (fr : Nat × Nat) (s : Nat) (n : Int), W.heap[b]? = some (.cells (innC rc mc d (nodL xs)) 123 fr) ∧ s < 18446744073709551616 ∧ RootR S W rc (itemE k l) ∧ MapAt S W s n (mapE k ks xs l) mc ∧ CutAt S W 1 d (iv (tal xs)) (tal xs).length
mutual
def VAt (S : Nat → Prop) (W : World) : Tr → Cel → Prop
 | .nd k n t ks xs, x => x.k = k ∧ x.n = n ∧ x.t = t ∧ ((k ≤ 3 ∧ x.p = none) ∨ (4 ≤ k ∧ ∃ (b : Nat) (l : List Cel), x.p = some ⟨b, 0, none⟩ ∧ S b ∧ VAtL S W xs l ∧ InnAt S W b k ks xs l))
def VAtL (S : Nat → Prop) (W : World) : List Tr → List Cel → Prop
 | [], l => l = []
 | x :: r, l => ∃ c l', l = c :: l' ∧ VAt S W x c ∧ VAtL S W r l'
end
theorem vAtL_len {S : Nat → Prop} {W : World} : ∀ {xs : List Tr} {l : List Cel}, VAtL S W xs l → l.length = xs.length
 | [], l, h => by rw [VAtL] at h; subst h; rfl
 | x :: r, l, h => by
  rw [VAtL] at h
  obtain ⟨c, l', rfl, _, h⟩ := h
  rw [List.length_cons, List.length_cons, vAtL_len h]
theorem vAtL_at {S : Nat → Prop} {W : World} : ∀ {xs : List Tr} {l : List Cel} {j : Nat} (_ : VAtL S W xs l) (hj : j < xs.length) (hl : j < l.length), VAt S W xs[j] l[j]
 | [], _, _, _, hj, _ => by simp at hj
 | x :: r, l, 0, h, _, _ => by
  rw [VAtL] at h
  obtain ⟨c, l', rfl, h, _⟩ := h
  exact h
 | x :: r, l, j + 1, h, hj, hl => by
  rw [VAtL] at h
  obtain ⟨c, l', rfl, _, h⟩ := h
  exact vAtL_at h (by simpa using hj) (by simpa using hl)
theorem vAtL_of {S : Nat → Prop} {W : World} : ∀ {xs : List Tr} {l : List Cel}, l.length = xs.length → (∀ j (hj : j < xs.length) (hl : j < l.length), VAt S W xs[j] l[j]) → VAtL S W xs l
 | [], l, h, _ => by rw [VAtL]; exact List.eq_nil_of_length_eq_zero h
 | x :: r, [], h, _ => by simp at h
 | x :: r, c :: l, h, hv => by
  rw [VAtL]
  exact ⟨c, l, rfl, hv 0 (by simp) (by simp), vAtL_of (by simpa using h) fun j hj hl => hv (j + 1) (by simpa using hj) (by simpa using hl)⟩
theorem vAtL_mem {S : Nat → Prop} {W : World} {xs : List Tr} {l : List Cel} (h : VAtL S W xs l) {j : Nat} {c : Cel} (hc : l[j]? = some c) : ∃ a, xs[j]? = some a ∧ VAt S W a c := by
 obtain ⟨hl, rfl⟩ := List.getElem?_eq_some_iff.1 hc
 have hj : j < xs.length := by rw [← vAtL_len h]; exact hl
 exact ⟨xs[j], List.getElem?_eq_getElem hj, vAtL_at h hj hl⟩
theorem vAtL_app {S : Nat → Prop} {W : World} : ∀ {xs ys : List Tr} {l m : List Cel}, VAtL S W xs l → VAtL S W ys m → VAtL S W (xs ++ ys) (l ++ m)
 | [], _, l, m, h, hy => by rw [VAtL] at h; subst h; exact hy
 | x :: r, ys, l, m, h, hy => by
  rw [VAtL] at h
  obtain ⟨c, l', rfl, h1, h2⟩ := h
  rw [List.cons_append, List.cons_append, VAtL]
  exact ⟨c, _, rfl, h1, vAtL_app h2 hy⟩
theorem vAtL_one {S : Nat → Prop} {W : World} {x : Tr} {c : Cel} (h : VAt S W x c) : VAtL S W [x] [c] := by
 rw [VAtL]
 exact ⟨c, [], rfl, h, by rw [VAtL]⟩
theorem InnAt.imp {S S' : Nat → Prop} {w w' : World} {b : Nat} {k : Int} {ks : List ByteArray} {xs : List Tr} {l : List Cel} (h : InnAt S w b k ks xs l) (hb : S b) (hk : Kq S w w') (hS : ∀ g, S g → g < w.heap.size → S' g) : InnAt S' w' b k ks xs l := by
 obtain ⟨rc, mc, d, fr, s, n, h1, h2, h3, h4, h5⟩ := h
 exact ⟨rc, mc, d, fr, s, n, hk b _ hb h1, h2, h3.imp hk hS, h4.imp hk.kp hS, h5.imp hk hS⟩
theorem vAt_imp {S S' : Nat → Prop} {w w' : World} (hk : Kq S w w') (hS : ∀ g, S g → g < w.heap.size → S' g) (a : Tr) : ∀ x, VAt S w a x → VAt S' w' a x := by
 induction a using tr_ind with
 | h k n t ks xs ih =>
  intro x hv
  rw [VAt] at hv ⊢
  obtain ⟨h1, h2, h3, h4⟩ := hv
  refine ⟨h1, h2, h3, h4.imp_right ?_⟩
  rintro ⟨h4, b, l, h5, h6, h7, h8⟩
  have hlt : b < w.heap.size := by obtain ⟨_, _, _, _, _, _, h, _⟩ := h8; exact (Array.getElem?_eq_some_iff.1 h).1
  refine ⟨h4, b, l, h5, hS b h6 hlt, vAtL_of (vAtL_len h7) fun j hj hl => ih _ (List.getElem_mem hj) _ (vAtL_at h7 hj hl), h8.imp h6 hk hS⟩
section
variable {S S' : Nat → Prop} {w w' : World} {a : Tr} {x : Cel} {xs : List Tr} {l : List Cel}
theorem VAt.imp (h : VAt S w a x) (hk : Kq S w w') (hS : ∀ g, S g → g < w.heap.size → S' g) : VAt S' w' a x := vAt_imp hk hS a x h
theorem VAt.later (h : VAt S w a x) (hb : Below w.heap.size w w') : VAt S w' a x := h.imp (Kq.later hb) fun _ h _ => h
theorem VAt.weak (h : VAt S w a x) (hS : ∀ g, S g → S' g) : VAt S' w a x := h.imp Kq.refl fun g h _ => hS g h
theorem VAt.old (h : VAt S w a x) : VAt (fun g => S g ∧ g < w.heap.size) w a x := h.imp Kq.refl fun _ h h' => ⟨h, h'⟩
theorem VAt.kq (h : VAt S w a x) (hk : Kq S w w') : VAt S w' a x := h.imp hk fun _ h _ => h
theorem VAt.low {n₀ : Nat} (h : VAt (fun g => g < n₀) w a x) (hb : Below n₀ w w') : VAt (fun g => g < n₀) w' a x := h.kq (Kq.low hb fun _ h => h)
theorem VAtL.imp (h : VAtL S w xs l) (hk : Kq S w w') (hS : ∀ g, S g → g < w.heap.size → S' g) : VAtL S' w' xs l :=
 vAtL_of (vAtL_len h) fun _ hj hl => (vAtL_at h hj hl).imp hk hS
theorem VAtL.later (h : VAtL S w xs l) (hb : Below w.heap.size w w') : VAtL S w' xs l := h.imp (Kq.later hb) fun _ h _ => h
theorem VAtL.weak (h : VAtL S w xs l) (hS : ∀ g, S g → S' g) : VAtL S' w xs l := h.imp Kq.refl fun g h _ => hS g h
theorem VAtL.old (h : VAtL S w xs l) : VAtL (fun g => S g ∧ g < w.heap.size) w xs l := h.imp Kq.refl fun _ h h' => ⟨h, h'⟩
theorem VAt.k (h : VAt S w a x) : x.k = a.k := by cases a; rw [VAt] at h; exact h.1
theorem VAt.n (h : VAt S w a x) : x.n = a.n := by cases a; rw [VAt] at h; exact h.2.1
theorem VAt.t (h : VAt S w a x) : x.t = a.t := by cases a; rw [VAt] at h; exact h.2.2.1
theorem VAt.leaf (h : VAt S w a x) (h3 : a.k ≤ 3) : x.p = none := by
 cases a with
 | nd k n t ks xs =>
  rw [VAt] at h
  rcases h.2.2.2 with h | h
  ·exact h.2
  ·have h3' : k ≤ 3 := h3
   omega
theorem VAt.parts (h : VAt S w a x) (h4 : 4 ≤ a.k) : ∃ (b : Nat) (l : List Cel), x.p = some ⟨b, 0, none⟩ ∧ S b ∧ VAtL S w a.xs l ∧ InnAt S w b a.k a.ks a.xs l := by
 cases a with
 | nd k n t ks xs =>
  have h4' : 4 ≤ k := h4
  rw [VAt] at h
  rcases h.2.2.2 with h | h
  ·omega
  ·exact h.2
theorem vAt_null (S : Nat → Prop) (w : World) : VAt S w nullT zeroV := by rw [VAt]; exact ⟨rfl, rfl, rfl, .inl ⟨by decide, rfl⟩⟩
theorem vAt_leaf (S : Nat → Prop) (w : World) {a : Tr} (h3 : a.k ≤ 3) : VAt S w a ⟨a.k, a.n, a.t, none⟩ := by
 cases a with
 | nd k n t ks xs => rw [VAt]; exact ⟨rfl, rfl, rfl, .inl ⟨h3, rfl⟩⟩
theorem vAt_inner {b : Nat} (h4 : 4 ≤ a.k) (hb : S b) (hl : VAtL S w a.xs l) (hi : InnAt S w b a.k a.ks a.xs l) : VAt S w a ⟨a.k, a.n, a.t, some ⟨b, 0, none⟩⟩ := by
 cases a with
 | nd k n t ks xs => rw [VAt]; exact ⟨rfl, rfl, rfl, .inr ⟨h4, b, l, rfl, hb, hl, hi⟩⟩
end
section
variable {S : Nat → Prop} {W : World} {b : Nat} {rc mc : Array Value} {d : Value} {n : Nat} {T : TypeId} {fr : Nat × Nat}
theorem innC_size (hr : rc.size = 4) (hm : mc.size = 6) : (innC rc mc d n).size = 12 := by simp [innC, hr, hm]
theorem innC_rope (hr : rc.size = 4) (h : W.heap[b]? = some (.cells (innC rc mc d n) T fr)) : W.rangeAt b 0 rc.toList := fun j u hu => cell_in h (by
 have hj : j < rc.size := by simpa using (List.getElem?_eq_some_iff.1 hu).1
 rw [Nat.zero_add, innC, Array.getElem?_append_left (by simp; omega), Array.getElem?_append_left hj]
 simpa using hu)
theorem innC_map (hr : rc.size = 4) (hm : mc.size = 6) (h : W.heap[b]? = some (.cells (innC rc mc d n) T fr)) : W.rangeAt b 4 mc.toList := fun j u hu => cell_in h (by
 have hj : j < mc.size := by simpa using (List.getElem?_eq_some_iff.1 hu).1
 rw [innC, Array.getElem?_append_left (by simp; omega), Array.getElem?_append_right (by omega), hr, Nat.add_sub_cancel_left]
 simpa using hu)
theorem innC_tal (hr : rc.size = 4) (hm : mc.size = 6) (h : W.heap[b]? = some (.cells (innC rc mc d n) T fr)) : W.rangeAt b 10 [d, .int .i64 (n : Int)] := fun j u hu => cell_in h (by
 rw [innC, Array.getElem?_append_right (by simp; omega)]
 have e : 10 + j - (rc ++ mc).size = j := by simp; omega
 rw [e]
 simpa using hu)
end
end Go.Proofs.YtpodmgihlomglaaGreatDoor
namespace Go.Proofs.YtpodmgihlomglaaGreatDoor
open Go.RowKit
set_option maxRecDepth 1000000
set_option linter.unusedSimpArgs false
theorem item_vec {k : Int} {l : List Cel} (h : k = 4) : itemE k l = l := if_pos h
theorem item_map {k : Int} {l : List Cel} (h : k ≠ 4) : itemE k l = [] := if_neg h
theorem mapE_vec {k : Int} {ks : List ByteArray} {xs : List Tr} {l : List Cel} (h : k = 4) : mapE k ks xs l = [] := by
 unfold mapE mkeys
 rw [if_neg (by omega), if_neg (by omega)]
 rfl
end Go.Proofs.YtpodmgihlomglaaGreatDoor
