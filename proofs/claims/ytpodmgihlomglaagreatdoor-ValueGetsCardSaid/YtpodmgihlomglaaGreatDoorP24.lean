import Derived.Test.YtpodmgihlomglaaGreatDoorP23
namespace Go.Proofs.YtpodmgihlomglaaGreatDoor
open Go.RowKit
set_option maxRecDepth 1000000
set_option linter.unusedSimpArgs false
def LsT (S : Nat → Prop) (W : World) (T : TypeId) (s : Nat) (v : Value) (cs : List Value) (n : Nat) : Prop :=
 cs.length = n * s ∧ n ≤ maxLen ∧ ∃ (a : Option Addr) (c : Nat), v = .slice a n c ∧ n ≤ c ∧ ((a = none ∧ c = 0) ∨ ∃ (g o : Nat) (cur : Array Value) (fr : Nat × Nat), a = some ⟨g, o, none⟩ ∧ S g ∧ W.heap[g]? = some (.cells cur T fr) ∧ ∀ (j : Nat) (u : Value), cs[j]? = some u → cur[o + j]? = some u)
def KT (S : Nat → Prop) (w w' : World) : Prop := ∀ (g : Nat) (cur : Array Value) (T : TypeId) (fr : Nat × Nat), S g → (T = 9 ∨ T = 28) → w.heap[g]? = some (.cells cur T fr) → w'.heap[g]? = some (.cells cur T fr)
mutual
def TrS (S : Nat → Prop) (W : World) : Tr → Value → Prop
 | .nd k n t ks xs, v => ∃ (kv xv : Value) (css : List (Array Value)), v = .agg (trC k n t kv xv) ∧ t.size ≤ maxLen ∧ InR k ∧ InR n ∧ LsT S W 9 1 kv (ks.map Value.string) ks.length ∧ LsT S W 28 5 xv (css.flatMap Array.toList) xs.length ∧ TrSL S W xs css
def TrSL (S : Nat → Prop) (W : World) : List Tr → List (Array Value) → Prop
 | [], l => l = []
 | x :: r, l => ∃ c l', l = c :: l' ∧ c.size = 5 ∧ TrS S W x (.agg c) ∧ TrSL S W r l'
end
section
variable {S S' : Nat → Prop} {W W' W'' : World} {T : TypeId} {s n : Nat} {v : Value} {cs : List Value}
theorem KT.refl : KT S W W := fun _ _ _ _ _ _ h => h
theorem KT.trans (h : KT S W W') (k : KT S W' W'') : KT S W W'' := fun g cur T fr hg hT e => k g cur T fr hg hT (h g cur T fr hg hT e)
theorem KT.weak (h : KT S' W W') (hS : ∀ g, S g → S' g) : KT S W W' := fun g cur T fr hg => h g cur T fr (hS g hg)
theorem KT.later (hb : Below W.heap.size W W') : KT S W W' := fun g _ _ _ _ _ h => (hb.block g (Array.getElem?_eq_some_iff.1 h).1).trans h
theorem KT.low {n₀ : Nat} (hb : Below n₀ W W') (hS : ∀ g, S g → g < n₀) : KT S W W' := fun g _ _ _ hg _ h => (hb.block g (hS g hg)).trans h
theorem KT.grown {row : Option Nat} (hg : W.grownBy W' row) (hX : ∀ X, row = some X → ¬ S X) : KT S W W' := fun g _ _ _ hS _ h => (hg.block g (Array.getElem?_eq_some_iff.1 h).1 (fun e => hX g e.symm hS)).trans h
theorem KT.other {X : Nat} {cur : Array Value} {T : TypeId} {fr : Nat × Nat} (hg : W.grownBy W' (some X)) (hX : W.heap[X]? = some (.cells cur T fr)) (h1 : T ≠ 9) (h2 : T ≠ 28) : KT S W W' := fun g c T' f' _ hT h =>
 (hg.block g (Array.getElem?_eq_some_iff.1 h).1 (fun e => by
  cases e
  rw [hX] at h
  cases h
  rcases hT with hT | hT
  ·exact h1 hT
  ·exact h2 hT)).trans h
theorem LsT.imp (h : LsT S W T s v cs n) (hT : T = 9 ∨ T = 28) (k : KT S W W') (hS : ∀ g, S g → g < W.heap.size → S' g) : LsT S' W' T s v cs n := by
 obtain ⟨h1, h2, a, c, h3, h4, h5⟩ := h
 refine ⟨h1, h2, a, c, h3, h4, h5.imp_right ?_⟩
 rintro ⟨g, o, cur, fr, e, hg, hb, h⟩
 exact ⟨g, o, cur, fr, e, hS g hg (Array.getElem?_eq_some_iff.1 hb).1, k g cur T fr hg hT hb, h⟩
theorem lsT_nil (S : Nat → Prop) (W : World) (T : TypeId) (s : Nat) : LsT S W T s (.slice none 0 0) [] 0 := ⟨by simp, Nat.zero_le _, none, 0, rfl, Nat.le_refl _, .inl ⟨rfl, rfl⟩⟩
theorem trSL_len : ∀ {xs : List Tr} {l : List (Array Value)}, TrSL S W xs l → l.length = xs.length
 | [], l, h => by rw [TrSL] at h; subst h; rfl
 | x :: r, l, h => by
  rw [TrSL] at h
  obtain ⟨c, l', rfl, _, _, h⟩ := h
  rw [List.length_cons, List.length_cons, trSL_len h]
theorem trSL_at : ∀ {xs : List Tr} {l : List (Array Value)} {j : Nat} (_ : TrSL S W xs l) (hj : j < xs.length) (hl : j < l.length), l[j].size = 5 ∧ TrS S W xs[j] (.agg l[j])
 | [], _, _, _, hj, _ => by simp at hj
 | x :: r, l, 0, h, _, _ => by
  rw [TrSL] at h
  obtain ⟨c, l', rfl, h0, h, _⟩ := h
  exact ⟨h0, h⟩
 | x :: r, l, j + 1, h, hj, hl => by
  rw [TrSL] at h
  obtain ⟨c, l', rfl, _, _, h⟩ := h
  exact trSL_at h (by simpa using hj) (by simpa using hl)
theorem trSL_of : ∀ {xs : List Tr} {l : List (Array Value)}, l.length = xs.length → (∀ j (hj : j < xs.length) (hl : j < l.length), l[j].size = 5 ∧ TrS S W xs[j] (.agg l[j])) → TrSL S W xs l
 | [], l, h, _ => by rw [TrSL]; exact List.eq_nil_of_length_eq_zero h
 | x :: r, [], h, _ => by simp at h
 | x :: r, c :: l, h, hv => by
  rw [TrSL]
  exact ⟨c, l, rfl, (hv 0 (by simp) (by simp)).1, (hv 0 (by simp) (by simp)).2, trSL_of (by simpa using h) fun j hj hl => hv (j + 1) (by simpa using hj) (by simpa using hl)⟩
theorem trSL_app : ∀ {xs ys : List Tr} {l m : List (Array Value)}, TrSL S W xs l → TrSL S W ys m → TrSL S W (xs ++ ys) (l ++ m)
 | [], _, l, m, h, hy => by rw [TrSL] at h; subst h; exact hy
 | x :: r, ys, l, m, h, hy => by
  rw [TrSL] at h
  obtain ⟨c, l', rfl, h0, h1, h2⟩ := h
  rw [List.cons_append, List.cons_append, TrSL]
  exact ⟨c, _, rfl, h0, h1, trSL_app h2 hy⟩
theorem trSL_one {x : Tr} {c : Array Value} (hc : c.size = 5) (h : TrS S W x (.agg c)) : TrSL S W [x] [c] := by
 rw [TrSL]
 exact ⟨c, [], rfl, hc, h, by rw [TrSL]⟩
theorem trSL_size {xs : List Tr} {l : List (Array Value)} (h : TrSL S W xs l) : ∀ c ∈ l, c.size = 5 := by
 intro c hc
 obtain ⟨j, hj, rfl⟩ := List.mem_iff_getElem.1 hc
 exact (trSL_at h (by rw [← trSL_len h]; exact hj) hj).1
theorem trS_imp (k : KT S W W') (hS : ∀ g, S g → g < W.heap.size → S' g) (a : Tr) : ∀ v, TrS S W a v → TrS S' W' a v := by
 induction a using tr_ind with
 | h kk n t ks xs ih =>
  intro v hv
  rw [TrS] at hv ⊢
  obtain ⟨kv, xv, css, h1, h2, h3, h4, h5, h6, h7⟩ := hv
  exact ⟨kv, xv, css, h1, h2, h3, h4, h5.imp (.inl rfl) k hS, h6.imp (.inr rfl) k hS, trSL_of (trSL_len h7) fun j hj hl => ⟨(trSL_at h7 hj hl).1, ih _ (List.getElem_mem hj) _ (trSL_at h7 hj hl).2⟩⟩
end
section
variable {S S' : Nat → Prop} {w w' : World} {a : Tr} {v : Value} {xs : List Tr} {l : List (Array Value)}
theorem TrS.imp (h : TrS S w a v) (k : KT S w w') (hS : ∀ g, S g → g < w.heap.size → S' g) : TrS S' w' a v := trS_imp k hS a v h
theorem TrS.kept (h : TrS S w a v) (k : KT S w w') : TrS S w' a v := h.imp k fun _ h _ => h
theorem TrS.later (h : TrS S w a v) (hb : Below w.heap.size w w') : TrS S w' a v := h.kept (KT.later hb)
theorem TrS.weak (h : TrS S w a v) (hS : ∀ g, S g → S' g) : TrS S' w a v := h.imp KT.refl fun g h _ => hS g h
theorem TrS.old (h : TrS S w a v) : TrS (fun g => S g ∧ g < w.heap.size) w a v := h.imp KT.refl fun _ h h' => ⟨h, h'⟩
theorem TrSL.imp (h : TrSL S w xs l) (k : KT S w w') (hS : ∀ g, S g → g < w.heap.size → S' g) : TrSL S' w' xs l :=
 trSL_of (trSL_len h) fun _ hj hl => ⟨(trSL_at h hj hl).1, (trSL_at h hj hl).2.imp k hS⟩
theorem TrSL.later (h : TrSL S w xs l) (hb : Below w.heap.size w w') : TrSL S w' xs l := h.imp (KT.later hb) fun _ h _ => h
theorem TrSL.weak (h : TrSL S w xs l) (hS : ∀ g, S g → S' g) : TrSL S' w xs l := h.imp KT.refl fun g h _ => hS g h
theorem TrSL.old (h : TrSL S w xs l) : TrSL (fun g => S g ∧ g < w.heap.size) w xs l := h.imp KT.refl fun _ h h' => ⟨h, h'⟩
theorem LsT.cell {T : TypeId} {s n : Nat} {cs : List Value} (h : LsT S w T s v cs n) (hn : 0 < n) : ∃ (g o c : Nat), v = .slice (some ⟨g, o, none⟩) n c ∧ S g ∧ ∀ (j : Nat) (u : Value), cs[j]? = some u → w.cell? ⟨g, o + j, none⟩ = some u := by
 obtain ⟨_, _, a, c, h3, h4, ⟨_, h5⟩ | ⟨g, o, cur, fr, rfl, hS, hb, hc⟩⟩ := h
 ·omega
 ·exact ⟨g, o, c, h3, hS, fun j u hu => cell_in hb (hc j u hu)⟩
theorem trS_v (a : Tr) : ∀ v, TrS S w a v → TrV w a v := by
 induction a using tr_ind with
 | h k n t ks xs ih =>
  intro v hv
  rw [TrS] at hv
  obtain ⟨kv, xv, css, h1, h2, h3, h4, h5, h6, h7⟩ := hv
  have hl := trSL_len h7
  have hsz := trSL_size h7
  rw [TrV]
  refine ⟨kv, xv, h1, h2, h3, h4, ?_, ?_⟩
  ·obtain ⟨_, hm, ad, c, e, _, hr⟩ := h5
   rcases hr with ⟨rfl, rfl⟩ | ⟨g, o, cur, fr, rfl, _, hb, hc⟩
   ·rcases Nat.eq_zero_or_pos ks.length with h0 | h0
    ·exact ⟨none, 0, 0, 0, e, fun h => by omega, fun j h => by omega, hm⟩
    ·omega
   ·refine ⟨_, c, g, o, e, fun _ => rfl, fun j hj => cell_in hb (hc j _ (by rw [List.getElem?_map, List.getElem?_eq_getElem hj]; rfl)), hm⟩
  ·obtain ⟨_, hm, ad, c, e, _, hr⟩ := h6
   rcases hr with ⟨rfl, rfl⟩ | ⟨g, o, cur, fr, rfl, _, hb, hc⟩
   ·rcases Nat.eq_zero_or_pos xs.length with h0 | h0
    ·exact ⟨none, 0, 0, 0, e, fun h => by omega, hm, trL_of fun j hj => by omega⟩
    ·omega
   ·refine ⟨_, c, g, o, e, fun _ => rfl, hm, trL_of fun j hj => ?_⟩
    obtain ⟨q1, q2⟩ := trSL_at h7 hj (by omega)
    refine ⟨css[j], q1, fun i u hu => ?_, ih _ (List.getElem_mem hj) _ q2⟩
    have hi : i < 5 := by have := (List.getElem?_eq_some_iff.1 hu).1; rw [Array.length_toList, q1] at this; exact this
    have := flat_get 5 css j i css[j] hsz (List.getElem?_eq_getElem (by omega)) hi
    rw [show o + j * 5 + i = o + (j * 5 + i) by omega]
    refine cell_in hb (hc _ u ?_)
    rw [this]
    simpa using hu
theorem TrS.trv (h : TrS S w a v) : TrV w a v := trS_v a v h
end
theorem append_news {P : Program} {w : World} (t ty e : TypeId) (i : TypeInfo) (z : Value) (size bytes : Nat) (ht : P.underlying t = some (.slice e)) (hi : P.info? e = some i) (hz : i.zero = some z)
  (hsize : i.size = size) (hby : i.bytes = bytes) (hzs : z.cells.size = size) (hsz : 0 < size) {base : Nat}
  (v : Value) (n : Nat) (xs : List Value) (hown : w.ownsRowF base e size v n xs)
  (a : Addr) (m c : Nat) (news : List Value) (hl : news.length = m * size) (hnews : ∀ j u, news[j]? = some u → w.cell? (a.add j) = some u) (h1 : ∀ u ∈ news, u.oneCell' = true)
  (h63 : n + m ≤ maxLen) (hbytes : (n + m) * bytes ≤ 140737488355328) (v' : Value) (w' : World) (hr' : (Builtin.append_ #[t, t] ty #[v, .slice (some a) m c]).run P w = .ok v' w') :
  v'.ownBlock = v.ownBlock ∨ ∃ g', v'.ownBlock = some g' ∧ w.heap.size ≤ g' := by
 rcases hown.2 with ⟨rfl, rfl⟩ | ⟨g, cap, cur, fz, rfl, hbg, hg, hfz, hnc, hcm, hcs, htake⟩
 ·obtain ⟨v'', w'', r1, r2, _, _⟩ := run_append_own (P := P) w w.heap.size t ty e i z size bytes ht hi hz hsize hby hzs hsz (.slice none 0 0) 0 xs ⟨hown.1, .inl ⟨rfl, rfl⟩⟩ a m c news hl hnews h1 h63 hbytes (Nat.le_refl _)
  rw [hr'] at r1
  obtain ⟨rfl, rfl⟩ := Result.ok.inj r1
  rcases r2.2 with ⟨h, _⟩ | ⟨g, cap, cur, h, hg, _⟩
  ·left
   rw [h]
  ·right
   exact ⟨g, by rw [h]; rfl, hg⟩
 ·subst hsize
  subst hby
  have hsmall : n + m ≤ 9223372036854775807 := by simp only [maxLen] at h63; omega
  by_cases hroom : n + m ≤ cap
  ·have hfit : n * i.size + news.length ≤ cur.size := by rw [hl, hcs, ← Nat.add_mul]; exact Nat.mul_le_mul_right _ hroom
   have hr := run_append_roomF (P := P) w t ty e i ht hi g n cap cur fz hg hfz a m c news hl hnews h1 hroom hfit
   rw [hr'] at hr
   left
   rw [(Result.ok.inj hr).1]
   rfl
  ·have holds : ∀ j u, xs[j]? = some u → w.cell? ((⟨g, 0, none⟩ : Addr).add j) = some u := hown.cells (g := g) rfl
   have hr := run_append_grow (P := P) w t ty e i z ht hi hz ⟨g, 0, none⟩ n cap xs hown.1 holds a m c news hl hnews (by omega) (by omega) (growslice_fits (by omega) hbytes)
   rw [hr'] at hr
   right
   exact ⟨w.heap.size, by rw [(Result.ok.inj hr).1]; rfl, Nat.le_refl _⟩
theorem rowsN_wp {o : Oper} {a : Act} {K : Act → World → Prop} {Q : Exit → Act → World → Prop} {w : World} (t e : TypeId) (p q : Operand)
  (ho : o.op = .call { callee := .builtin .append, args := #[p, q], argTypes := #[t, t] })
  {B s by_ : Nat} {z v : Value} {cs ds : List (Array Value)} (hs : a.eval p = v) (hb : RowsOwn B e s v cs w) (ad : Addr) (cc m : Nat) (hm : m = ds.length) (hx : a.eval q = .slice (some ad) m cc)
  (hg : ∀ j u, (ds.flatMap Array.toList)[j]? = some u → w.cell? (ad.add j) = some u) (hc : ∀ c ∈ ds, c.size = s) (h1 : ∀ c ∈ ds, c.all (·.oneCell') = true) (hu : Tryz.prog.underlying t = some (.slice e)) (hi : (Tryz.prog.info? e).map (fun i => (i.zero, i.size, i.bytes)) = some (some z, s, by_))
  (hzs : z.cells.size = s) (hsz : 0 < s) (hlen : cs.length + ds.length ≤ 1000000) (hby : by_ ≤ 1000000)
  (h : ∀ v' w', RowsOwn B e s v' (cs ++ ds) w' → w.grownBy w' v.ownBlock → (v'.ownBlock = v.ownBlock ∨ ∃ g', v'.ownBlock = some g' ∧ w.heap.size ≤ g') → K (a.put o.dst v') w') : o.wp Tryz.prog a w K Q := by
 subst hm
 obtain ⟨i, hi0, hz, h2, h3⟩ := info_parts hi
 have hbytes : (cs.length + ds.length) * by_ ≤ 140737488355328 := by
  have : (cs.length + ds.length) * by_ ≤ 1000000 * 1000000 := Nat.mul_le_mul (by omega) hby
  omega
 have hfl : (ds.flatMap Array.toList).length = ds.length * s := flat_len' s ds hc
 have hone : ∀ u ∈ ds.flatMap Array.toList, u.oneCell' = true := fun u hu => by
  obtain ⟨c, hc1, hc2⟩ := List.mem_flatMap.1 hu
  exact (Array.all_eq_true_iff_forall_mem.1 (h1 c hc1)) u (by simpa using hc2)
 obtain ⟨v', w', hr, g1, g2, _⟩ := run_append_ownF (P := Tryz.prog) w B t o.type e i z s by_ hu hi0 hz h2 h3 hzs hsz v cs.length (cs.flatMap Array.toList) hb.1 ad ds.length cc (ds.flatMap Array.toList) hfl hg hone (by unfold maxLen; omega) hbytes hb.2.1
 have hnew := append_news t o.type e i z s by_ hu hi0 hz h2 h3 hzs hsz v cs.length (cs.flatMap Array.toList) hb.1 ad ds.length cc (ds.flatMap Array.toList) hfl hg hone (by unfold maxLen; omega) hbytes v' w' hr
 unfold Oper.wp execOp
 simp only [ho, resolve, invoke, builtin, Sem.run_bind, Sem.run_pure, Result.andThen_ok, List.map_toArray, List.map_cons, List.map_nil, hs, hx, hr]
 refine h v' w' ⟨?_, Nat.le_trans hb.2.1 g2.size, fun x hx => ?_⟩ g2 hnew
 ·rw [List.length_append, List.flatMap_append]
  exact g1
 ·rcases List.mem_append.1 hx with hx | hx
  ·exact hb.2.2 x hx
  ·exact hc x hx
theorem rowsN_one {o : Oper} {a : Act} {K : Act → World → Prop} {Q : Exit → Act → World → Prop} {w : World} (t e : TypeId) (p q : Operand)
  (ho : o.op = .call { callee := .builtin .append, args := #[p, q], argTypes := #[t, t] })
  {B s by_ : Nat} {z v : Value} {cs : List (Array Value)} {c : Array Value} (hs : a.eval p = v) (hb : RowsOwn B e s v cs w) (g cc : Nat) (hx : a.eval q = .slice (some ⟨g, 0, none⟩) 1 cc) {fr : Nat × Nat}
  (hg : w.heap[g]? = some (.cells c e fr)) (hc : c.size = s) (h1 : c.all (·.oneCell') = true) (hu : Tryz.prog.underlying t = some (.slice e)) (hi : (Tryz.prog.info? e).map (fun i => (i.zero, i.size, i.bytes)) = some (some z, s, by_))
  (hzs : z.cells.size = s) (hsz : 0 < s) (hlen : cs.length ≤ 900000) (hby : by_ ≤ 1000000)
  (h : ∀ v' w', RowsOwn B e s v' (cs ++ [c]) w' → w.grownBy w' v.ownBlock → (v'.ownBlock = v.ownBlock ∨ ∃ g', v'.ownBlock = some g' ∧ w.heap.size ≤ g') → K (a.put o.dst v') w') : o.wp Tryz.prog a w K Q :=
 rowsN_wp t e p q ho hs hb ⟨g, 0, none⟩ cc 1 rfl hx (fun j u hj => by
  have e : (⟨g, 0, none⟩ : Addr).add j = ⟨g, j, none⟩ := by unfold Addr.add; split <;> simp_all
  rw [e]
  exact cell_in hg (by simpa using hj)) (fun x hx => by simp at hx; subst hx; exact hc) (fun x hx => by simp at hx; subst hx; exact h1) hu hi hzs hsz (by simp; omega) hby h
theorem RowsOwn.lsT {B : Nat} {e : TypeId} {s : Nat} {v : Value} {cs : List (Array Value)} {w : World} (h : RowsOwn B e s v cs w) : LsT (fun g => v.ownBlock = some g) w e s v (cs.flatMap Array.toList) cs.length := by
 obtain ⟨⟨h1, h2⟩, _, _⟩ := h
 rcases h2 with ⟨rfl, h2⟩ | ⟨g, cap, cur, fz, rfl, a2, a3, a4, a5, a6, a7, a8⟩
 ·rw [h2] at h1 ⊢
  exact ⟨h1, Nat.zero_le _, none, 0, rfl, Nat.le_refl _, .inl ⟨rfl, rfl⟩⟩
 ·refine ⟨h1, by omega, _, cap, rfl, a5, .inr ⟨g, 0, cur, fz, rfl, rfl, a3, fun j u hu => ?_⟩⟩
  rw [← a8] at hu
  rw [Nat.zero_add]
  have hj := (List.getElem?_eq_some_iff.1 hu).1
  rw [List.getElem?_take_of_lt (by rw [List.length_take] at hj; omega)] at hu
  simpa using hu
end Go.Proofs.YtpodmgihlomglaaGreatDoor
namespace Go.Proofs.YtpodmgihlomglaaGreatDoor
open Go.RowKit Go.Shelf
set_option maxRecDepth 1000000
set_option linter.unusedSimpArgs false
mutual
def FewT (M : Nat) : Tr → Prop
 | .nd _ _ _ ks xs => ks.length ≤ M ∧ FewL M xs
def FewL (M : Nat) : List Tr → Prop
 | [] => True
 | x :: r => FewT M x ∧ FewL M r
end
theorem fewL_iff {M : Nat} {l : List Tr} : FewL M l ↔ ∀ x ∈ l, FewT M x := by
 induction l with
 | nil => simp [FewL]
 | cons x l ih => rw [FewL, ih]; simp
theorem fewT_iff {M : Nat} {a : Tr} : FewT M a ↔ a.ks.length ≤ M ∧ ∀ x ∈ a.xs, FewT M x := by
 cases a with
 | nd k n t ks xs => rw [FewT, fewL_iff]; rfl
theorem tr_size5 : (Tryz.prog.info? 28).map (·.size) = some 5 := by kernel_rfl
theorem sc3_size : (Tryz.prog.info? 32).map (·.size) = some 3 := by kernel_rfl
set_option maxHeartbeats 1000000 in
theorem va_plainOf (k n : Int) (t : ByteArray) (kv xv : Value) (w : World) : Calls Tryz.prog 79 #[.agg (trC k n t kv xv)] w fun e w' => e = .returned (scV k n t) ∧ Below w.heap.size w w' := by
 obtain ⟨w1, hw1⟩ : ∃ w1, (w.alloc (.cells (trC k n t kv xv) 28)).alloc (.cells #[.int .i64 0, .int .i64 0, .string ⟨#[]⟩] 32) = w1 := ⟨_, rfl⟩
 obtain ⟨hb1, hx1, hy1, hs1⟩ := two_new hw1
 have c0 : w1.cell? ⟨w.heap.size, 0, none⟩ = some (.int .i64 k) := cell_in hx1 rfl
 have c1 : w1.cell? ⟨w.heap.size, 1, none⟩ = some (.int .i64 n) := cell_in hx1 rfl
 have c2 : w1.cell? ⟨w.heap.size, 2, none⟩ = some (.string t) := cell_in hx1 rfl
 have HY1 := Lib.hid hy1
 have HB1 := Lib.hid hb1
 have HS1 := Lib.hid hs1
 clear hx1 hy1 hb1 hs1
 go_enter Tryz.func79, Tryz.ntmps79
 go_upto_region 1 with fail
 clear hw1
 go_wp2_with (refine st_agg rfl 32 _ _ rfl (w.heap.size + 1) #[.int .i64 k, .int .i64 n, .string t] rfl rfl 32 _ HY1.out sc3_size rfl (by simp [Value.oneCell']) ?_; intro w2 h2 k2)
 have hs1 := HS1.out
 exact bodyPost_ret (results_cell_row rfl _ _ (w.heap.size + 1) 32 _ (0, 0) _ rfl h2 Tryz.underlying32 rfl sc3_size) rfl ⟨rfl, HB1.out.trans (k2.below (by omega))⟩
theorem own_nd (k n : Int) (t : ByteArray) (ks : List ByteArray) (xs : List Tr) : ownT (.nd k n t ks xs) = if k < 0 ∨ 6 < k then 3 else if k ≤ 3 then (if ks ≠ [] ∨ xs.length ≠ 0 then 1 else chkSc (k, n, kb t)) else if n ≠ 0 ∨ t ≠ ⟨#[]⟩ then 1 else if (k = 5 ∧ ks.length ≠ xs.length) ∨ (k ≠ 5 ∧ ks ≠ []) then 1 else if ¬ ks.Nodup then 6 else 0 := rfl
theorem isEmpty_false {t : ByteArray} (h : ¬ t = ⟨#[]⟩) : t.toList.isEmpty = false := by
 refine Bool.eq_false_iff.2 fun h' => h ?_
 have h2 : t.toList = [] := List.isEmpty_iff.1 h'
 rw [ByteArray.toList_eq] at h2
 exact ByteArray.ext (Array.toList_inj.1 h2)
set_option maxHeartbeats 4000000 in
theorem va_checkAlone (a : Tr) (v : Value) (w : World) (hv : TrV w a v) (hl : a.ks.length ≤ 1000000) : Calls Tryz.prog 78 #[v] w fun e w' => e = .returned (.int .i64 (ownT a)) ∧ Below w.heap.size w w' := by
 obtain ⟨k, n, t, ks, xs⟩ := a
 obtain ⟨kv, xv, rfl, ht, _, _, htx, ad, cap, bb, oo, rfl, _, hmax, _⟩ := hv.open'
 obtain ⟨kd, kcap, kb1, ko, rfl, _, _, k3⟩ := id htx
 have hl' : ks.length ≤ 1000000 := hl
 have hm63 : (xs.length : Int) ≤ 9223372036854775807 := by unfold maxLen at hmax; omega
 have htw := fun W (hb : Below w.heap.size w W) => va_twice (.slice kd ks.length kcap) ks W (htx.later hb) hl'
 obtain ⟨R, hR⟩ : ∃ R, R = ownT (.nd k n t ks xs) := ⟨_, rfl⟩
 rw [← hR]
 rw [own_nd] at hR
 have eks : ks ≠ [] ↔ 0 < ks.length := by rw [List.length_pos_iff]
 have hks : (if ks ≠ [] ∨ xs.length ≠ 0 then (1 : Int) else chkSc (k, n, kb t)) = if 0 < ks.length ∨ 0 < xs.length then 1 else chkSc (k, n, kb t) := by
  by_cases h : 0 < ks.length ∨ 0 < xs.length
  ·rw [if_pos h, if_pos (h.imp eks.2 (fun h => by omega))]
  ·rw [if_neg h, if_neg (fun h' => h (h'.imp eks.1 (fun h => by omega)))]
 rw [hks] at hR
 obtain ⟨lk, hlk⟩ : ∃ lk, lk = ks.length := ⟨_, rfl⟩
 obtain ⟨lx, hlx⟩ : ∃ lx, lx = xs.length := ⟨_, rfl⟩
 rw [← hlk] at htw eks hR ⊢
 rw [← hlx] at hR hm63 ⊢
 obtain ⟨nd, hnd⟩ : ∃ nd, nd = decide (¬ ks.Nodup) := ⟨_, rfl⟩
 have hlast : ∀ R', R' = (if ¬ ks.Nodup then (6 : Int) else 0) → R' = if nd = true then 6 else 0 := fun R' h => by rw [h, hnd]; by_cases h' : ks.Nodup <;> simp [h']
 rw [← hnd] at htw
 have HB0 := Lib.hid (Below.newly' w (.cells (trC k n t (.slice kd lk kcap) (.slice ad lx cap)) 28))
 have HX0 : Hid ((w.alloc (.cells (trC k n t (.slice kd lk kcap) (.slice ad lx cap)) 28)).heap[w.heap.size]? = some (.cells (trC k n t (.slice kd lk kcap) (.slice ad lx cap)) 28 (0, 0))) := heap_alloc_last _ _
 have HPL := Lib.hid (fun W => va_plainOf k n t (.slice kd lk kcap) (.slice ad lx cap) W)
 have HSC := Lib.hid (fun W => sc_Check k n t W)
 have HTW := Lib.hid htw
 clear hv htx ht hl hl' htw hks hnd hmax k3 hlk hlx
 by_cases hout : k < 0 ∨ 6 < k
 ·rw [if_pos hout] at hR
  subst hR
  have n0 : ¬ k = 0 := by omega
  have n1 : ¬ k = 1 := by omega
  have n2 : ¬ k = 2 := by omega
  have n3 : ¬ k = 3 := by omega
  have n4 : ¬ k = 4 := by omega
  have n5 : ¬ k = 5 := by omega
  have n6 : ¬ k = 6 := by omega
  clear eks hout hlast
  go_enter Tryz.func78, Tryz.ntmps78
  go_wp2_with fail
  go_ret
  exact ⟨rfl, HB0.out⟩
 rw [if_neg hout] at hR
 by_cases h3 : k ≤ 3
 ·rw [if_pos h3] at hR
  have hk : k = 0 ∨ k = 1 ∨ k = 2 ∨ k = 3 := by omega
  by_cases c1 : 0 < lk
  ·rw [if_pos (.inl c1)] at hR
   subst hR
   clear eks hout h3 hlast
   rcases hk with rfl | rfl | rfl | rfl
   all_goals
    go_enter Tryz.func78, Tryz.ntmps78
    go_wp2_with fail
    go_ret
    exact ⟨rfl, HB0.out⟩
  ·obtain rfl : lk = 0 := by omega
   by_cases c2 : 0 < lx
   ·rw [if_pos (.inr c2)] at hR
    subst hR
    clear eks hout h3 c1 hlast
    rcases hk with rfl | rfl | rfl | rfl
    all_goals
     go_enter Tryz.func78, Tryz.ntmps78
     go_wp2_with fail
     go_ret
     exact ⟨rfl, HB0.out⟩
   ·obtain rfl : lx = 0 := by omega
    rw [if_neg (by omega)] at hR
    obtain ⟨R2, hR2⟩ : ∃ R2, R2 = chkSc (k, n, kb t) := ⟨_, rfl⟩
    rw [← hR2] at hR
    subst hR
    have HSC2 : Hid (∀ W, Calls Tryz.prog 104 #[scV k n t] W fun e w' => e = .returned (.int .i64 R) ∧ Below W.heap.size W w') := by show ∀ W, _; rw [hR2]; exact HSC.out
    clear eks hout h3 c1 c2 hlast hR2 HSC
    rcases hk with rfl | rfl | rfl | rfl
    all_goals
     go_enter Tryz.func78, Tryz.ntmps78
     go_wp2_with (first
      | (refine ld_if rfl 28 _ rfl w.heap.size rfl 28 _ _ _ HX0.out Tryz.underlying28 rfl tr_size5 ?_)
      | (go_at_call 79; (with_reducible refine (HPL.out _).mono ?_); rintro e w2 ⟨rfl, hb2⟩; have HB2 := Lib.hid (tW HB0.out hb2); clear hb2)
      | (go_at_call 104; (with_reducible refine (HSC2.out _).mono ?_); rintro e w3 ⟨rfl, hb3⟩; have HB3 := Lib.hid (tW HB2.out hb3); clear hb3))
     go_ret
     exact ⟨rfl, HB3.out⟩
 ·rw [if_neg h3] at hR
  have hk : k = 4 ∨ k = 5 ∨ k = 6 := by omega
  by_cases c1 : n = 0
  case neg =>
   rw [if_pos (.inl c1)] at hR
   subst hR
   clear eks hout h3 hlast
   rcases hk with rfl | rfl | rfl
   all_goals
    go_enter Tryz.func78, Tryz.ntmps78
    go_wp2_with fail
    go_ret
    exact ⟨rfl, HB0.out⟩
  by_cases c2 : t = ⟨#[]⟩
  case neg =>
   rw [if_pos (.inr c2)] at hR
   subst hR
   subst c1
   have c2' : t.toList.isEmpty = false := isEmpty_false c2
   clear eks hout h3 c2 hlast
   rcases hk with rfl | rfl | rfl
   all_goals
    go_enter Tryz.func78, Tryz.ntmps78
    go_wp2_with fail
    go_ret
    exact ⟨rfl, HB0.out⟩
  subst c1 c2
  rw [if_neg (by simp)] at hR
  by_cases c3 : k = 5
  ·subst c3
   by_cases c4 : lk = lx
   case neg =>
    rw [if_pos (.inl ⟨rfl, c4⟩)] at hR
    subst hR
    clear eks hout h3 hk hlast
    go_enter Tryz.func78, Tryz.ntmps78
    go_wp2_with fail
    go_ret
    exact ⟨rfl, HB0.out⟩
   subst c4
   rw [if_neg (by rintro (⟨_, h⟩ | ⟨h, _⟩) <;> first | exact h rfl | exact absurd rfl h)] at hR
   have hR2 := hlast _ hR
   clear hR hlast hout h3 hk eks
   cases nd
   all_goals
    subst hR2
    go_enter Tryz.func78, Tryz.ntmps78
    go_wp2_with (go_at_call 105; (with_reducible refine (HTW.out _ HB0.out).mono ?_); rintro e w2 ⟨rfl, hb2⟩; have HB2 := Lib.hid (tW HB0.out hb2); clear hb2)
    go_ret
    exact ⟨rfl, HB2.out⟩
  ·by_cases c4 : lk = 0
   case neg =>
    rw [if_pos (.inr ⟨c3, eks.2 (by omega)⟩)] at hR
    subst hR
    clear eks hout h3 hlast
    rcases hk with rfl | rfl | rfl
    case inr.inl => exact absurd rfl c3
    all_goals
     clear c3
     go_enter Tryz.func78, Tryz.ntmps78
     go_wp2_with fail
     go_ret
     exact ⟨rfl, HB0.out⟩
   subst c4
   rw [if_neg (by rintro (⟨h, _⟩ | ⟨_, h⟩) <;> first | exact c3 h | exact absurd (eks.1 h) (by omega))] at hR
   have hR2 := hlast _ hR
   clear hR hlast hout h3 eks
   cases nd
   all_goals
    subst hR2
    rcases hk with rfl | rfl | rfl
    case inr.inl => exact absurd rfl c3
    all_goals
     clear c3
     go_enter Tryz.func78, Tryz.ntmps78
     go_wp2_with (go_at_call 105; (with_reducible refine (HTW.out _ HB0.out).mono ?_); rintro e w2 ⟨rfl, hb2⟩; have HB2 := Lib.hid (tW HB0.out hb2); clear hb2)
     go_ret
     exact ⟨rfl, HB2.out⟩
end Go.Proofs.YtpodmgihlomglaaGreatDoor
