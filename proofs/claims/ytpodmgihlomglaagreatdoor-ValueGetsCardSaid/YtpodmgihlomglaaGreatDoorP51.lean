import Derived.Test.YtpodmgihlomglaaGreatDoorP33
import Derived.Test.YtpodmgihlomglaaGreatDoorP49
namespace Go.Proofs.YtpodmgihlomglaaGreatDoor
open Go.RowKit
set_option maxRecDepth 1000000
set_option linter.unusedSimpArgs false
theorem tail5p {α β γ δ ε : Type} {Q P : α → β → γ → δ → ε → Prop} {G : Prop} (main : (∀ a b c d e, Q a b c d e → P a b c d e) → G) (rest : ∀ a b c d e, Q a b c d e → P a b c d e) : G := main rest
section
variable {B : Nat} {e T : TypeId} {s s' : Nat} {v u : Value} {cs ds : List (Array Value)} {w w' : World}
theorem rowsW_zero {g : Nat} (hB : B ≤ g) (hw : B ≤ w.heap.size) (hg : w.heap[g]? = some (.cells #[] e (0, 0))) : RowsW B e s (.slice (some ⟨g, 0, none⟩) 0 0) [] w :=
 ⟨⟨by simp, .inr ⟨g, 0, #[], rfl, hB, hg, Nat.le_refl _, by decide, by simp, by simp⟩⟩, hw, fun c hc => by cases hc⟩
theorem RowsW.apart3 (h : RowsW B e s v cs w) (h' : RowsW B T s' u ds w) (hg : w.grownBy w' u.ownBlock) (hT : e ≠ T) : RowsW B e s v cs w' := by
 refine h.grown hg ?_
 cases hv : v.ownBlock with
 | none => exact .inl rfl
 | some g => exact .inr fun e' => h.own.apart2 h'.own hT hv e'.symm
theorem RowsW.below' (h : RowsW B e s v cs w) (hg : w.grownBy w' v.ownBlock) {X : Nat} (hX : X ≤ B) (hw : X ≤ w.heap.size) : Below X w w' := h.own.below hg hX hw
theorem rowsC_wp {o : Oper} {a : Act} {K : Act → World → Prop} {Q : Exit → Act → World → Prop} (t e : TypeId) (p q : Operand)
  (ho : o.op = .call { callee := .builtin .append, args := #[p, q], argTypes := #[t, t] })
  {B s by_ n : Nat} {z v vr : Value} {cs ds : List (Array Value)} (hs : a.eval p = v) (hb : RowsW B e s v cs w) (hx : a.eval q = vr) {S : Nat → Prop} (hc : CutAt S w s vr (ds.flatMap Array.toList) n)
  (h5 : n = ds.length ∧ ∀ c ∈ ds, c.size = s) (h1 : ∀ u ∈ ds.flatMap Array.toList, u.oneCell' = true) (hu : Tryz.prog.underlying t = some (.slice e)) (hi : (Tryz.prog.info? e).map (fun i => (i.zero, i.size, i.bytes)) = some (some z, s, by_))
  (hzs : z.cells.size = s) (hsz : 0 < s) (hlen : cs.length + ds.length ≤ 1000000) (hby : by_ ≤ 1000000)
  (h : ∀ v' w', RowsW B e s v' (cs ++ ds) w' → w.grownBy w' v.ownBlock → K (a.put o.dst v') w') : o.wp Tryz.prog a w K Q := by
 obtain ⟨i, hi0, hz, h2, h3⟩ := info_parts hi
 obtain ⟨rfl, h5⟩ := h5
 have hbytes : (cs.length + ds.length) * by_ ≤ 140737488355328 := by
  have : (cs.length + ds.length) * by_ ≤ 1000000 * 1000000 := Nat.mul_le_mul (by omega) hby
  omega
 obtain ⟨v', w', r1, r2, r3⟩ := run_append_cut (P := Tryz.prog) (w := w) B t o.type e i z by_ hu hi0 hz h2 h3 hzs hsz hb.1 hc h1 (by unfold maxLen; omega) hbytes hb.2.1
 unfold Oper.wp execOp
 simp only [ho, resolve, invoke, builtin, Sem.run_bind, Sem.run_pure, Result.andThen_ok, List.map_toArray, List.map_cons, List.map_nil, hs, hx, r1]
 refine h v' w' ⟨?_, Nat.le_trans hb.2.1 r3.size, fun x hx => ?_⟩ r3
 ·rw [List.length_append, List.flatMap_append]
  exact r2
 ·rcases List.mem_append.1 hx with hx | hx
  ·exact hb.2.2 x hx
  ·exact h5 x hx
end
theorem oneC {ds : List (Array Value)} (h : ∀ c ∈ ds, c.all (·.oneCell') = true) : ∀ u ∈ ds.flatMap Array.toList, u.oneCell' = true := fun u hu => by
 obtain ⟨c, h1, h2⟩ := List.mem_flatMap.1 hu
 exact (Array.all_eq_true_iff_forall_mem.1 (h c h1)) u (by simpa using h2)
theorem one_strs {l : List ByteArray} : l.length = (l.map fun y => (#[.string y] : Array Value)).length ∧ ∀ c ∈ (l.map fun y => (#[.string y] : Array Value)), c.size = 1 := ⟨by simp, fun c hc => by obtain ⟨y, _, rfl⟩ := List.mem_map.1 hc; rfl⟩
theorem one_strs2 {l : List ByteArray} : ∀ u ∈ (l.map fun y => (#[.string y] : Array Value)).flatMap Array.toList, u.oneCell' = true := oneC fun c hc => by obtain ⟨y, _, rfl⟩ := List.mem_map.1 hc; simp [Value.oneCell']
theorem one_str {y : ByteArray} : 1 = ([#[.string y]] : List (Array Value)).length ∧ ∀ c ∈ ([#[.string y]] : List (Array Value)), c.size = 1 := ⟨rfl, fun c hc => by simp at hc; subst hc; rfl⟩
theorem one_tree {c : Array Value} (h : c.size = 5) : 1 = ([c] : List (Array Value)).length ∧ ∀ d ∈ ([c] : List (Array Value)), d.size = 5 := ⟨rfl, fun d hd => by rw [List.mem_singleton.1 hd]; exact h⟩
theorem one_str2 {y : ByteArray} : ∀ u ∈ ([#[.string y]] : List (Array Value)).flatMap Array.toList, u.oneCell' = true := by simp [Value.oneCell']
theorem cut_oneN {W : World} {g s : Nat} {c : Array Value} {T : TypeId} (h : W.heap[g]? = some (.cells c T (0, 0))) (hc : c.size = s) : CutAt (fun _ => True) W s (.slice (some ⟨g, 0, none⟩) 1 1) (([c] : List (Array Value)).flatMap Array.toList) 1 :=
 ⟨_, 1, rfl, Nat.le_refl _, by simp [hc], .inr ⟨g, 0, rfl, trivial, (Array.getElem?_eq_some_iff.1 h).1, fun j u hu => by
  rw [Nat.zero_add]
  refine cell_in h ?_
  simpa using hu⟩⟩
theorem cut_one5 {W : World} {g : Nat} {c : Array Value} (h : W.heap[g]? = some (.cells c 28 (0, 0))) (hc : c.size = 5) : CutAt (fun _ => True) W 5 (.slice (some ⟨g, 0, none⟩) 1 1) (([c] : List (Array Value)).flatMap Array.toList) 1 := cut_oneN h hc
theorem cut_one1 {W : World} {g : Nat} {y : ByteArray} (h : W.heap[g]? = some (.cells #[.string y] 9 (0, 0))) : CutAt (fun _ => True) W 1 (.slice (some ⟨g, 0, none⟩) 1 1) (([#[.string y]] : List (Array Value)).flatMap Array.toList) 1 := cut_oneN h rfl
theorem trSL_take {S : Nat → Prop} {W : World} {xs : List Tr} {l : List (Array Value)} (h : TrSL S W xs l) (n : Nat) : TrSL S W (xs.take n) (l.take n) :=
 trSL_of (by rw [List.length_take, List.length_take, trSL_len h]) fun j hj hl => by
  simp only [List.getElem_take]
  exact trSL_at h _ _
theorem trSL_drop {S : Nat → Prop} {W : World} {xs : List Tr} {l : List (Array Value)} (h : TrSL S W xs l) (n : Nat) : TrSL S W (xs.drop n) (l.drop n) :=
 trSL_of (by rw [List.length_drop, List.length_drop, trSL_len h]) fun j hj hl => by
  simp only [List.getElem_drop]
  exact trSL_at h _ _
theorem place_at {K : List ByteArray} {k : ByteArray} : ∀ (j : Nat) (hj : j < K.length), (j < placeK K k → kb K[j] < kb k) ∧ (j = placeK K k → ¬ kb K[j] < kb k) := by
 unfold placeK
 induction K with
 | nil => intro j hj; simp at hj
 | cons y r ih =>
  intro j hj
  rw [List.takeWhile_cons]
  by_cases h : kb y < kb k
  ·rw [decide_eq_true h, if_pos rfl, List.length_cons]
   cases j with
   | zero => exact ⟨fun _ => h, fun e => absurd e (by omega)⟩
   | succ j =>
    have := ih j (by simpa using hj)
    simp only [List.getElem_cons_succ]
    exact ⟨fun e => this.1 (by omega), fun e => this.2 (by omega)⟩
  ·rw [decide_eq_false h, if_neg (by simp), List.length_nil]
   exact ⟨fun e => absurd e (by omega), fun e => by subst e; exact h⟩
theorem lsT_cut {S : Nat → Prop} {w : World} {T : TypeId} {s n : Nat} {v : Value} {cs : List Value} (h : LsT S w T s v cs n) : CutAt (fun g => S g ∧ g < w.heap.size) w s v cs n := by
 obtain ⟨h1, h2, a, c, h3, h4, h5⟩ := h
 refine ⟨a, c, h3, h4, h1, h5.imp_right ?_⟩
 rintro ⟨g, o, cur, fr, e, hg, hb, h⟩
 exact ⟨g, o, e, ⟨hg, (Array.getElem?_eq_some_iff.1 hb).1⟩, (Array.getElem?_eq_some_iff.1 hb).1, fun j u hu => cell_in hb (h j u hu)⟩
theorem flat_take' (s : Nat) : ∀ (cs : List (Array Value)) (k : Nat), (∀ c ∈ cs, c.size = s) → (cs.flatMap Array.toList).take (k * s) = (cs.take k).flatMap Array.toList
 | [], k, _ => by simp
 | c :: r, 0, _ => by simp
 | c :: r, k + 1, h => by
  have hc : c.toList.length = s := by rw [Array.length_toList]; exact h c (List.mem_cons_self ..)
  rw [List.take_succ_cons, List.flatMap_cons, List.flatMap_cons, ← flat_take' s r k (fun x hx => h x (List.mem_cons_of_mem _ hx)), show (k + 1) * s = c.toList.length + k * s by rw [hc, Nat.succ_mul, Nat.add_comm], List.take_length_add_append]
theorem flat_drop' (s : Nat) : ∀ (cs : List (Array Value)) (k : Nat), (∀ c ∈ cs, c.size = s) → (cs.flatMap Array.toList).drop (k * s) = (cs.drop k).flatMap Array.toList
 | [], k, _ => by simp
 | c :: r, 0, _ => by simp
 | c :: r, k + 1, h => by
  have hc : c.toList.length = s := by rw [Array.length_toList]; exact h c (List.mem_cons_self ..)
  rw [List.drop_succ_cons, List.flatMap_cons, ← flat_drop' s r k (fun x hx => h x (List.mem_cons_of_mem _ hx)), show (k + 1) * s = c.toList.length + k * s by rw [hc, Nat.succ_mul, Nat.add_comm], List.drop_length_add_append]
theorem ord_lt11 (a b : ByteArray) : (orderS a.data.toList b.data.toList < 0) ↔ kb a < kb b := by
 have h1 := orderS_less a.data.toList b.data.toList
 rcases orderS_range a.data.toList b.data.toList with h | h | h
 ·exact ⟨fun _ => h1.1 h, fun _ => by omega⟩
 ·exact ⟨fun h2 => by omega, fun h2 => by have := h1.2 h2; omega⟩
 ·exact ⟨fun h2 => by omega, fun h2 => by have := h1.2 h2; omega⟩
set_option maxHeartbeats 8000000 in
theorem rf_put {S : Nat → Prop} (w : World) (kv iv : Value) (K : List ByteArray) (ys : List Tr) (css : List (Array Value)) (k : ByteArray) (x : Tr) (xv : Value) (hk : LsT S w 9 1 kv (K.map Value.string) K.length) (hi : LsT S w 28 5 iv (css.flatMap Array.toList) ys.length) (hys : TrSL S w ys css) (hx : TrS S w x xv) (hl : K.length = ys.length) (hlen : K.length ≤ 20000) (hsz : ∀ y ∈ K, y.size ≤ maxLen) :
  Calls Tryz.prog 49 #[kv, iv, .string k, xv] w fun r w' => ∃ kv' iv' xc, xv = .agg xc ∧ r = .returned (.tuple #[kv', iv']) ∧ LsT (fun g => w.heap.size ≤ g) w' 9 1 kv' ((putN (placeK K k) K k).map Value.string) (putN (placeK K k) K k).length ∧ LsT (fun g => w.heap.size ≤ g) w' 28 5 iv' ((putN (placeK K k) css xc).flatMap Array.toList) (putN (placeK K k) ys x).length ∧ TrSL S w' (putN (placeK K k) ys x) (putN (placeK K k) css xc) ∧ Below w.heap.size w w' := by
 obtain ⟨xk, xn, xt, xa, xl, xq, xd, xm, xe, rfl⟩ := tr_shape hx.trv
 have hcl := trSL_len hys
 have hc5 := trSL_size hys
 have hc1 : ∀ c ∈ css, c.all (·.oneCell') = true := fun c hc => by
  obtain ⟨i, hi', rfl⟩ := List.mem_iff_getElem.1 hc
  obtain ⟨_, h2⟩ := trSL_at hys (by omega) hi'
  obtain ⟨kk, nn, tt, aa, ll, cc, dd, mm, ee, e⟩ := h2.trv.cells
  rw [e]
  simp [Value.oneCell']
 have hck := lsT_cut hk
 have hci := lsT_cut hi
 obtain ⟨p, hp⟩ : ∃ p, p = placeK K k := ⟨_, rfl⟩
 rw [← hp]
 obtain ⟨N, hN⟩ : ∃ N, N = K.length := ⟨_, rfl⟩
 have hpN : p ≤ N := by rw [hp, hN]; exact (List.takeWhile_prefix _).length_le
 rw [← hl, ← hN] at hi hci
 rw [← hN] at hk hck
 obtain ⟨w1, hw1⟩ : ∃ w1, w.alloc (.cells (trC xk xn xt (.slice xa xl xq) (.slice xd xm xe)) 28) = w1 := ⟨_, rfl⟩
 obtain ⟨hb1, hx1, hs1⟩ := new_below hw1
 have HBS : Hid (w1.heap.size = w.heap.size + 1) := hs1
 have hlow : ∀ V, Below (w.heap.size + 1) w1 V → Below w.heap.size w V := fun V hb => hb1.trans (hb.mono (by omega))
 obtain ⟨ka2, kc2, hk2, hk2r⟩ := cut_h 25 (P := Tryz.prog) (by kernel_rfl) (fun w => by kernel_rfl) hck hpN
 obtain ⟨ia2, ic2, hi2, hi2r⟩ := cut_h 26 (P := Tryz.prog) (by kernel_rfl) (fun w => by kernel_rfl) hci hpN
 obtain ⟨ka3, kc3, hk3, hk3r⟩ := cut_l 25 (P := Tryz.prog) (by kernel_rfl) (fun w => by kernel_rfl) hck hpN
 obtain ⟨ia3, ic3, hi3, hi3r⟩ := cut_l 26 (P := Tryz.prog) (by kernel_rfl) (fun w => by kernel_rfl) hci hpN
 rw [flat_take' 5 css p hc5] at hi2
 rw [flat_drop' 5 css p hc5] at hi3
 rw [← flat_strs, flat_take' 1 _ p one_strs.2, ← List.map_take] at hk2
 rw [← flat_strs, flat_drop' 1 _ p one_strs.2, ← List.map_drop] at hk3
 obtain ⟨ka, kc, rfl, _⟩ := hck.shape
 obtain ⟨ia, ic, rfl, _⟩ := hci.shape
 have hcell : ∀ j (_ : j < K.length), ∃ g o, ka = some ⟨g, o, none⟩ ∧ ∀ V, Below (w.heap.size + 1) w1 V → V.cell? ⟨g, o + j, none⟩ = some (.string K[j]) := fun j hj => by
  obtain ⟨g, o, c, e, _, _, _, h⟩ := hck.pos (by omega)
  have h2 := h j (.string K[j]) (by rw [List.getElem?_map, List.getElem?_eq_getElem hj]; rfl)
  refine ⟨g, o, ?_, fun V hb => ((hlow V hb).cell (World.block_lt_of_cell? w _ h2)).trans h2⟩
  injection e with e1 e2 e3
 have HCEL := Lib.hid hcell
 have HCK : Hid (∀ V, Below (w.heap.size + 1) w1 V → CutAt (fun _ => True) V 1 (.slice ka2 p kc2) (((K.take p).map fun y => (#[.string y] : Array Value)).flatMap Array.toList) p) := fun V hb => (hk2.later (hlow V hb)).weak fun _ _ => trivial
 have HCK2 : Hid (∀ V, Below (w.heap.size + 1) w1 V → CutAt (fun _ => True) V 1 (.slice ka3 (N - p) kc3) (((K.drop p).map fun y => (#[.string y] : Array Value)).flatMap Array.toList) (N - p)) := fun V hb => (hk3.later (hlow V hb)).weak fun _ _ => trivial
 have HCI : Hid (∀ V, Below (w.heap.size + 1) w1 V → CutAt (fun _ => True) V 5 (.slice ia2 p ic2) ((css.take p).flatMap Array.toList) p) := fun V hb => (hi2.later (hlow V hb)).weak fun _ _ => trivial
 have HCI2 : Hid (∀ V, Below (w.heap.size + 1) w1 V → CutAt (fun _ => True) V 5 (.slice ia3 (N - p) ic3) ((css.drop p).flatMap Array.toList) (N - p)) := fun V hb => (hi3.later (hlow V hb)).weak fun _ _ => trivial
 have HP1 : Hid (p = ((K.take p).map fun y => (#[.string y] : Array Value)).length ∧ ∀ c ∈ ((K.take p).map fun y => (#[.string y] : Array Value)), c.size = 1) := ⟨by rw [List.length_map, List.length_take]; omega, one_strs.2⟩
 have HP2 : Hid (N - p = ((K.drop p).map fun y => (#[.string y] : Array Value)).length ∧ ∀ c ∈ ((K.drop p).map fun y => (#[.string y] : Array Value)), c.size = 1) := ⟨by rw [List.length_map, List.length_drop]; omega, one_strs.2⟩
 have HC5 : Hid (p = (css.take p).length ∧ ∀ c ∈ css.take p, c.size = 5) := ⟨by rw [List.length_take]; omega, fun c hc => hc5 c (List.mem_of_mem_take hc)⟩
 have HC5b : Hid (N - p = (css.drop p).length ∧ ∀ c ∈ css.drop p, c.size = 5) := ⟨by rw [List.length_drop]; omega, fun c hc => hc5 c (List.mem_of_mem_drop hc)⟩
 have HC1 : Hid (∀ c ∈ css.take p, c.all (·.oneCell') = true) := fun c hc => hc1 c (List.mem_of_mem_take hc)
 have HC1b : Hid (∀ c ∈ css.drop p, c.all (·.oneCell') = true) := fun c hc => hc1 c (List.mem_of_mem_drop hc)
 have HPN : Hid (p ≤ N ∧ N = K.length ∧ K.length = css.length ∧ K.length ≤ 20000) := ⟨hpN, hN, by omega, hlen⟩
 have HPP := Lib.hid hp
 have HKSZ := Lib.hid hsz
 have HK2 := Lib.hid hk2r
 have HI2 := Lib.hid hi2r
 have HK3 := Lib.hid hk3r
 have HI3 := Lib.hid hi3r
 have HKS : Hid (∀ V, Below (w.heap.size + 1) w1 V → V.heap[w.heap.size]? = some (.cells (trC xk xn xt (.slice xa xl xq) (.slice xd xm xe)) 28 (0, 0))) := fun V hb => (hb.block _ (by omega)).trans hx1
 have HOUT : Hid (∀ (v8 v9 : Value) (W : World), RowsW (w.heap.size + 1) 9 1 v8 ((([] ++ (K.take p).map fun y => (#[.string y] : Array Value)) ++ [#[.string k]]) ++ (K.drop p).map fun y => (#[.string y] : Array Value)) W → RowsW (w.heap.size + 1) 28 5 v9 ((([] ++ css.take p) ++ [(trC xk xn xt (.slice xa xl xq) (.slice xd xm xe))]) ++ css.drop p) W → Below (w.heap.size + 1) w1 W →
   LsT (fun g => w.heap.size ≤ g) W 9 1 v8 ((putN p K k).map Value.string) (putN p K k).length ∧ LsT (fun g => w.heap.size ≤ g) W 28 5 v9 ((putN p css (trC xk xn xt (.slice xa xl xq) (.slice xd xm xe))).flatMap Array.toList) (putN p ys x).length ∧ TrSL S W (putN p ys x) (putN p css (trC xk xn xt (.slice xa xl xq) (.slice xd xm xe))) ∧ Below w.heap.size w W) := fun v8 v9 W h8 h9 hb => by
  have hKp : (([] ++ (K.take p).map fun y => (#[.string y] : Array Value)) ++ [#[.string k]]) ++ (K.drop p).map (fun y => (#[.string y] : Array Value)) = (putN p K k).map fun y => (#[.string y] : Array Value) := by simp [putN]
  have hCp : (([] ++ css.take p) ++ [(trC xk xn xt (.slice xa xl xq) (.slice xd xm xe))]) ++ css.drop p = putN p css (trC xk xn xt (.slice xa xl xq) (.slice xd xm xe)) := by simp [putN]
  rw [hKp] at h8
  rw [hCp] at h9
  have l8 := h8.own.lsT
  rw [flat_strs, List.length_map] at l8
  have l9 := h9.own.lsT
  rw [show (putN p css (trC xk xn xt (.slice xa xl xq) (.slice xd xm xe))).length = (putN p ys x).length by rw [putN_len, putN_len, hcl]] at l9
  have hbw := hlow W hb
  have hold := fun (xs : List Tr) (l : List (Array Value)) (h : TrSL S w xs l) => h.old.imp (KT.low hbw fun g h => h.2) (S' := S) fun g hg _ => hg.1
  refine ⟨l8.imp (.inl rfl) KT.refl fun g hg _ => ?_, l9.imp (.inr rfl) KT.refl fun g hg _ => ?_, ?_, hbw⟩
  ·have := (h8.own.lt hg).1; omega
  ·have := (h9.own.lt hg).1; omega
  ·unfold putN
   have hx2 : TrSL S W [x] [(trC xk xn xt (.slice xa xl xq) (.slice xd xm xe))] := hold _ _ (trSL_one rfl hx)
   have h3 := trSL_app (hold _ _ (trSL_take hys p)) (trSL_app hx2 (hold _ _ (trSL_drop hys p)))
   simpa using h3
 have HW : Hid (Below (w.heap.size + 1) w1 w1) := Below.refl _ _
 clear hk2 hk3 hi2 hi3 hk2r hi2r hk3r hi3r hck hci hk hi hcell hc1 hc5 hcl hys hx hl hlen hsz hp hpN hN hlow hb1 hx1 hs1
 go_enter Tryz.func49, Tryz.ntmps49
 go_upto_region 1 with fail
 clear hw1
 go_wp2_with fail
 go_loopw [10] (fun at_ wl => ∃ j : Nat, j ≤ p ∧ at_ = .int .i64 (j : Int) ∧ Hid (Below (w.heap.size + 1) w1 wl)) (fun at_ _ => p + 1 - (intOf at_).toNat)
 case atStart => exact ⟨0, Nat.zero_le _, rfl, HW.out⟩
 case round =>
  clear HW
  obtain ⟨j, hj, rfl, HW⟩ := hrel
  by_cases hjN : j < N
  ·have hlt' : (j : Int) < (N : Int) := by omega
   have i0 : (0 : Int) ≤ (j : Int) := by omega
   have hN2 : (N : Int) ≤ 20000 := by have := HPN.out; omega
   have hjK : j < K.length := by rw [← HPN.out.2.1]; exact hjN
   obtain ⟨g, o, rfl, hce⟩ := HCEL.out j hjK
   have hcc := hce wr HW.out
   have hpa := place_at (k := k) j hjK
   rw [← HPP.out] at hpa
   obtain ⟨y, hy⟩ : ∃ y, y = K[j] := ⟨_, rfl⟩
   have hys : y.size ≤ maxLen := by rw [hy]; exact HKSZ.out _ (List.getElem_mem hjK)
   rw [← hy] at hcc hpa
   obtain ⟨od, hod⟩ : ∃ od, od = orderS y.data.toList k.data.toList := ⟨_, rfl⟩
   have hol := ord_lt11 y k
   rw [← hod] at hol
   have HOR : Hid (∀ W, Calls Tryz.prog 84 #[.string y, .string k] W fun e w' => e = .returned (.int .i64 od) ∧ Below W.heap.size W w') := fun W => by
    rw [hod]
    exact (ref_Order y k W hys).mono fun _ _ h => ⟨h.1, h.2.below⟩
   have HPA := Lib.hid hpa
   clear hce hpa hy hod hys
   by_cases hlt : kb y < kb k
   ·have ho0 : od < 0 := hol.2 hlt
    have hjp : j < p := by
     rcases Nat.lt_or_ge j p with h | h
     ·exact h
     ·exact absurd hlt (HPA.out.2 (by omega))
    have HJP := Lib.hid hjp
    clear hol hlt
    go_wp2_with (first
     | (go_at_call 84; (with_reducible refine (HOR.out _).mono ?_); rintro r V ⟨rfl, hb⟩; replace HW := Lib.hid (HW.out.trans (hb.mono (by have h1 := HBS.out; have h2 := HW.out.size; omega))); clear hb))
    go_roundw
    case rel => exact ⟨j + 1, HJP.out, by go_num, HW.out⟩
    case measure => have := HJP.out; simp [intOf]; omega
   ·have ho0 : ¬ od < 0 := fun h => hlt (hol.1 h)
    obtain rfl : p = j := by
     rcases Nat.lt_or_ge j p with h | h
     ·exact absurd (HPA.out.1 h) hlt
     ·omega
    clear hol hlt HPA
    go_upto_region 4 with (first
     | (go_at_call 84; (with_reducible refine (HOR.out _).mono ?_); rintro r wr2 ⟨rfl, hb⟩; replace HW := Lib.hid (HW.out.trans (hb.mono (by have h1 := HBS.out; have h2 := HW.out.size; omega))); clear hb))
    clear HOR hcc
    have HER0 : Hid (RowsW (w.heap.size + 1) 9 1 (.slice (some ⟨wr2.heap.size, 0, none⟩) 0 0) [] (wr2.alloc (.cells #[] 9))) := rowsW_zero (by have h1 := HBS.out; have h2 := HW.out.size; omega) (by have h1 := HBS.out; have h2 := HW.out.size; simp; omega) (heap_alloc_last _ _)
    have hb0 := HW.out.trans ((Below.newly' wr2 (.cells #[] 9)).mono (by have h1 := HBS.out; have h2 := HW.out.size; omega))
    have hk2 := HK2.out
    have HCK1 := Lib.hid (HCK.out _ hb0)
    go_upto_region 5 with (first
     | (refine wpList_plain rfl fun _ hK => rowsC_wp 25 9 _ _ rfl (by_ := 16) (z := .string ⟨#[]⟩) rfl HER0.out rfl HCK1.out HP1.out one_strs2 Tryz.underlying25 str_info rfl (by decide) (by have := HPN.out; simp; omega) (by decide) ?_; intro v1 w2 hr hg; refine hK _ _ ?_; have HKR1 := Lib.hid hr; have HW2 := Lib.hid (hb0.trans (HER0.out.below' hg (Nat.le_refl _) (by have h1 := HBS.out; have h2 := HW.out.size; simp; omega))); clear hr hg hK)
     | (refine wpList_plain rfl fun _ hK => rowsC_wp 25 9 _ _ rfl (by_ := 16) (z := .string ⟨#[]⟩) rfl (HKR1.out.later (Below.newly' w2 (.cells #[.string k] 9))) rfl (cut_one1 (heap_alloc_last w2 (.cells #[.string k] 9))) one_str one_str2 Tryz.underlying25 str_info rfl (by decide) (by have := HPN.out; simp; omega) (by decide) ?_; intro v2 w3 hr hg; refine hK _ _ ?_; have HKR := Lib.hid hr; have HW3 : Hid (Below (w.heap.size + 1) w1 w3) := (HW2.out.trans ((Below.newly' w2 (.cells #[.string k] 9)).mono (by have h1 := HBS.out; have h2 := HW2.out.size; omega))).trans ((HKR1.out.later (Below.newly' w2 (.cells #[.string k] 9))).below' hg (Nat.le_refl _) (by have h1 := HBS.out; have h2 := HW2.out.size; simp; omega)); clear hr hg hK))
    clear hk2 hb0
    replace HW := HW3
    clear HW3 HW2 HKR1 HCK1 HER0
    obtain ⟨wg, hwg⟩ : ∃ wg, wg = w3.drew := ⟨_, rfl⟩
    have hdr : Below w3.heap.size w3 wg := by rw [hwg]; exact drawn_below w3
    replace HKR := Lib.hid (HKR.out.later hdr)
    replace HW := Lib.hid (HW.out.trans (hdr.mono (by have h1 := HBS.out; have h2 := HW.out.size; omega)))
    have HWG := Lib.hid hwg
    clear hdr hwg
    have hsl2 := HI2.out
    apply tail5p (Q := fun (W : World) (v4 : Value) (lx : Nat) (v7 : Value) (_ : Nat) => RowsW (w.heap.size + 1) 28 5 v7 (([] ++ css.take p) ++ [(trC xk xn xt (.slice xa xl xq) (.slice xd xm xe))]) W ∧ RowsW (w.heap.size + 1) 9 1 v2 (([] ++ (K.take p).map fun y => (#[.string y] : Array Value)) ++ [#[.string k]]) W ∧ Below (w.heap.size + 1) w1 W)
    case main =>
     intro REST
     refine wp_region_T (S := (fun V => V.heap[w.heap.size]? = some (.cells (trC xk xn xt (.slice xa xl xq) (.slice xd xm xe)) 28 (0, 0)))) [7, 8] (by kernel_rfl) (by rw [← HWG.out]; exact HKS.out _ HW.out) (fun hHeld => ?_)
     rw [← HWG.out] at hHeld ⊢
     refine tkL 1 37 (h := ?_)
     refine tkL 2 38 (h := ?_)
     (try simp only [pq])
     refine tkL 3 39 (h := ?_)
     refine tyL 5 41 (hy := yieldsIf_load_row (by rfl) 28 _ rfl w.heap.size rfl (trC xk xn xt (.slice xa xl xq) (.slice xd xm xe)) 28 (0, 0) _ (fun w hw => hw) Tryz.underlying28 rfl (by exact tr_size)) (h := ?_)
     (try simp only [pq])
     refine wpAnyT_ready (rs := [0, 6]) (by kernel_rfl) (by simp) (AllT.cons (o := ⟨some 36, _, _, _, _, _⟩) rfl (fun K hK => ?_) (AllT.cons (o := ⟨some 42, _, _, _, _, _⟩) rfl (fun K hK => ?_) AllT.nil))
     ·go_simp
      have hbz := Below.newly' wg (.cells #[] 28)
      have hz9 := heap_alloc_last wg (.cells #[] 28)
      have hw9 := HW.out.size
      obtain ⟨E, hE⟩ : ∃ E, E = wg.heap.size := ⟨_, rfl⟩
      obtain ⟨w0, hw0⟩ : ∃ w0, w0 = wg.alloc (.cells #[] 28) := ⟨_, rfl⟩
      rw [← hw0, ← hE] at hz9
      rw [← hw0] at hbz ⊢
      have HER : Hid (RowsW (w.heap.size + 1) 28 5 (.slice (some ⟨E, 0, none⟩) 0 0) [] w0) := rowsW_zero (by have := HBS.out; omega) (by have h1 := HBS.out; have h2 := hbz.size; omega) hz9
      replace HKR := Lib.hid (HKR.out.later hbz)
      have HEL : Hid (E < w0.heap.size) := (Array.getElem?_eq_some_iff.1 hz9).1
      replace HW := Lib.hid (HW.out.trans (hbz.mono (by have h1 := HBS.out; have h2 := HW.out.size; omega)))
      rw [← hE]
      clear hbz hz9 hw9 hw0 hE
      refine hK.out _ _ (by exact HKS.out _ HW.out) (fun hHeld => ?_)
      clear hK K
      (try simp only [pq])
      refine wpAnyT_ready (rs := [4, 6]) (by kernel_rfl) (by simp) (AllT.cons (o := ⟨some 40, _, _, _, _, _⟩) rfl (fun K hK => ?_) (AllT.cons (o := ⟨some 42, _, _, _, _, _⟩) rfl (fun K hK => ?_) AllT.nil))
      ·refine rowsC_wp 26 28 _ _ rfl (by_ := 80) (z := .agg (trC 0 0 ⟨#[]⟩ (.slice none 0 0) (.slice none 0 0))) rfl HER.out rfl (HCI.out _ HW.out) HC5.out (oneC HC1.out) Tryz.underlying26 trl_info3 rfl (by decide) (by have := HPN.out; simp; omega) (by decide) ?_
       intro v4 w4 hr hg
       have HTR4 := Lib.hid hr
       replace HKR := Lib.hid (HKR.out.apart3 HER.out hg (by decide))
       replace HW := Lib.hid (HW.out.trans (HER.out.below' hg (Nat.le_refl _) (by have h1 := HBS.out; have h2 := HW.out.size; omega)))
       clear hr hg
       refine hK.out _ _ (by exact HKS.out _ HW.out) (fun hHeld => ?_)
       clear hK K
       (try simp only [pq])
       refine tkO 6 (some 42) (h := fun K hK => ?_)
       refine bs_wp 26 28 _ rfl (trC xk xn xt (.slice xa xl xq) (.slice xd xm xe)) 5 (.agg (trC 0 0 ⟨#[]⟩ (.slice none 0 0) (.slice none 0 0))) rfl rfl (by decide) (by decide) Tryz.underlying26 trl_info ?_
       intro wl hl hbl hzl
       obtain ⟨lx, hlx⟩ : ∃ lx, lx = w4.heap.size := ⟨_, rfl⟩
       rw [← hlx] at hl ⊢
       have HLX := Lib.hid hl
       replace HKR := Lib.hid (HKR.out.later hbl)
       replace HTR4 := Lib.hid (HTR4.out.later hbl)
       replace HW := Lib.hid (HW.out.trans (hbl.mono (by have h1 := HBS.out; have h2 := HW.out.size; omega)))
       clear hl hbl hzl hlx
       refine hK.out _ _ (by exact HKS.out _ HW.out) (fun hHeld => ?_)
       clear hK K
       (try simp only [pq])
       refine tkU 7 (some 43) (h := fun K hK => ?_)
       refine rowsC_wp 26 28 _ _ rfl (by_ := 80) (z := .agg (trC 0 0 ⟨#[]⟩ (.slice none 0 0) (.slice none 0 0))) rfl HTR4.out rfl (cut_one5 HLX.out rfl) (one_tree rfl) (oneC fun c hc => by rw [List.mem_singleton.1 hc]; simp [Value.oneCell']) Tryz.underlying26 trl_info3 rfl (by decide) (by have := HPN.out; simp; omega) (by decide) ?_
       intro v7 w7 hr hg
       have HTR7 := Lib.hid hr
       replace HKR := Lib.hid (HKR.out.apart3 HTR4.out hg (by decide))
       replace HW := Lib.hid (HW.out.trans (HTR4.out.below' hg (Nat.le_refl _) (by have h1 := HBS.out; have h2 := HW.out.size; omega)))
       clear hr hg
       refine hK.out _ _ ?_
       clear hK K
       (try simp only [pq])
       refine tkU 8 (some 12) (h := fun K hK => ?_)
       go_simp
       refine hK.out _ _ ?_
       clear hK K
       (try simp only [pq])
       refine wpAnyT_done (by kernel_rfl) ?_ _
       clear hHeld
       exact REST w7 v4 lx v7 E ⟨HTR7.out, HKR.out, HW.out⟩
      ·refine bs_wp 26 28 _ rfl (trC xk xn xt (.slice xa xl xq) (.slice xd xm xe)) 5 (.agg (trC 0 0 ⟨#[]⟩ (.slice none 0 0) (.slice none 0 0))) rfl rfl (by decide) (by decide) Tryz.underlying26 trl_info ?_
       intro wl hl hbl hzl
       obtain ⟨lx, hlx⟩ : ∃ lx, lx = w0.heap.size := ⟨_, rfl⟩
       rw [← hlx] at hl ⊢
       have HLX := Lib.hid hl
       replace HKR := Lib.hid (HKR.out.later hbl)
       replace HER := Lib.hid (HER.out.later hbl)
       have HLE : Hid (lx ≠ E) := by have := HEL.out; show _ ≠ _; omega
       replace HW := Lib.hid (HW.out.trans (hbl.mono (by have h1 := HBS.out; have h2 := HW.out.size; omega)))
       clear hl hbl hzl hlx
       refine hK.out _ _ (by exact HKS.out _ HW.out) (fun hHeld => ?_)
       clear hK K
       (try simp only [pq])
       refine tkO 4 (some 40) (h := fun K hK => ?_)
       refine rowsC_wp 26 28 _ _ rfl (by_ := 80) (z := .agg (trC 0 0 ⟨#[]⟩ (.slice none 0 0) (.slice none 0 0))) rfl HER.out rfl (HCI.out _ HW.out) HC5.out (oneC HC1.out) Tryz.underlying26 trl_info3 rfl (by decide) (by have := HPN.out; simp; omega) (by decide) ?_
       intro v4 w4 hr hg
       have HTR4 := Lib.hid hr
       replace HLX := Lib.hid ((hg.block _ (Array.getElem?_eq_some_iff.1 HLX.out).1 (fun e => HLE.out (Option.some.inj e))).trans HLX.out)
       replace HKR := Lib.hid (HKR.out.apart3 HER.out hg (by decide))
       replace HW := Lib.hid (HW.out.trans (HER.out.below' hg (Nat.le_refl _) (by have h1 := HBS.out; have h2 := HW.out.size; omega)))
       clear hr hg
       refine hK.out _ _ (by exact HKS.out _ HW.out) (fun hHeld => ?_)
       clear hK K
       (try simp only [pq])
       refine tkU 7 (some 43) (h := fun K hK => ?_)
       refine rowsC_wp 26 28 _ _ rfl (by_ := 80) (z := .agg (trC 0 0 ⟨#[]⟩ (.slice none 0 0) (.slice none 0 0))) rfl HTR4.out rfl (cut_one5 HLX.out rfl) (one_tree rfl) (oneC fun c hc => by rw [List.mem_singleton.1 hc]; simp [Value.oneCell']) Tryz.underlying26 trl_info3 rfl (by decide) (by have := HPN.out; simp; omega) (by decide) ?_
       intro v7 w7 hr hg
       have HTR7 := Lib.hid hr
       replace HKR := Lib.hid (HKR.out.apart3 HTR4.out hg (by decide))
       replace HW := Lib.hid (HW.out.trans (HTR4.out.below' hg (Nat.le_refl _) (by have h1 := HBS.out; have h2 := HW.out.size; omega)))
       clear hr hg
       refine hK.out _ _ ?_
       clear hK K
       (try simp only [pq])
       refine tkU 8 (some 12) (h := fun K hK => ?_)
       go_simp
       refine hK.out _ _ ?_
       clear hK K
       (try simp only [pq])
       refine wpAnyT_done (by kernel_rfl) ?_ _
       clear hHeld
       exact REST w7 v4 lx v7 E ⟨HTR7.out, HKR.out, HW.out⟩
     ·refine bs_wp 26 28 _ rfl (trC xk xn xt (.slice xa xl xq) (.slice xd xm xe)) 5 (.agg (trC 0 0 ⟨#[]⟩ (.slice none 0 0) (.slice none 0 0))) rfl rfl (by decide) (by decide) Tryz.underlying26 trl_info ?_
      intro wl hl hbl hzl
      obtain ⟨lx, hlx⟩ : ∃ lx, lx = wg.heap.size := ⟨_, rfl⟩
      rw [← hlx] at hl ⊢
      have HLX := Lib.hid hl
      replace HKR := Lib.hid (HKR.out.later hbl)
      replace HW := Lib.hid (HW.out.trans (hbl.mono (by have h1 := HBS.out; have h2 := HW.out.size; omega)))
      clear hl hbl hzl hlx
      refine hK.out _ _ (by exact HKS.out _ HW.out) (fun hHeld => ?_)
      clear hK K
      (try simp only [pq])
      refine tkO 0 (some 36) (h := fun K hK => ?_)
      go_simp
      have hbz := Below.newly' wl (.cells #[] 28)
      have hz9 := heap_alloc_last wl (.cells #[] 28)
      have hw9 := HW.out.size
      obtain ⟨E, hE⟩ : ∃ E, E = wl.heap.size := ⟨_, rfl⟩
      obtain ⟨w0, hw0⟩ : ∃ w0, w0 = wl.alloc (.cells #[] 28) := ⟨_, rfl⟩
      rw [← hw0, ← hE] at hz9
      rw [← hw0] at hbz ⊢
      have HER : Hid (RowsW (w.heap.size + 1) 28 5 (.slice (some ⟨E, 0, none⟩) 0 0) [] w0) := rowsW_zero (by have := HBS.out; omega) (by have h1 := HBS.out; have h2 := hbz.size; omega) hz9
      replace HKR := Lib.hid (HKR.out.later hbz)
      have HLE : Hid (lx ≠ E) := by have h1 := (Array.getElem?_eq_some_iff.1 HLX.out).1; show _ ≠ _; omega
      replace HLX := Lib.hid (kW hbz HLX.out)
      replace HW := Lib.hid (HW.out.trans (hbz.mono (by have h1 := HBS.out; have h2 := HW.out.size; omega)))
      rw [← hE]
      clear hbz hz9 hw9 hw0 hE
      refine hK.out _ _ (by exact HKS.out _ HW.out) (fun hHeld => ?_)
      clear hK K
      (try simp only [pq])
      refine tkO 4 (some 40) (h := fun K hK => ?_)
      refine rowsC_wp 26 28 _ _ rfl (by_ := 80) (z := .agg (trC 0 0 ⟨#[]⟩ (.slice none 0 0) (.slice none 0 0))) rfl HER.out rfl (HCI.out _ HW.out) HC5.out (oneC HC1.out) Tryz.underlying26 trl_info3 rfl (by decide) (by have := HPN.out; simp; omega) (by decide) ?_
      intro v4 w4 hr hg
      have HTR4 := Lib.hid hr
      replace HLX := Lib.hid ((hg.block _ (Array.getElem?_eq_some_iff.1 HLX.out).1 (fun e => HLE.out (Option.some.inj e))).trans HLX.out)
      replace HKR := Lib.hid (HKR.out.apart3 HER.out hg (by decide))
      replace HW := Lib.hid (HW.out.trans (HER.out.below' hg (Nat.le_refl _) (by have h1 := HBS.out; have h2 := HW.out.size; omega)))
      clear hr hg
      refine hK.out _ _ (by exact HKS.out _ HW.out) (fun hHeld => ?_)
      clear hK K
      (try simp only [pq])
      refine tkU 7 (some 43) (h := fun K hK => ?_)
      refine rowsC_wp 26 28 _ _ rfl (by_ := 80) (z := .agg (trC 0 0 ⟨#[]⟩ (.slice none 0 0) (.slice none 0 0))) rfl HTR4.out rfl (cut_one5 HLX.out rfl) (one_tree rfl) (oneC fun c hc => by rw [List.mem_singleton.1 hc]; simp [Value.oneCell']) Tryz.underlying26 trl_info3 rfl (by decide) (by have := HPN.out; simp; omega) (by decide) ?_
      intro v7 w7 hr hg
      have HTR7 := Lib.hid hr
      replace HKR := Lib.hid (HKR.out.apart3 HTR4.out hg (by decide))
      replace HW := Lib.hid (HW.out.trans (HTR4.out.below' hg (Nat.le_refl _) (by have h1 := HBS.out; have h2 := HW.out.size; omega)))
      clear hr hg
      refine hK.out _ _ ?_
      clear hK K
      (try simp only [pq])
      refine tkU 8 (some 12) (h := fun K hK => ?_)
      go_simp
      refine hK.out _ _ ?_
      clear hK K
      (try simp only [pq])
      refine wpAnyT_done (by kernel_rfl) ?_ _
      clear hHeld
      exact REST w7 v4 lx v7 E ⟨HTR7.out, HKR.out, HW.out⟩
    rintro w5 v4 lx v7 E ⟨ht7, hk7, hb7⟩
    clear hsl2
    have hsl3 := HK3.out
    have hsl4 := HI3.out
    have hdr : Below w5.heap.size w5 w5.drew := drawn_below w5
    have HTR7 := Lib.hid (ht7.later hdr)
    clear HKR HW HWG
    have HKR := Lib.hid (hk7.later hdr)
    have HW := Lib.hid (hb7.trans (hdr.mono (by have h1 := HBS.out; have h2 := hb7.size; omega)))
    clear ht7 hk7 hb7 hdr
    go_upto_region 6 with fail
    refine wp_region_T (S := (fun V => True)) [] (by kernel_rfl) (by exact trivial) (fun hHeld => ?_)
    refine tkL 0 44 (h := ?_)
    refine tkL 1 45 (h := ?_)
    (try simp only [pq])
    refine tkL 2 46 (h := ?_)
    refine tkL 3 47 (h := ?_)
    (try simp only [pq])
    refine tkL 5 49 (h := ?_)
    refine tkL 6 50 (h := ?_)
    (try simp only [pq])
    refine tkL 7 51 (h := ?_)
    refine tkL 8 52 (h := ?_)
    (try simp only [pq])
    refine tkO 4 (some 48) (h := fun K hK => ?_)
    refine rowsC_wp 25 9 _ _ rfl (by_ := 16) (z := .string ⟨#[]⟩) rfl HKR.out rfl (HCK2.out _ HW.out) HP2.out one_strs2 Tryz.underlying25 str_info rfl (by decide) (by have := HPN.out; simp; omega) (by decide) ?_
    intro v8 w8 hr hg
    have HKR8 := Lib.hid hr
    replace HTR7 := Lib.hid (HTR7.out.apart3 HKR.out hg (by decide))
    replace HW := Lib.hid (HW.out.trans (HKR.out.below' hg (Nat.le_refl _) (by have h1 := HBS.out; have h2 := HW.out.size; omega)))
    clear hr hg
    refine hK.out _ _ (by exact trivial) (fun hHeld => ?_)
    clear hK K
    (try simp only [pq])
    refine tkO 9 (some 53) (h := fun K hK => ?_)
    refine rowsC_wp 26 28 _ _ rfl (by_ := 80) (z := .agg (trC 0 0 ⟨#[]⟩ (.slice none 0 0) (.slice none 0 0))) rfl HTR7.out rfl (HCI2.out _ HW.out) HC5b.out (oneC HC1b.out) Tryz.underlying26 trl_info3 rfl (by decide) (by have := HPN.out; simp; omega) (by decide) ?_
    intro v9 w9 hr hg
    have HTR9 := Lib.hid hr
    replace HKR8 := Lib.hid (HKR8.out.apart3 HTR7.out hg (by decide))
    replace HW := Lib.hid (HW.out.trans (HTR7.out.below' hg (Nat.le_refl _) (by have h1 := HBS.out; have h2 := HW.out.size; omega)))
    clear hr hg
    refine hK.out _ _ (by exact trivial) (fun hHeld => ?_)
    clear hK K
    (try simp only [pq])
    refine tkL 10 8 (h := ?_)
    refine tkL 11 9 (h := ?_)
    (try simp only [pq])
    refine wpAnyT_done (by kernel_rfl) ?_ _
    clear hHeld
    have HFK := HKR8
    have HFT := HTR9
    have HFB := HW
    clear HKR8 HTR9 HKR HTR7 HW hsl3 hsl4
    go_wp2_with fail
    go_ret2
    have hfin := HOUT.out _ _ _ HFK.out HFT.out HFB.out
    first
     | exact ⟨v8, v9, rfl, hfin⟩
     | exact ⟨v8, v9, _, rfl, rfl, hfin⟩
  ·have hlt' : ¬ (j : Int) < (N : Int) := by omega
   obtain rfl : p = j := by have := HPN.out.1; omega
   go_upto_region 4 with fail
   have HER0 : Hid (RowsW (w.heap.size + 1) 9 1 (.slice (some ⟨wr.heap.size, 0, none⟩) 0 0) [] (wr.alloc (.cells #[] 9))) := rowsW_zero (by have h1 := HBS.out; have h2 := HW.out.size; omega) (by have h1 := HBS.out; have h2 := HW.out.size; simp; omega) (heap_alloc_last _ _)
   have hb0 := HW.out.trans ((Below.newly' wr (.cells #[] 9)).mono (by have h1 := HBS.out; have h2 := HW.out.size; omega))
   have hk2 := HK2.out
   have HCK1 := Lib.hid (HCK.out _ hb0)
   go_upto_region 5 with (first
    | (refine wpList_plain rfl fun _ hK => rowsC_wp 25 9 _ _ rfl (by_ := 16) (z := .string ⟨#[]⟩) rfl HER0.out rfl HCK1.out HP1.out one_strs2 Tryz.underlying25 str_info rfl (by decide) (by have := HPN.out; simp; omega) (by decide) ?_; intro v1 w2 hr hg; refine hK _ _ ?_; have HKR1 := Lib.hid hr; have HW2 := Lib.hid (hb0.trans (HER0.out.below' hg (Nat.le_refl _) (by have h1 := HBS.out; have h2 := HW.out.size; simp; omega))); clear hr hg hK)
    | (refine wpList_plain rfl fun _ hK => rowsC_wp 25 9 _ _ rfl (by_ := 16) (z := .string ⟨#[]⟩) rfl (HKR1.out.later (Below.newly' w2 (.cells #[.string k] 9))) rfl (cut_one1 (heap_alloc_last w2 (.cells #[.string k] 9))) one_str one_str2 Tryz.underlying25 str_info rfl (by decide) (by have := HPN.out; simp; omega) (by decide) ?_; intro v2 w3 hr hg; refine hK _ _ ?_; have HKR := Lib.hid hr; have HW3 : Hid (Below (w.heap.size + 1) w1 w3) := (HW2.out.trans ((Below.newly' w2 (.cells #[.string k] 9)).mono (by have h1 := HBS.out; have h2 := HW2.out.size; omega))).trans ((HKR1.out.later (Below.newly' w2 (.cells #[.string k] 9))).below' hg (Nat.le_refl _) (by have h1 := HBS.out; have h2 := HW2.out.size; simp; omega)); clear hr hg hK))
   clear hk2 hb0
   replace HW := HW3
   clear HW3 HW2 HKR1 HCK1 HER0
   obtain ⟨wg, hwg⟩ : ∃ wg, wg = w3.drew := ⟨_, rfl⟩
   have hdr : Below w3.heap.size w3 wg := by rw [hwg]; exact drawn_below w3
   replace HKR := Lib.hid (HKR.out.later hdr)
   replace HW := Lib.hid (HW.out.trans (hdr.mono (by have h1 := HBS.out; have h2 := HW.out.size; omega)))
   have HWG := Lib.hid hwg
   clear hdr hwg
   have hsl2 := HI2.out
   apply tail5p (Q := fun (W : World) (v4 : Value) (lx : Nat) (v7 : Value) (_ : Nat) => RowsW (w.heap.size + 1) 28 5 v7 (([] ++ css.take p) ++ [(trC xk xn xt (.slice xa xl xq) (.slice xd xm xe))]) W ∧ RowsW (w.heap.size + 1) 9 1 v2 (([] ++ (K.take p).map fun y => (#[.string y] : Array Value)) ++ [#[.string k]]) W ∧ Below (w.heap.size + 1) w1 W)
   case main =>
    intro REST
    refine wp_region_T (S := (fun V => V.heap[w.heap.size]? = some (.cells (trC xk xn xt (.slice xa xl xq) (.slice xd xm xe)) 28 (0, 0)))) [7, 8] (by kernel_rfl) (by rw [← HWG.out]; exact HKS.out _ HW.out) (fun hHeld => ?_)
    rw [← HWG.out] at hHeld ⊢
    refine tkL 1 37 (h := ?_)
    refine tkL 2 38 (h := ?_)
    (try simp only [pq])
    refine tkL 3 39 (h := ?_)
    refine tyL 5 41 (hy := yieldsIf_load_row (by rfl) 28 _ rfl w.heap.size rfl (trC xk xn xt (.slice xa xl xq) (.slice xd xm xe)) 28 (0, 0) _ (fun w hw => hw) Tryz.underlying28 rfl (by exact tr_size)) (h := ?_)
    (try simp only [pq])
    refine wpAnyT_ready (rs := [0, 6]) (by kernel_rfl) (by simp) (AllT.cons (o := ⟨some 36, _, _, _, _, _⟩) rfl (fun K hK => ?_) (AllT.cons (o := ⟨some 42, _, _, _, _, _⟩) rfl (fun K hK => ?_) AllT.nil))
    ·go_simp
     have hbz := Below.newly' wg (.cells #[] 28)
     have hz9 := heap_alloc_last wg (.cells #[] 28)
     have hw9 := HW.out.size
     obtain ⟨E, hE⟩ : ∃ E, E = wg.heap.size := ⟨_, rfl⟩
     obtain ⟨w0, hw0⟩ : ∃ w0, w0 = wg.alloc (.cells #[] 28) := ⟨_, rfl⟩
     rw [← hw0, ← hE] at hz9
     rw [← hw0] at hbz ⊢
     have HER : Hid (RowsW (w.heap.size + 1) 28 5 (.slice (some ⟨E, 0, none⟩) 0 0) [] w0) := rowsW_zero (by have := HBS.out; omega) (by have h1 := HBS.out; have h2 := hbz.size; omega) hz9
     replace HKR := Lib.hid (HKR.out.later hbz)
     have HEL : Hid (E < w0.heap.size) := (Array.getElem?_eq_some_iff.1 hz9).1
     replace HW := Lib.hid (HW.out.trans (hbz.mono (by have h1 := HBS.out; have h2 := HW.out.size; omega)))
     rw [← hE]
     clear hbz hz9 hw9 hw0 hE
     refine hK.out _ _ (by exact HKS.out _ HW.out) (fun hHeld => ?_)
     clear hK K
     (try simp only [pq])
     refine wpAnyT_ready (rs := [4, 6]) (by kernel_rfl) (by simp) (AllT.cons (o := ⟨some 40, _, _, _, _, _⟩) rfl (fun K hK => ?_) (AllT.cons (o := ⟨some 42, _, _, _, _, _⟩) rfl (fun K hK => ?_) AllT.nil))
     ·refine rowsC_wp 26 28 _ _ rfl (by_ := 80) (z := .agg (trC 0 0 ⟨#[]⟩ (.slice none 0 0) (.slice none 0 0))) rfl HER.out rfl (HCI.out _ HW.out) HC5.out (oneC HC1.out) Tryz.underlying26 trl_info3 rfl (by decide) (by have := HPN.out; simp; omega) (by decide) ?_
      intro v4 w4 hr hg
      have HTR4 := Lib.hid hr
      replace HKR := Lib.hid (HKR.out.apart3 HER.out hg (by decide))
      replace HW := Lib.hid (HW.out.trans (HER.out.below' hg (Nat.le_refl _) (by have h1 := HBS.out; have h2 := HW.out.size; omega)))
      clear hr hg
      refine hK.out _ _ (by exact HKS.out _ HW.out) (fun hHeld => ?_)
      clear hK K
      (try simp only [pq])
      refine tkO 6 (some 42) (h := fun K hK => ?_)
      refine bs_wp 26 28 _ rfl (trC xk xn xt (.slice xa xl xq) (.slice xd xm xe)) 5 (.agg (trC 0 0 ⟨#[]⟩ (.slice none 0 0) (.slice none 0 0))) rfl rfl (by decide) (by decide) Tryz.underlying26 trl_info ?_
      intro wl hl hbl hzl
      obtain ⟨lx, hlx⟩ : ∃ lx, lx = w4.heap.size := ⟨_, rfl⟩
      rw [← hlx] at hl ⊢
      have HLX := Lib.hid hl
      replace HKR := Lib.hid (HKR.out.later hbl)
      replace HTR4 := Lib.hid (HTR4.out.later hbl)
      replace HW := Lib.hid (HW.out.trans (hbl.mono (by have h1 := HBS.out; have h2 := HW.out.size; omega)))
      clear hl hbl hzl hlx
      refine hK.out _ _ (by exact HKS.out _ HW.out) (fun hHeld => ?_)
      clear hK K
      (try simp only [pq])
      refine tkU 7 (some 43) (h := fun K hK => ?_)
      refine rowsC_wp 26 28 _ _ rfl (by_ := 80) (z := .agg (trC 0 0 ⟨#[]⟩ (.slice none 0 0) (.slice none 0 0))) rfl HTR4.out rfl (cut_one5 HLX.out rfl) (one_tree rfl) (oneC fun c hc => by rw [List.mem_singleton.1 hc]; simp [Value.oneCell']) Tryz.underlying26 trl_info3 rfl (by decide) (by have := HPN.out; simp; omega) (by decide) ?_
      intro v7 w7 hr hg
      have HTR7 := Lib.hid hr
      replace HKR := Lib.hid (HKR.out.apart3 HTR4.out hg (by decide))
      replace HW := Lib.hid (HW.out.trans (HTR4.out.below' hg (Nat.le_refl _) (by have h1 := HBS.out; have h2 := HW.out.size; omega)))
      clear hr hg
      refine hK.out _ _ ?_
      clear hK K
      (try simp only [pq])
      refine tkU 8 (some 12) (h := fun K hK => ?_)
      go_simp
      refine hK.out _ _ ?_
      clear hK K
      (try simp only [pq])
      refine wpAnyT_done (by kernel_rfl) ?_ _
      clear hHeld
      exact REST w7 v4 lx v7 E ⟨HTR7.out, HKR.out, HW.out⟩
     ·refine bs_wp 26 28 _ rfl (trC xk xn xt (.slice xa xl xq) (.slice xd xm xe)) 5 (.agg (trC 0 0 ⟨#[]⟩ (.slice none 0 0) (.slice none 0 0))) rfl rfl (by decide) (by decide) Tryz.underlying26 trl_info ?_
      intro wl hl hbl hzl
      obtain ⟨lx, hlx⟩ : ∃ lx, lx = w0.heap.size := ⟨_, rfl⟩
      rw [← hlx] at hl ⊢
      have HLX := Lib.hid hl
      replace HKR := Lib.hid (HKR.out.later hbl)
      replace HER := Lib.hid (HER.out.later hbl)
      have HLE : Hid (lx ≠ E) := by have := HEL.out; show _ ≠ _; omega
      replace HW := Lib.hid (HW.out.trans (hbl.mono (by have h1 := HBS.out; have h2 := HW.out.size; omega)))
      clear hl hbl hzl hlx
      refine hK.out _ _ (by exact HKS.out _ HW.out) (fun hHeld => ?_)
      clear hK K
      (try simp only [pq])
      refine tkO 4 (some 40) (h := fun K hK => ?_)
      refine rowsC_wp 26 28 _ _ rfl (by_ := 80) (z := .agg (trC 0 0 ⟨#[]⟩ (.slice none 0 0) (.slice none 0 0))) rfl HER.out rfl (HCI.out _ HW.out) HC5.out (oneC HC1.out) Tryz.underlying26 trl_info3 rfl (by decide) (by have := HPN.out; simp; omega) (by decide) ?_
      intro v4 w4 hr hg
      have HTR4 := Lib.hid hr
      replace HLX := Lib.hid ((hg.block _ (Array.getElem?_eq_some_iff.1 HLX.out).1 (fun e => HLE.out (Option.some.inj e))).trans HLX.out)
      replace HKR := Lib.hid (HKR.out.apart3 HER.out hg (by decide))
      replace HW := Lib.hid (HW.out.trans (HER.out.below' hg (Nat.le_refl _) (by have h1 := HBS.out; have h2 := HW.out.size; omega)))
      clear hr hg
      refine hK.out _ _ (by exact HKS.out _ HW.out) (fun hHeld => ?_)
      clear hK K
      (try simp only [pq])
      refine tkU 7 (some 43) (h := fun K hK => ?_)
      refine rowsC_wp 26 28 _ _ rfl (by_ := 80) (z := .agg (trC 0 0 ⟨#[]⟩ (.slice none 0 0) (.slice none 0 0))) rfl HTR4.out rfl (cut_one5 HLX.out rfl) (one_tree rfl) (oneC fun c hc => by rw [List.mem_singleton.1 hc]; simp [Value.oneCell']) Tryz.underlying26 trl_info3 rfl (by decide) (by have := HPN.out; simp; omega) (by decide) ?_
      intro v7 w7 hr hg
      have HTR7 := Lib.hid hr
      replace HKR := Lib.hid (HKR.out.apart3 HTR4.out hg (by decide))
      replace HW := Lib.hid (HW.out.trans (HTR4.out.below' hg (Nat.le_refl _) (by have h1 := HBS.out; have h2 := HW.out.size; omega)))
      clear hr hg
      refine hK.out _ _ ?_
      clear hK K
      (try simp only [pq])
      refine tkU 8 (some 12) (h := fun K hK => ?_)
      go_simp
      refine hK.out _ _ ?_
      clear hK K
      (try simp only [pq])
      refine wpAnyT_done (by kernel_rfl) ?_ _
      clear hHeld
      exact REST w7 v4 lx v7 E ⟨HTR7.out, HKR.out, HW.out⟩
    ·refine bs_wp 26 28 _ rfl (trC xk xn xt (.slice xa xl xq) (.slice xd xm xe)) 5 (.agg (trC 0 0 ⟨#[]⟩ (.slice none 0 0) (.slice none 0 0))) rfl rfl (by decide) (by decide) Tryz.underlying26 trl_info ?_
     intro wl hl hbl hzl
     obtain ⟨lx, hlx⟩ : ∃ lx, lx = wg.heap.size := ⟨_, rfl⟩
     rw [← hlx] at hl ⊢
     have HLX := Lib.hid hl
     replace HKR := Lib.hid (HKR.out.later hbl)
     replace HW := Lib.hid (HW.out.trans (hbl.mono (by have h1 := HBS.out; have h2 := HW.out.size; omega)))
     clear hl hbl hzl hlx
     refine hK.out _ _ (by exact HKS.out _ HW.out) (fun hHeld => ?_)
     clear hK K
     (try simp only [pq])
     refine tkO 0 (some 36) (h := fun K hK => ?_)
     go_simp
     have hbz := Below.newly' wl (.cells #[] 28)
     have hz9 := heap_alloc_last wl (.cells #[] 28)
     have hw9 := HW.out.size
     obtain ⟨E, hE⟩ : ∃ E, E = wl.heap.size := ⟨_, rfl⟩
     obtain ⟨w0, hw0⟩ : ∃ w0, w0 = wl.alloc (.cells #[] 28) := ⟨_, rfl⟩
     rw [← hw0, ← hE] at hz9
     rw [← hw0] at hbz ⊢
     have HER : Hid (RowsW (w.heap.size + 1) 28 5 (.slice (some ⟨E, 0, none⟩) 0 0) [] w0) := rowsW_zero (by have := HBS.out; omega) (by have h1 := HBS.out; have h2 := hbz.size; omega) hz9
     replace HKR := Lib.hid (HKR.out.later hbz)
     have HLE : Hid (lx ≠ E) := by have h1 := (Array.getElem?_eq_some_iff.1 HLX.out).1; show _ ≠ _; omega
     replace HLX := Lib.hid (kW hbz HLX.out)
     replace HW := Lib.hid (HW.out.trans (hbz.mono (by have h1 := HBS.out; have h2 := HW.out.size; omega)))
     rw [← hE]
     clear hbz hz9 hw9 hw0 hE
     refine hK.out _ _ (by exact HKS.out _ HW.out) (fun hHeld => ?_)
     clear hK K
     (try simp only [pq])
     refine tkO 4 (some 40) (h := fun K hK => ?_)
     refine rowsC_wp 26 28 _ _ rfl (by_ := 80) (z := .agg (trC 0 0 ⟨#[]⟩ (.slice none 0 0) (.slice none 0 0))) rfl HER.out rfl (HCI.out _ HW.out) HC5.out (oneC HC1.out) Tryz.underlying26 trl_info3 rfl (by decide) (by have := HPN.out; simp; omega) (by decide) ?_
     intro v4 w4 hr hg
     have HTR4 := Lib.hid hr
     replace HLX := Lib.hid ((hg.block _ (Array.getElem?_eq_some_iff.1 HLX.out).1 (fun e => HLE.out (Option.some.inj e))).trans HLX.out)
     replace HKR := Lib.hid (HKR.out.apart3 HER.out hg (by decide))
     replace HW := Lib.hid (HW.out.trans (HER.out.below' hg (Nat.le_refl _) (by have h1 := HBS.out; have h2 := HW.out.size; omega)))
     clear hr hg
     refine hK.out _ _ (by exact HKS.out _ HW.out) (fun hHeld => ?_)
     clear hK K
     (try simp only [pq])
     refine tkU 7 (some 43) (h := fun K hK => ?_)
     refine rowsC_wp 26 28 _ _ rfl (by_ := 80) (z := .agg (trC 0 0 ⟨#[]⟩ (.slice none 0 0) (.slice none 0 0))) rfl HTR4.out rfl (cut_one5 HLX.out rfl) (one_tree rfl) (oneC fun c hc => by rw [List.mem_singleton.1 hc]; simp [Value.oneCell']) Tryz.underlying26 trl_info3 rfl (by decide) (by have := HPN.out; simp; omega) (by decide) ?_
     intro v7 w7 hr hg
     have HTR7 := Lib.hid hr
     replace HKR := Lib.hid (HKR.out.apart3 HTR4.out hg (by decide))
     replace HW := Lib.hid (HW.out.trans (HTR4.out.below' hg (Nat.le_refl _) (by have h1 := HBS.out; have h2 := HW.out.size; omega)))
     clear hr hg
     refine hK.out _ _ ?_
     clear hK K
     (try simp only [pq])
     refine tkU 8 (some 12) (h := fun K hK => ?_)
     go_simp
     refine hK.out _ _ ?_
     clear hK K
     (try simp only [pq])
     refine wpAnyT_done (by kernel_rfl) ?_ _
     clear hHeld
     exact REST w7 v4 lx v7 E ⟨HTR7.out, HKR.out, HW.out⟩
   rintro w5 v4 lx v7 E ⟨ht7, hk7, hb7⟩
   clear hsl2
   have hsl3 := HK3.out
   have hsl4 := HI3.out
   have hdr : Below w5.heap.size w5 w5.drew := drawn_below w5
   have HTR7 := Lib.hid (ht7.later hdr)
   clear HKR HW HWG
   have HKR := Lib.hid (hk7.later hdr)
   have HW := Lib.hid (hb7.trans (hdr.mono (by have h1 := HBS.out; have h2 := hb7.size; omega)))
   clear ht7 hk7 hb7 hdr
   go_upto_region 6 with fail
   refine wp_region_T (S := (fun V => True)) [] (by kernel_rfl) (by exact trivial) (fun hHeld => ?_)
   refine tkL 0 44 (h := ?_)
   refine tkL 1 45 (h := ?_)
   (try simp only [pq])
   refine tkL 2 46 (h := ?_)
   refine tkL 3 47 (h := ?_)
   (try simp only [pq])
   refine tkL 5 49 (h := ?_)
   refine tkL 6 50 (h := ?_)
   (try simp only [pq])
   refine tkL 7 51 (h := ?_)
   refine tkL 8 52 (h := ?_)
   (try simp only [pq])
   refine tkO 4 (some 48) (h := fun K hK => ?_)
   refine rowsC_wp 25 9 _ _ rfl (by_ := 16) (z := .string ⟨#[]⟩) rfl HKR.out rfl (HCK2.out _ HW.out) HP2.out one_strs2 Tryz.underlying25 str_info rfl (by decide) (by have := HPN.out; simp; omega) (by decide) ?_
   intro v8 w8 hr hg
   have HKR8 := Lib.hid hr
   replace HTR7 := Lib.hid (HTR7.out.apart3 HKR.out hg (by decide))
   replace HW := Lib.hid (HW.out.trans (HKR.out.below' hg (Nat.le_refl _) (by have h1 := HBS.out; have h2 := HW.out.size; omega)))
   clear hr hg
   refine hK.out _ _ (by exact trivial) (fun hHeld => ?_)
   clear hK K
   (try simp only [pq])
   refine tkO 9 (some 53) (h := fun K hK => ?_)
   refine rowsC_wp 26 28 _ _ rfl (by_ := 80) (z := .agg (trC 0 0 ⟨#[]⟩ (.slice none 0 0) (.slice none 0 0))) rfl HTR7.out rfl (HCI2.out _ HW.out) HC5b.out (oneC HC1b.out) Tryz.underlying26 trl_info3 rfl (by decide) (by have := HPN.out; simp; omega) (by decide) ?_
   intro v9 w9 hr hg
   have HTR9 := Lib.hid hr
   replace HKR8 := Lib.hid (HKR8.out.apart3 HTR7.out hg (by decide))
   replace HW := Lib.hid (HW.out.trans (HTR7.out.below' hg (Nat.le_refl _) (by have h1 := HBS.out; have h2 := HW.out.size; omega)))
   clear hr hg
   refine hK.out _ _ (by exact trivial) (fun hHeld => ?_)
   clear hK K
   (try simp only [pq])
   refine tkL 10 8 (h := ?_)
   refine tkL 11 9 (h := ?_)
   (try simp only [pq])
   refine wpAnyT_done (by kernel_rfl) ?_ _
   clear hHeld
   have HFK := HKR8
   have HFT := HTR9
   have HFB := HW
   clear HKR8 HTR9 HKR HTR7 HW hsl3 hsl4
   go_wp2_with fail
   go_ret2
   have hfin := HOUT.out _ _ _ HFK.out HFT.out HFB.out
   first
    | exact ⟨v8, v9, rfl, hfin⟩
    | exact ⟨v8, v9, _, rfl, rfl, hfin⟩
end Go.Proofs.YtpodmgihlomglaaGreatDoor
