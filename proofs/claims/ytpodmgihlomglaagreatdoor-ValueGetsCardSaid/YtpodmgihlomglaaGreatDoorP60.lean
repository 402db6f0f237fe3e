import Derived.Test.YtpodmgihlomglaaGreatDoorP49
import Derived.Test.YtpodmgihlomglaaGreatDoorP50
namespace Go.Proofs.YtpodmgihlomglaaGreatDoor
open Go.RowKit
set_option maxRecDepth 1000000
set_option linter.unusedSimpArgs false
theorem at_key {a : Tr} (h : Good a) (h5 : a.k = 5) {i : Int} {t : ByteArray} {j : Nat} (hj : j < a.ks.length) (e : a.ks[j] = t) : atT a i t = some j := by
 unfold atT
 rw [if_neg (by omega), if_pos h5]
 rw [List.findIdx?_eq_some_iff_getElem]
 refine ⟨hj, by simpa using e, fun q hq => ?_⟩
 rcases (good_iff.1 h).2 with h | ⟨_, _, h | h | h⟩
 ·omega
 ·omega
 ·have := List.pairwise_iff_getElem.1 h.2.2 q j (by omega) hj hq
  simp only [decide_eq_true_eq]
  intro e2
  rw [e, e2] at this
  exact lt_irrefl_l _ this
 ·omega
theorem at_member {a : Tr} (h : Good a) (h6 : a.k = 6) {i : Int} {t : ByteArray} {j : Nat} (hj : j < a.xs.length) (e : keyT a.xs[j] = kb t) : atT a i t = some j := by
 unfold atT
 rw [if_neg (by omega), if_neg (by omega)]
 rw [List.findIdx?_eq_some_iff_getElem]
 refine ⟨hj, by simpa using e, fun q hq => ?_⟩
 rcases (good_iff.1 h).2 with h | ⟨_, _, h | h | h⟩
 ·omega
 ·omega
 ·omega
 ·have := List.pairwise_iff_getElem.1 h.2.2 q j (by omega) hj hq
  simp only [decide_eq_true_eq]
  intro e2
  rw [e, e2] at this
  exact lt_irrefl_l _ this
theorem get_step {a : Tr} (h : Good a) {j : Nat} (hj : j < (stepsT a).length) : getT a (stepsT a)[j].1 (stepsT a)[j].2.1 (stepsT a)[j].2.2 = (a.xs[j]'(by rw [← steps_len h]; exact hj), 0) := by
 have hx : j < a.xs.length := by rw [← steps_len h]; exact hj
 have hk : a.k ≤ 3 → False := fun hk => by
  rcases (good_iff.1 h).2 with h | ⟨_, _, h | h | h⟩
  ·rw [h.2.2.2.2.2] at hx; simp at hx
  all_goals omega
 have h46 : a.k = 4 ∨ a.k = 5 ∨ a.k = 6 := by
  rcases (good_iff.1 h).2 with h | ⟨_, _, h | h | h⟩
  ·exact (hk h.2.1).elim
  all_goals omega
 rcases h46 with h4 | h5 | h6
 ·have e : (stepsT a)[j] = (0, (j : Int), ⟨#[]⟩) := by simp [stepsT, h4]
  rw [e]
  show getT a 0 (j : Int) ⟨#[]⟩ = _
  have hf : fitT a.k 0 = 0 := by rw [h4]; decide
  unfold getT
  rw [hf, if_neg (by decide)]
  have : atT a (j : Int) ⟨#[]⟩ = some j := by unfold atT; rw [if_pos h4, if_pos (by omega)]; simp
  simp only [this]
  rw [List.getElem?_eq_getElem hx]
  rfl
 ·have hl : a.ks.length = a.xs.length := by
   rcases (good_iff.1 h).2 with h | ⟨_, _, h | h | h⟩
   ·omega
   ·omega
   ·exact h.2.1
   ·omega
  have e : (stepsT a)[j] = (1, 0, a.ks[j]'(by omega)) := by simp [stepsT, h5]
  rw [e]
  show getT a 1 0 (a.ks[j]'(by omega)) = _
  have hf : fitT a.k 1 = 0 := by rw [h5]; decide
  unfold getT
  rw [hf, if_neg (by decide)]
  simp only [at_key h h5 (i := 0) (j := j) (by omega) rfl]
  rw [List.getElem?_eq_getElem hx]
  rfl
 ·have e : (stepsT a)[j] = (2, 0, ⟨(keyT a.xs[j]).toArray⟩) := by simp [stepsT, h6]
  rw [e]
  show getT a 2 0 ⟨(keyT a.xs[j]).toArray⟩ = _
  have hf : fitT a.k 2 = 0 := by rw [h6]; decide
  unfold getT
  rw [hf, if_neg (by decide)]
  simp only [at_member h h6 (i := 0) (t := ⟨(keyT a.xs[j]).toArray⟩) hx (by simp [kb])]
  rw [List.getElem?_eq_getElem hx]
  rfl
theorem kB_data (a : Tr) : (kB a).data.toList = keyT a := by simp [kB]
theorem stp_at {S : Nat → Prop} {w : World} {v : Value} {l : List Stp} (h : CutAt S w 3 v ((l.map stpC).flatMap Array.toList) l.length) : ∃ a c b o, v = .slice a l.length c ∧ (0 < l.length → a = some ⟨b, o, none⟩) ∧ ∀ j (hj : j < l.length), w.rangeAt b (o + j * 3) (stpC l[j]).toList := by
 obtain ⟨a, c, rfl, h1, h2, h3⟩ := h
 rcases h3 with h3 | ⟨b, o, rfl, hS, hb, h3⟩
 ·have : l.length = 0 := by omega
  exact ⟨a, c, 0, 0, rfl, fun h => absurd h (by omega), fun j hj => absurd hj (by omega)⟩
 ·refine ⟨_, c, b, o, rfl, fun _ => rfl, fun j hj i u hu => ?_⟩
  have hi : i < 3 := by
   rcases Nat.lt_or_ge i 3 with h | h
   ·exact h
   ·rw [List.getElem?_eq_none (by simpa using h)] at hu; cases hu
  have := h3 (j * 3 + i) u (by
   rw [flat_get 3 (l.map stpC) j i (stpC l[j]) (fun c hc => by obtain ⟨e, _, rfl⟩ := List.mem_map.1 hc; rfl) (by simp [hj]) hi]
   simpa using hu)
  rw [Nat.add_assoc]
  exact this
def hitT (a : Tr) (i : Int) (u : ByteArray) (q : Nat) : Prop := if a.k = 4 then (q : Int) = i else if a.k = 5 then a.ks[q]? = some u else (a.xs[q]?).map kB = some u
def idxT (a : Tr) (i : Int) (u : ByteArray) : Int := (atT a i u).elim (-1) fun j => (j : Int)
section
variable {n i : Int} {t u : ByteArray} {ks : List ByteArray} {xs : List Tr} {q : Nat}
theorem hit4 : hitT (.nd 4 n t ks xs) i u q ↔ (q : Int) = i := Iff.rfl
theorem hit5 : hitT (.nd 5 n t ks xs) i u q ↔ ks[q]? = some u := Iff.rfl
theorem hit6 : hitT (.nd 6 n t ks xs) i u q ↔ (xs[q]?).map kB = some u := Iff.rfl
theorem kB_eq {x : Tr} : kB x = u ↔ keyT x = kb u := by
 constructor
 ·intro h
  rw [← h]
  exact (kB_data x).symm
 ·intro h
  have h1 := kB_data x
  rw [h] at h1
  exact ByteArray.ext (Array.toList_inj.1 h1)
theorem at_hit {k : Int} (h : k = 5 → ks.length = xs.length) {j : Nat} (hj : j < xs.length) (h1 : hitT (.nd k n t ks xs) i u j) (h2 : ∀ q, q < j → ¬ hitT (.nd k n t ks xs) i u q) : idxT (.nd k n t ks xs) i u = (j : Int) := by
 show Option.elim (if k = 4 then (if 0 ≤ i ∧ i < (xs.length : Int) then some i.toNat else none) else if k = 5 then ks.findIdx? (fun y => decide (y = u)) else xs.findIdx? (fun y => decide (keyT y = kb u))) (-1 : Int) (fun j => (j : Int)) = _
 replace h1 : if k = 4 then (j : Int) = i else if k = 5 then ks[j]? = some u else (xs[j]?).map kB = some u := h1
 replace h2 : ∀ q, q < j → ¬ (if k = 4 then (q : Int) = i else if k = 5 then ks[q]? = some u else (xs[q]?).map kB = some u) := h2
 by_cases c4 : k = 4
 ·rw [if_pos c4] at h1 ⊢
  rw [if_pos ⟨by omega, by omega⟩]
  show ((i.toNat : Nat) : Int) = _
  omega
 ·rw [if_neg c4] at h1 ⊢
  simp only [if_neg c4] at h2
  by_cases c5 : k = 5
  ·rw [if_pos c5] at h1 ⊢
   simp only [if_pos c5] at h2
   have hl := h c5
   have hj5 : j < ks.length := by omega
   have hf : ks.findIdx? (fun y => decide (y = u)) = some j := by
    refine List.findIdx?_eq_some_iff_getElem.2 ⟨hj5, ?_, fun q hq => ?_⟩
    ·rw [List.getElem?_eq_getElem hj5] at h1
     simpa using h1
    ·have h3 := h2 q hq
     rw [List.getElem?_eq_getElem (by omega)] at h3
     simpa using h3
   rw [hf]
   rfl
  ·rw [if_neg c5] at h1 ⊢
   simp only [if_neg c5] at h2
   have hf : xs.findIdx? (fun y => decide (keyT y = kb u)) = some j := by
    refine List.findIdx?_eq_some_iff_getElem.2 ⟨hj, ?_, fun q hq => ?_⟩
    ·rw [List.getElem?_eq_getElem hj, Option.map_some, Option.some.injEq, kB_eq] at h1
     simpa using h1
    ·have h3 := h2 q hq
     rw [List.getElem?_eq_getElem (by omega), Option.map_some, Option.some.injEq, kB_eq] at h3
     simpa using h3
   rw [hf]
   rfl
theorem at_miss {k : Int} (h : k = 5 → ks.length = xs.length) (h2 : ∀ q, q < xs.length → ¬ hitT (.nd k n t ks xs) i u q) : idxT (.nd k n t ks xs) i u = -1 := by
 show Option.elim (if k = 4 then (if 0 ≤ i ∧ i < (xs.length : Int) then some i.toNat else none) else if k = 5 then ks.findIdx? (fun y => decide (y = u)) else xs.findIdx? (fun y => decide (keyT y = kb u))) (-1 : Int) (fun j => (j : Int)) = _
 replace h2 : ∀ q, q < xs.length → ¬ (if k = 4 then (q : Int) = i else if k = 5 then ks[q]? = some u else (xs[q]?).map kB = some u) := h2
 by_cases c4 : k = 4
 ·simp only [if_pos c4] at h2
  have hn : ¬ (0 ≤ i ∧ i < (xs.length : Int)) := by
   rintro ⟨h3, h4⟩
   exact h2 i.toNat (by omega) (by omega)
  rw [if_pos c4, if_neg hn]
  rfl
 ·simp only [if_neg c4] at h2
  rw [if_neg c4]
  by_cases c5 : k = 5
  ·simp only [if_pos c5] at h2
   have hl := h c5
   have hf : ks.findIdx? (fun y => decide (y = u)) = none := List.findIdx?_eq_none_iff.2 fun x hx => by
    obtain ⟨q, hq, rfl⟩ := List.getElem_of_mem hx
    have h3 := h2 q (by omega)
    rw [List.getElem?_eq_getElem hq] at h3
    simpa using h3
   rw [if_pos c5, hf]
   rfl
  ·simp only [if_neg c5] at h2
   have hf : xs.findIdx? (fun y => decide (keyT y = kb u)) = none := List.findIdx?_eq_none_iff.2 fun x hx => by
    obtain ⟨q, hq, rfl⟩ := List.getElem_of_mem hx
    have h3 := h2 q hq
    rw [List.getElem?_eq_getElem hq, Option.map_some, Option.some.injEq, kB_eq] at h3
    simpa using h3
   rw [if_neg c5, hf]
   rfl
end
theorem trV_k {w : World} {a : Tr} {k n : Int} {t : ByteArray} {x y : Value} (h : TrV w a (.agg (trC k n t x y))) : a.k = k := by
 obtain ⟨k', n', t', ks, xs⟩ := a
 obtain ⟨kv, xv, e, _⟩ := h.open'
 simp only [Value.agg.injEq] at e
 have h1 := congrArg (fun c : Array Value => c[0]?) e
 simp [trC] at h1
 exact h1.symm
set_option maxHeartbeats 8000000 in
theorem rf_fits (w : World) (a : Tr) (v : Value) (s0 s1 : Int) (u : ByteArray) (hv : TrV w a v) : Calls Tryz.prog 53 #[v, .agg #[.int .i64 s0, .int .i64 s1, .string u]] w fun e w' => e = .returned (.int .i64 (fitT a.k s0)) ∧ Below w.heap.size w w' := by
 obtain ⟨k, an, att, aa, al, ac, ad, am, ae, rfl⟩ := tr_shape hv
 have hk : a.k = k := trV_k hv
 obtain ⟨w1, hw1⟩ : ∃ w1, (w.alloc (.cells (trC k an att (.slice aa al ac) (.slice ad am ae)) 28)).alloc (.cells #[.int .i64 s0, .int .i64 s1, .string u] 44) = w1 := ⟨_, rfl⟩
 obtain ⟨hb1, hx1, hy1, hs1⟩ := two_new hw1
 have cx0 : w1.cell? ⟨w.heap.size, 0, none⟩ = some (.int .i64 k) := cell_in hx1 rfl
 have cy0 : w1.cell? ⟨w.heap.size + 1, 0, none⟩ = some (.int .i64 s0) := cell_in hy1 rfl
 have HB1 := Lib.hid hb1
 obtain ⟨z, hz⟩ : ∃ z, z = fitT a.k s0 := ⟨_, rfl⟩
 rw [hk] at hz
 rw [hk, ← hz]
 unfold fitT at hz
 clear hb1 hx1 hy1 hs1 hv hk
 by_cases c0 : s0 = 0
 ·subst c0
  have hz1 : z = if k = 4 then 0 else 3 := hz
  by_cases d : k = 4
  ·rw [if_pos d] at hz1
   subst d
   have HZ := Lib.hid hz1
   clear hz hz1
   go_enter Tryz.func53, Tryz.ntmps53
   go_upto_region 1 with fail
   clear hw1
   go_wp2_with fail
   have hb := HB1.out
   go_ret
   exact ⟨by rw [HZ.out]; rfl, hb⟩
  ·rw [if_neg d] at hz1
   have e0 : (k == 4) = false := beq_eq_false_iff_ne.2 d
   have HZ := Lib.hid hz1
   clear hz hz1 d
   go_enter Tryz.func53, Tryz.ntmps53
   go_upto_region 1 with fail
   clear hw1
   go_wp2_with fail
   have hb := HB1.out
   go_ret
   exact ⟨by rw [HZ.out]; rfl, hb⟩
 rw [if_neg c0] at hz
 have f0 : (s0 == 0) = false := beq_eq_false_iff_ne.2 c0
 by_cases c1 : s0 = 1
 ·subst c1
  have hz1 : z = if k = 5 then 0 else 3 := hz
  by_cases d : k = 5
  ·rw [if_pos d] at hz1
   subst d
   have HZ := Lib.hid hz1
   clear hz hz1
   go_enter Tryz.func53, Tryz.ntmps53
   go_upto_region 1 with fail
   clear hw1
   go_wp2_with fail
   have hb := HB1.out
   go_ret
   exact ⟨by rw [HZ.out]; rfl, hb⟩
  ·rw [if_neg d] at hz1
   have e1 : (k == 5) = false := beq_eq_false_iff_ne.2 d
   have HZ := Lib.hid hz1
   clear hz hz1 d
   go_enter Tryz.func53, Tryz.ntmps53
   go_upto_region 1 with fail
   clear hw1
   go_wp2_with fail
   have hb := HB1.out
   go_ret
   exact ⟨by rw [HZ.out]; rfl, hb⟩
 rw [if_neg c1] at hz
 have f1 : (s0 == 1) = false := beq_eq_false_iff_ne.2 c1
 by_cases c2 : s0 = 2
 ·subst c2
  have hz1 : z = if k = 6 then 0 else 3 := hz
  by_cases d : k = 6
  ·rw [if_pos d] at hz1
   subst d
   have HZ := Lib.hid hz1
   clear hz hz1
   go_enter Tryz.func53, Tryz.ntmps53
   go_upto_region 1 with fail
   clear hw1
   go_wp2_with fail
   have hb := HB1.out
   go_ret
   exact ⟨by rw [HZ.out]; rfl, hb⟩
  ·rw [if_neg d] at hz1
   have e2 : (k == 6) = false := beq_eq_false_iff_ne.2 d
   have HZ := Lib.hid hz1
   clear hz hz1 d
   go_enter Tryz.func53, Tryz.ntmps53
   go_upto_region 1 with fail
   clear hw1
   go_wp2_with fail
   have hb := HB1.out
   go_ret
   exact ⟨by rw [HZ.out]; rfl, hb⟩
 rw [if_neg c2] at hz
 have f2 : (s0 == 2) = false := beq_eq_false_iff_ne.2 c2
 have HZ := Lib.hid hz
 clear hz c0 c1 c2
 go_enter Tryz.func53, Tryz.ntmps53
 go_upto_region 1 with fail
 clear hw1
 go_wp2_with fail
 have hb := HB1.out
 go_ret
 exact ⟨by rw [HZ.out]; rfl, hb⟩
set_option maxHeartbeats 8000000 in
theorem rf_At (w : World) (a : Tr) (v : Value) (s0 s1 : Int) (u : ByteArray) (hv : TrV w a v) (ha : ValB a) : Calls Tryz.prog 54 #[v, .agg #[.int .i64 s0, .int .i64 s1, .string u]] w fun e w' => e = .returned (.int .i64 (idxT a s1 u)) ∧ Below w.heap.size w w' := by
 have hkd := ha.kind
 have hleaf := ha.leaf
 have hmd := ha.1.1.mapD
 obtain ⟨k, n, t, ks, xs⟩ := a
 obtain ⟨kv, xv, rfl, ht, _, hn, ⟨kd, kcap, kb1, ko, rfl, k1, k2, k3⟩, ad, cap, bb, oo, rfl, h1, hmax, h2⟩ := hv.open'
 simp only [Tr.k, Tr.xs, Tr.ks] at hkd hleaf hmd
 obtain ⟨N, hN⟩ : ∃ N, N = xs.length := ⟨_, rfl⟩
 have hN4 : N ≤ 16383 := by rw [hN]; exact ha.len
 obtain ⟨lk, hlk⟩ : ∃ lk, lk = ks.length := ⟨_, rfl⟩
 rw [← hN] at h1 ⊢
 rw [← hlk] at k1 ⊢
 have HKL : Hid (k = 5 → ks.length = xs.length) := fun h => (hmd h).1
 have HLO := Lib.hid h1
 have HLC := Lib.hid h2
 have HVB := Lib.hid ha
 have HKC := Lib.hid (And.intro k1 k2)
 have HNL := Lib.hid (And.intro hN hlk)
 have HLF := Lib.hid hleaf
 have HKD := Lib.hid hkd
 obtain ⟨w1, hw1⟩ : ∃ w1, (w.alloc (.cells (trC k n t (.slice kd lk kcap) (.slice ad N cap)) 28)).alloc (.cells #[.int .i64 s0, .int .i64 s1, .string u] 44) = w1 := ⟨_, rfl⟩
 obtain ⟨hb1, hx1, hy1, hs1⟩ := two_new hw1
 have HXC : Hid (∀ W, Below w1.heap.size w1 W → ∀ (i : Nat) (u : Value), (trC k n t (.slice kd lk kcap) (.slice ad N cap))[i]? = some u → W.cell? ⟨w.heap.size, i, none⟩ = some u) := fun W hb i u hu => cell_in ((kW hb hx1)) hu
 have HYC : Hid (∀ W, Below w1.heap.size w1 W → ∀ (i : Nat) (v : Value), ((#[.int .i64 s0, .int .i64 s1, .string u] : Array Value))[i]? = some v → W.cell? ⟨w.heap.size + 1, i, none⟩ = some v) := fun W hb i u hu => cell_in ((kW hb hy1)) hu
 have HB1 := Lib.hid hb1
 have cx4 : w1.cell? ⟨w.heap.size, 4, none⟩ = some (.slice ad N cap) := cell_in hx1 rfl
 have HW0 : Hid (Below w1.heap.size w1 w1) := Below.refl _ _
 clear h1 h2 hmax k1 k2 k3 hleaf hkd hmd hN hlk hv ha hb1 hx1 hy1 hs1 ht hn
 go_enter Tryz.func54, Tryz.ntmps54
 go_upto_region 1 with fail
 clear hw1
 go_wp2_with fail
 clear cx4
 go_loopw [4, 5, 6, 10] (fun s a5 a6 i wl => ∃ j : Nat, j ≤ N ∧ i = .int .i64 (j : Int) ∧ s = .int .i64 0 ∧ (∃ c, c = a5) ∧ (∃ c, c = a6) ∧ Hid (∀ q, q < j → ¬ hitT (.nd k n t ks xs) s1 u q) ∧ Hid (Below w1.heap.size w1 wl)) (fun _ _ _ i _ => N - (intOf i).toNat)
 case atStart => exact ⟨0, Nat.zero_le _, rfl, rfl, ⟨_, rfl⟩, ⟨_, rfl⟩, (fun q h => absurd h (Nat.not_lt_zero q)), HW0.out⟩
 case round =>
  clear HW0
  obtain ⟨j, hj, rfl, rfl, _, _, HM, HW⟩ := hrel
  by_cases hlt : j < N
  ·have hlt' : (j : Int) < (N : Int) := by omega
   have i0 : (0 : Int) ≤ (j : Int) := by omega
   have hlx : j < xs.length := by rw [← HNL.out.1]; exact hlt
   have had : ad = some ⟨bb, oo, none⟩ := HLO.out (by omega)
   subst had
   obtain ⟨cs, c1, c2, c3⟩ := HLC.out j hlx
   have hmem := List.getElem_mem hlx
   obtain ⟨y, hy⟩ : ∃ y, y = xs[j] := ⟨_, rfl⟩
   have HYE := Lib.hid hy
   rw [← hy] at c3 hmem
   obtain ⟨k', n', t', pa, pl, pc, qa, ql, qc, rfl⟩ := c3.cells
   have hbw := tW HB1.out HW.out
   have HR := Lib.hid (show wr.rangeAt bb (oo + j * 5) (trC k' n' t' (.slice pa pl pc) (.slice qa ql qc)).toList from fun i v hv => (hbw.cell (World.block_lt_of_cell? w _ (c2 i v hv))).trans (c2 i v hv))
   have hyb := HVB.out.part hmem
   have HLX := Lib.hid hlx
   clear c1 c2 hmem hy
   go_upto_region 4 with (first
    | (refine ld_tr (by rfl) _ rfl bb (oo + j * 5) rfl (trC k' n' t' (.slice pa pl pc) (.slice qa ql qc)) HR.out rfl ?_)
    | (refine st_agg rfl 28 _ _ rfl wr.heap.size (trC k' n' t' (.slice pa pl pc) (.slice qa ql qc)) rfl rfl 28 (trC 0 0 ⟨#[]⟩ (.slice none 0 0) (.slice none 0 0)) (heap_alloc_last _ _) tr_size rfl (by simp [Value.oneCell']) ?_; intro w3 h3 k3))
   have hb3 : Below wr.heap.size wr w3 := (Below.newly' _ _).trans (k3.below (Nat.le_refl _))
   obtain ⟨X, hX⟩ : ∃ X, X = wr.heap.size := ⟨_, rfl⟩
   have HX3 := Lib.hid h3
   rw [← hX] at HX3 ⊢
   replace HW := Lib.hid (tW HW.out hb3)
   have hbw3 := tW hbw hb3
   have HCL : Hid (∀ W, Below w3.heap.size w3 W → Calls Tryz.prog 45 #[.agg (trC k' n' t' (.slice pa pl pc) (.slice qa ql qc))] W fun e w' => e = .returned (.string (kB y)) ∧ Below W.heap.size W w') := fun W hW => rf_Key y _ W (c3.later (tW hbw3 hW)) hyb
   clear h3 k3 hb3 hX HR hbw hbw3 c3 hyb
   rcases (show k ≤ 3 ∨ k = 4 ∨ k = 5 ∨ k = 6 by have := HKD.out; omega) with hk | hk | hk | hk
   ·have := (HLF.out hk).2
    rw [this] at hlx
    exact absurd hlx (Nat.not_lt_zero _)
   ·subst hk
    clear HYE hlx
    have cx0 : w3.cell? ⟨w.heap.size, 0, none⟩ = some (.int .i64 4) := HXC.out w3 HW.out 0 _ rfl
    have cy1 : w3.cell? ⟨w.heap.size + 1, 1, none⟩ = some (.int .i64 s1) := HYC.out w3 HW.out 1 _ rfl
    by_cases e : (j : Int) = s1
    ·have de : ((j : Int) == s1) = true := beq_iff_eq.2 e
     have HEE := Lib.hid e
     clear e
     have HRE : Hid (idxT (.nd 4 n t ks xs) s1 u = (j : Int)) := at_hit HKL.out HLX.out (hit4.2 HEE.out) HM.out
     clear HM HLX
     go_wp2_with fail
     have hb := tW HB1.out HW.out
     go_ret
     exact ⟨by rw [HRE.out]; rfl, hb⟩
    ·have de : ((j : Int) == s1) = false := beq_eq_false_iff_ne.2 e
     have HEE := Lib.hid e
     clear e
     have HM2 : Hid (∀ q, q < j + 1 → ¬ hitT (.nd 4 n t ks xs) s1 u q) := fun q hq => by
      rcases Nat.lt_or_ge q j with h | h
      ·exact HM.out q h
      ·obtain rfl : q = j := by omega
       exact fun h => HEE.out (hit4.1 h)
     clear HM HLX
     go_wp2_with fail
     go_roundw
     case rel => exact ⟨j + 1, by omega, by go_num, rfl, ⟨_, rfl⟩, ⟨_, rfl⟩, HM2.out, HW.out⟩
     case measure => simp [intOf]; omega
   ·subst hk
    clear HYE hlx
    have cx0 : w3.cell? ⟨w.heap.size, 0, none⟩ = some (.int .i64 5) := HXC.out w3 HW.out 0 _ rfl
    have hkl : ks.length = xs.length := HKL.out rfl
    have hjk : j < ks.length := by rw [hkl]; exact HLX.out
    obtain ⟨yk, hyk⟩ : ∃ yk, yk = ks[j] := ⟨_, rfl⟩
    have HYK : Hid (ks[j]? = some yk) := by show _ = _; rw [hyk]; exact List.getElem?_eq_getElem hjk
    have hlkN : N = lk := by rw [HNL.out.1, HNL.out.2]; exact hkl.symm
    have hks := HKC.out.2 j hjk
    rw [← hyk] at hks
    subst hlkN
    have hkdd : kd = some ⟨kb1, ko, none⟩ := HKC.out.1 (by omega)
    subst hkdd
    have cy2 : w3.cell? ⟨w.heap.size + 1, 2, none⟩ = some (.string u) := HYC.out w3 HW.out 2 _ rfl
    have cx3 : w3.cell? ⟨w.heap.size, 3, none⟩ = some (.slice (some ⟨kb1, ko, none⟩) N kcap) := HXC.out w3 HW.out 3 _ rfl
    have cxk : w3.cell? ⟨kb1, ko + j, none⟩ = some (.string yk) := ((tW HB1.out HW.out).cell (World.block_lt_of_cell? w _ hks)).trans hks
    clear hjk hkl hyk hks
    by_cases e : yk = u
    ·have qy : (yk.toList == u.toList) = true := by rw [e]; exact beq_self_eq_true _
     have HEE := Lib.hid e
     clear e
     have HRE : Hid (idxT (.nd 5 n t ks xs) s1 u = (j : Int)) := at_hit HKL.out HLX.out (hit5.2 (by rw [HYK.out, HEE.out])) HM.out
     clear HM HLX
     go_wp2_with (go_quiet (fail))
     go_ret
     exact ⟨by rw [HRE.out]; rfl, HB1.out.trans ((HW.out.trans ((Below.drewMany (Below.refl _ _) _).mono HW.out.size)).mono HB1.out.size)⟩
    ·have qy : (yk.toList == u.toList) = false := beq_eq_false_iff_ne.2 fun h => e (by rw [ByteArray.toList_eq, ByteArray.toList_eq] at h; exact ByteArray.ext (Array.toList_inj.1 h))
     have HEE := Lib.hid e
     clear e
     have HM2 : Hid (∀ q, q < j + 1 → ¬ hitT (.nd 5 n t ks xs) s1 u q) := fun q hq => by
      rcases Nat.lt_or_ge q j with h | h
      ·exact HM.out q h
      ·obtain rfl : q = j := by omega
       exact fun h => by have h2 := hit5.1 h; rw [HYK.out] at h2; exact HEE.out (Option.some.inj h2)
     clear HM HLX
     go_wp2_with (go_quiet (fail))
     go_roundw
     case rel => exact ⟨j + 1, by omega, by go_num, rfl, ⟨_, rfl⟩, ⟨_, rfl⟩, HM2.out, HW.out.trans ((Below.drewMany (Below.refl _ _) _).mono HW.out.size)⟩
     case measure => simp [intOf]; omega
   ·subst hk
    have cx0 : w3.cell? ⟨w.heap.size, 0, none⟩ = some (.int .i64 6) := HXC.out w3 HW.out 0 _ rfl
    have HKS : Hid (∀ V, Below w3.heap.size w3 V → V.heap[X]? = some (.cells (trC k' n' t' (.slice pa pl pc) (.slice qa ql qc)) 28 (0, 0)) ∧ V.cell? ⟨w.heap.size + 1, 2, none⟩ = some (.string u)) := fun V hV => ⟨(kW hV HX3.out), HYC.out V (tW HW.out hV) 2 _ rfl⟩
    obtain ⟨ky, hky⟩ : ∃ ky, ky = kB y := ⟨_, rfl⟩
    have HYK : Hid ((xs[j]?).map kB = some ky) := by show _ = _; rw [List.getElem?_eq_getElem HLX.out, Option.map_some, hky, HYE.out]
    rw [← hky] at HCL
    clear hky HYE
    by_cases e : ky = u
    ·have qy : (ky.toList == u.toList) = true := by rw [e]; exact beq_self_eq_true _
     have HEE := Lib.hid e
     clear e
     go_upto_region 5 with fail
     have HBW := HW
     clear HW
     have HW : Hid (Below w3.heap.size w3 w3.drew) := drawn_below w3
     refine wp_region_T (S := (fun V => V.heap[X]? = some (.cells (trC k' n' t' (.slice pa pl pc) (.slice qa ql qc)) 28 (0, 0)) ∧ V.cell? ⟨w.heap.size + 1, 2, none⟩ = some (.string u))) [] (by kernel_rfl) (by exact HKS.out _ HW.out) (fun hHeld => ?_)
     refine tyL 0 17 (hy := yieldsIf_load_row (by rfl) 28 _ rfl X rfl (trC k' n' t' (.slice pa pl pc) (.slice qa ql qc)) 28 (0, 0) _ (fun w hw => hw.1) Tryz.underlying28 rfl (by exact tr_size)) (h := ?_)
     refine tkL 2 19 (h := ?_)
     (try simp only [pq])
     refine tkL 3 20 (h := ?_)
     (try simp only [pq])
     refine tkO 1 (some 18) (h := fun K hK => ?_)
     go_simp
     go_at_call 45
     (with_reducible refine (HCL.out _ (by exact HW.out)).mono ?_)
     rintro r w4 ⟨rfl, hb⟩
     replace HW := Lib.hid (tW HW.out hb)
     clear hb
     dsimp only
     refine hK.out _ _ (by exact HKS.out _ HW.out) (fun hHeld => ?_)
     clear hK K
     (try simp only [pq])
     refine wpAnyT_takeL (i := 4) (oi := ⟨some 21, _, _, _, _, _⟩) (v := (.bool true)) rfl (by kernel_rfl) (by kernel_rfl) (by kernel_rfl) (by kernel_rfl) (fun _ _ _ h => h) (Or.inl ⟨by rfl, ?hg1_4⟩) (by assumption) ?rg1_4
     case hg1_4 => (intro w hSw; (try dsimp only at hSw); go_simp; first | done | rw [qy] | simp [qy])
     (try simp only [pq])
     refine wpAnyT_done (by kernel_rfl) ?_ _
     clear hHeld
     have HW5 := Lib.hid (tW HBW.out HW.out)
     clear HW HKS
     have HW := HW5
     clear HW5 HBW
     have HRE : Hid (idxT (.nd 6 n t ks xs) s1 u = (j : Int)) := at_hit HKL.out HLX.out (hit6.2 (by rw [HYK.out, HEE.out])) HM.out
     clear HM HLX
     go_wp2_with fail
     have hb := tW HB1.out HW.out
     go_ret
     exact ⟨by rw [HRE.out]; rfl, hb⟩
    ·have qy : (ky.toList == u.toList) = false := beq_eq_false_iff_ne.2 fun h => e (by rw [ByteArray.toList_eq, ByteArray.toList_eq] at h; exact ByteArray.ext (Array.toList_inj.1 h))
     have HEE := Lib.hid e
     clear e
     go_upto_region 5 with fail
     have HBW := HW
     clear HW
     have HW : Hid (Below w3.heap.size w3 w3.drew) := drawn_below w3
     refine wp_region_T (S := (fun V => V.heap[X]? = some (.cells (trC k' n' t' (.slice pa pl pc) (.slice qa ql qc)) 28 (0, 0)) ∧ V.cell? ⟨w.heap.size + 1, 2, none⟩ = some (.string u))) [] (by kernel_rfl) (by exact HKS.out _ HW.out) (fun hHeld => ?_)
     refine tyL 0 17 (hy := yieldsIf_load_row (by rfl) 28 _ rfl X rfl (trC k' n' t' (.slice pa pl pc) (.slice qa ql qc)) 28 (0, 0) _ (fun w hw => hw.1) Tryz.underlying28 rfl (by exact tr_size)) (h := ?_)
     refine tkL 2 19 (h := ?_)
     (try simp only [pq])
     refine tkL 3 20 (h := ?_)
     (try simp only [pq])
     refine tkO 1 (some 18) (h := fun K hK => ?_)
     go_simp
     go_at_call 45
     (with_reducible refine (HCL.out _ (by exact HW.out)).mono ?_)
     rintro r w4 ⟨rfl, hb⟩
     replace HW := Lib.hid (tW HW.out hb)
     clear hb
     dsimp only
     refine hK.out _ _ (by exact HKS.out _ HW.out) (fun hHeld => ?_)
     clear hK K
     (try simp only [pq])
     refine wpAnyT_takeL (i := 4) (oi := ⟨some 21, _, _, _, _, _⟩) (v := (.bool false)) rfl (by kernel_rfl) (by kernel_rfl) (by kernel_rfl) (by kernel_rfl) (fun _ _ _ h => h) (Or.inl ⟨by rfl, ?hg2_4⟩) (by assumption) ?rg2_4
     case hg2_4 => (intro w hSw; (try dsimp only at hSw); go_simp; first | done | rw [qy] | simp [qy])
     (try simp only [pq])
     refine wpAnyT_done (by kernel_rfl) ?_ _
     clear hHeld
     have HW5 := Lib.hid (tW HBW.out HW.out)
     clear HW HKS
     have HW := HW5
     clear HW5 HBW
     have HM2 : Hid (∀ q, q < j + 1 → ¬ hitT (.nd 6 n t ks xs) s1 u q) := fun q hq => by
      rcases Nat.lt_or_ge q j with h | h
      ·exact HM.out q h
      ·obtain rfl : q = j := by omega
       exact fun h => by have h2 := hit6.1 h; rw [HYK.out] at h2; exact HEE.out (Option.some.inj h2)
     clear HM HLX
     go_wp2_with fail
     go_roundw
     case rel => exact ⟨j + 1, by omega, by go_num, rfl, ⟨_, rfl⟩, ⟨_, rfl⟩, HM2.out, HW.out⟩
     case measure => simp [intOf]; omega
  ·obtain rfl : N = j := by omega
   have hlt' : ¬ (N : Int) < (N : Int) := by omega
   have HRE : Hid (idxT (.nd k n t ks xs) s1 u = -1) := at_miss HKL.out fun q hq => HM.out q (by rw [HNL.out.1]; exact hq)
   go_wp2_with fail
   have hb := tW HB1.out HW.out
   go_ret
   exact ⟨by rw [HRE.out]; rfl, hb⟩
set_option maxHeartbeats 8000000 in
theorem rf_Get (w : World) (a : Tr) (v : Value) (s0 s1 : Int) (u : ByteArray) (hv : TrV w a v) (ha : ValB a) : Calls Tryz.prog 22 #[v, .agg #[.int .i64 s0, .int .i64 s1, .string u]] w fun e w' => ∃ y, e = .returned (.tuple #[.agg y, .int .i64 (getT a s0 s1 u).2]) ∧ TrV w' (getT a s0 s1 u).1 (.agg y) ∧ Below w.heap.size w w' := by
 have hv0 := hv
 obtain ⟨k, n, t, ks, xs⟩ := a
 obtain ⟨kv, xv, rfl, ht, _, hn, ⟨kd, kcap, kb1, ko, rfl, k1, k2, k3⟩, ad, cap, bb, oo, rfl, h1, hmax, h2⟩ := hv.open'
 obtain ⟨N, hN⟩ : ∃ N, N = xs.length := ⟨_, rfl⟩
 have hN4 : N ≤ 16383 := by rw [hN]; exact ha.len
 obtain ⟨lk, hlk⟩ : ∃ lk, lk = ks.length := ⟨_, rfl⟩
 rw [← hN] at h1
 rw [← hN, ← hlk] at hv0 ⊢
 obtain ⟨w1, hw1⟩ : ∃ w1, ((w.alloc (.cells (trC k n t (.slice kd lk kcap) (.slice ad N cap)) 28)).alloc (.cells #[.int .i64 s0, .int .i64 s1, .string u] 44)).alloc (.cells (trC 0 0 ⟨#[]⟩ (.slice none 0 0) (.slice none 0 0)) 28) = w1 := ⟨_, rfl⟩
 obtain ⟨hb1, hx1, hy1, hz1, hs1⟩ := three_newV hw1
 obtain ⟨z, hz⟩ : ∃ z, z = fitT k s0 := ⟨_, rfl⟩
 obtain ⟨ix, hix⟩ : ∃ ix, ix = idxT (.nd k n t ks xs) s1 u := ⟨_, rfl⟩
 have HX := Lib.hid (fun W (hb : Below w1.heap.size w1 W) => (kW hb hx1))
 have HY := Lib.hid (fun W (hb : Below w1.heap.size w1 W) => (kW hb hy1))
 have HZ := Lib.hid (fun W (hb : Below w1.heap.size w1 W) => (kW hb hz1))
 have HFI : Hid (∀ W, Below w1.heap.size w1 W → Calls Tryz.prog 53 #[.agg (trC k n t (.slice kd lk kcap) (.slice ad N cap)), .agg #[.int .i64 s0, .int .i64 s1, .string u]] W fun e w' => e = .returned (.int .i64 z) ∧ Below W.heap.size W w') := fun W hb => by rw [hz]; exact rf_fits W (.nd k n t ks xs) _ s0 s1 u ((hv0.later hb1).later hb)
 have HAT : Hid (∀ W, Below w1.heap.size w1 W → Calls Tryz.prog 54 #[.agg (trC k n t (.slice kd lk kcap) (.slice ad N cap)), .agg #[.int .i64 s0, .int .i64 s1, .string u]] W fun e w' => e = .returned (.int .i64 ix) ∧ Below W.heap.size W w') := fun W hb => by rw [hix]; exact rf_At W (.nd k n t ks xs) _ s0 s1 u ((hv0.later hb1).later hb) ha
 obtain ⟨G, hG⟩ : ∃ G, G = getT (.nd k n t ks xs) s0 s1 u := ⟨_, rfl⟩
 rw [← hG]
 have hg1 : G = if z ≠ 0 then (nullT, z) else match atT (.nd k n t ks xs) s1 u with | none => (nullT, 5) | some j => ((xs[j]?).getD nullT, 0) := by rw [hG, hz]; rfl
 have HB1 := Lib.hid hb1
 have HW : Hid (Below w1.heap.size w1 w1) := Below.refl _ _
 have HLO := Lib.hid h1
 have HLC := Lib.hid h2
 have HNN := Lib.hid hN
 have HGD := Lib.hid ha.1.1
 clear h1 h2 hmax k1 k2 k3 hN hlk hv hv0 ha hb1 hx1 hy1 hz1 hs1 ht hn hz hG
 by_cases c1 : z = 0
 case neg =>
  rw [if_pos c1] at hg1
  subst hg1
  clear hix
  go_enter Tryz.func22, Tryz.ntmps22
  go_upto_region 1 with fail
  clear hw1
  go_wp2_with (first
   | (refine ld_if rfl 28 _ rfl w.heap.size rfl 28 _ _ _ (HX.out _ HW.out) Tryz.underlying28 rfl tr_size9 ?_)
   | (refine ld_if rfl 44 _ rfl (w.heap.size + 1) rfl 44 _ _ _ (HY.out _ HW.out) Tryz.underlying44 rfl step_size ?_)
   | (go_at_call 53; (with_reducible refine (HFI.out _ HW.out).mono ?_); rintro r V ⟨rfl, hb⟩; replace HW := Lib.hid (tW HW.out hb); clear hb)
   | (go_at_call 54; (with_reducible refine (HAT.out _ HW.out).mono ?_); rintro r V ⟨rfl, hb⟩; replace HW := Lib.hid (tW HW.out hb); clear hb)
   | (refine st_agg rfl 28 _ _ rfl (w.heap.size + 2) (trC 0 0 ⟨#[]⟩ (.slice none 0 0) (.slice none 0 0)) rfl rfl 28 (trC 0 0 ⟨#[]⟩ (.slice none 0 0) (.slice none 0 0)) (HZ.out _ HW.out) tr_size9 rfl (by simp [Value.oneCell']) ?_; intro w8 h8 k8))
  have hb8 := HB1.out.trans ((HW.out.mono HB1.out.size).trans (k8.below (by omega)))
  exact bodyPost_ret (results_cell_row1 rfl _ _ (w.heap.size + 2) 28 _ (0, 0) _ rfl h8 Tryz.underlying28 rfl tr_size9) rfl ⟨_, rfl, trV_leaf w8 (by decide) (by decide), hb8⟩
 rw [if_neg (fun h => h c1)] at hg1
 subst c1
 cases hat : atT (.nd k n t ks xs) s1 u with
 | none =>
  rw [hat] at hg1
  replace hg1 : G = (nullT, 5) := hg1
  subst hg1
  obtain rfl : ix = -1 := by rw [hix, idxT, hat]; rfl
  clear hix hat
  go_enter Tryz.func22, Tryz.ntmps22
  go_upto_region 1 with fail
  clear hw1
  go_wp2_with (first
   | (refine ld_if rfl 28 _ rfl w.heap.size rfl 28 _ _ _ (HX.out _ HW.out) Tryz.underlying28 rfl tr_size9 ?_)
   | (refine ld_if rfl 44 _ rfl (w.heap.size + 1) rfl 44 _ _ _ (HY.out _ HW.out) Tryz.underlying44 rfl step_size ?_)
   | (go_at_call 53; (with_reducible refine (HFI.out _ HW.out).mono ?_); rintro r V ⟨rfl, hb⟩; replace HW := Lib.hid (tW HW.out hb); clear hb)
   | (go_at_call 54; (with_reducible refine (HAT.out _ HW.out).mono ?_); rintro r V ⟨rfl, hb⟩; replace HW := Lib.hid (tW HW.out hb); clear hb)
   | (refine st_agg rfl 28 _ _ rfl (w.heap.size + 2) (trC 0 0 ⟨#[]⟩ (.slice none 0 0) (.slice none 0 0)) rfl rfl 28 (trC 0 0 ⟨#[]⟩ (.slice none 0 0) (.slice none 0 0)) (HZ.out _ HW.out) tr_size9 rfl (by simp [Value.oneCell']) ?_; intro w8 h8 k8))
  have hb8 := HB1.out.trans ((HW.out.mono HB1.out.size).trans (k8.below (by omega)))
  exact bodyPost_ret (results_cell_row1 rfl _ _ (w.heap.size + 2) 28 _ (0, 0) _ rfl h8 Tryz.underlying28 rfl tr_size9) rfl ⟨_, rfl, trV_leaf w8 (by decide) (by decide), hb8⟩
 | some j =>
  rw [hat] at hg1
  have hlx : j < xs.length := at_lt HGD.out hat
  have hgj : (xs[j]?).getD nullT = xs[j] := by rw [List.getElem?_eq_getElem hlx]; rfl
  replace hg1 : G = (xs[j], 0) := by rw [← hgj]; exact hg1
  obtain rfl : ix = (j : Int) := by rw [hix, idxT, hat]; rfl
  have hlt : j < N := by rw [HNN.out]; exact hlx
  have hlt' : (j : Int) < (N : Int) := by omega
  have i0 : (0 : Int) ≤ (j : Int) := by omega
  have i1 : ¬ (j : Int) < 0 := by omega
  have had : ad = some ⟨bb, oo, none⟩ := HLO.out (by omega)
  subst had
  obtain ⟨cs, c1, c2, c3⟩ := HLC.out j hlx
  obtain ⟨y, hy⟩ : ∃ y, y = xs[j] := ⟨_, rfl⟩
  rw [← hy] at c3 hg1
  subst hg1
  obtain ⟨k', n', t', pa, pl, pc, qa, ql, qc, rfl⟩ := c3.cells
  have HR : Hid (∀ W, Below w1.heap.size w1 W → W.rangeAt bb (oo + j * 5) (trC k' n' t' (.slice pa pl pc) (.slice qa ql qc)).toList) := fun W hb i v hv => ((tW HB1.out hb).cell (World.block_lt_of_cell? w _ (c2 i v hv))).trans (c2 i v hv)
  have HC3 := Lib.hid c3
  have HX4 : Hid (∀ W, Below w1.heap.size w1 W → W.cell? ⟨w.heap.size, 4, none⟩ = some (.slice (some ⟨bb, oo, none⟩) N cap)) := fun W hb => cell_in (HX.out W hb) rfl
  clear hix hat hgj hy c1 c2 c3 hlx hlt
  go_enter Tryz.func22, Tryz.ntmps22
  go_upto_region 1 with fail
  clear hw1
  go_upto_region 7 with (first
   | (refine ld_if rfl 28 _ rfl w.heap.size rfl 28 _ _ _ (HX.out _ HW.out) Tryz.underlying28 rfl tr_size9 ?_)
   | (refine ld_if rfl 44 _ rfl (w.heap.size + 1) rfl 44 _ _ _ (HY.out _ HW.out) Tryz.underlying44 rfl step_size ?_)
   | (go_at_call 53; (with_reducible refine (HFI.out _ HW.out).mono ?_); rintro r V ⟨rfl, hb⟩; replace HW := Lib.hid (tW HW.out hb); clear hb)
   | (go_at_call 54; (with_reducible refine (HAT.out _ HW.out).mono ?_); rintro r V ⟨rfl, hb⟩; replace HW := Lib.hid (tW HW.out hb); clear hb))
  have cx4 := HX4.out _ HW.out
  have hr := HR.out _ HW.out
  go_wp2_with (first
   | (refine ld_tr (by rfl) _ rfl bb (oo + j * 5) rfl (trC k' n' t' (.slice pa pl pc) (.slice qa ql qc)) hr rfl ?_)
   | (refine st_agg rfl 28 _ _ rfl (w.heap.size + 2) (trC k' n' t' (.slice pa pl pc) (.slice qa ql qc)) rfl rfl 28 (trC 0 0 ⟨#[]⟩ (.slice none 0 0) (.slice none 0 0)) (HZ.out _ HW.out) tr_size9 rfl (by simp [Value.oneCell']) ?_; intro w8 h8 k8))
  have hb8 := HB1.out.trans ((HW.out.mono HB1.out.size).trans (k8.below (by omega)))
  exact bodyPost_ret (results_cell_row1 rfl _ _ (w.heap.size + 2) 28 _ (0, 0) _ rfl h8 Tryz.underlying28 rfl tr_size9) rfl ⟨_, rfl, HC3.out.later hb8, hb8⟩
end Go.Proofs.YtpodmgihlomglaaGreatDoor
