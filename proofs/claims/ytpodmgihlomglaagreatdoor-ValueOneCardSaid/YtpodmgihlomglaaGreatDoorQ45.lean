import Derived.Test.YtpodmgihlomglaaGreatDoorQ33
import Derived.Test.YtpodmgihlomglaaGreatDoorQ43
namespace Go.Proofs.YtpodmgihlomglaaGreatDoor
open Go.RowKit
set_option linter.unusedSimpArgs false
section
variable {β : Type} (f : β → List UInt8)
variable {f}
theorem srt_ext {l m : List β} (h : (l.map f).Nodup) (hp : l.Perm m) : srtB f l = srtB f m :=
 rise_uniq (srt_rise h) (srt_rise ((hp.map f).nodup_iff.1 h)) (((srt_perm l).trans hp).trans (srt_perm m).symm)
end
end Go.Proofs.YtpodmgihlomglaaGreatDoor
namespace Go.Proofs.YtpodmgihlomglaaGreatDoor
open Go.RowKit
set_option linter.unusedSimpArgs false
set_option maxRecDepth 1000000
def turnI (n by' : Nat) : List Nat := (List.range n).map fun i => (n - 1 - i + by') % n
def pickB {β : Type} (I : List Nat) (l : List β) : List β := I.filterMap fun i => l[i]?
theorem turnI_perm (n c : Nat) : (turnI n c).Perm (List.range n) := by
 unfold turnI
 rw [List.perm_ext_iff_of_nodup]
 ·intro j
  rw [List.mem_range, List.mem_map]
  constructor
  ·rintro ⟨i, hi, rfl⟩
   have := List.mem_range.1 hi
   exact Nat.mod_lt _ (by omega)
  ·intro hj
   refine ⟨(2 * n - 1 + c - j) % n, List.mem_range.2 (Nat.mod_lt _ (by omega)), ?_⟩
   have h1 := Nat.div_add_mod (2 * n - 1 + c - j) n
   have h2 := Nat.mod_lt (2 * n - 1 + c - j) (show 0 < n by omega)
   obtain ⟨q, hq⟩ : ∃ q, q = (2 * n - 1 + c - j) / n := ⟨_, rfl⟩
   obtain ⟨i, hi⟩ : ∃ i, i = (2 * n - 1 + c - j) % n := ⟨_, rfl⟩
   rw [← hq, ← hi] at h1
   rw [← hi] at h2 ⊢
   cases q with
   | zero => exfalso; rw [Nat.mul_zero] at h1; omega
   | succ q =>
    rw [Nat.mul_succ] at h1
    have e : n - 1 - i + c = j + n * q := by omega
    rw [e, Nat.add_mul_mod_self_left, Nat.mod_eq_of_lt hj]
 ·unfold List.Nodup
  rw [List.pairwise_map]
  refine List.Pairwise.imp_of_mem (fun {a b} ha hb (hab : a ≠ b) e => ?_) (List.nodup_range (n := n))
  have ha' := List.mem_range.1 ha
  have hb' := List.mem_range.1 hb
  have h1 := Nat.div_add_mod (n - 1 - a + c) n
  have h2 := Nat.div_add_mod (n - 1 - b + c) n
  rw [e] at h1
  rcases Nat.lt_trichotomy ((n - 1 - a + c) / n) ((n - 1 - b + c) / n) with h | h | h
  ·have := Nat.mul_le_mul_left n h
   rw [Nat.mul_succ] at this
   omega
  ·rw [h] at h1; omega
  ·have := Nat.mul_le_mul_left n h
   rw [Nat.mul_succ] at this
   omega
 ·exact List.nodup_range
theorem pick_range {β : Type} (l : List β) : pickB (List.range l.length) l = l := by
 unfold pickB
 induction l with
 | nil => rfl
 | cons x l ih =>
  rw [List.length_cons, List.range_succ_eq_map, List.filterMap_cons, List.filterMap_map]
  simp only [List.getElem?_cons_zero]
  congr 1
theorem pick_perm {β : Type} (c : Nat) (l : List β) : (pickB (turnI l.length c) l).Perm l := by
 have h := (turnI_perm l.length c).filterMap fun i => l[i]?
 have h2 := pick_range l
 unfold pickB at h2 ⊢
 rw [h2] at h
 exact h
theorem pick_zip {α β : Type} {l : List α} {m : List β} (h : l.length = m.length) : ∀ I : List Nat, (pickB I l).zip (pickB I m) = pickB I (l.zip m)
 | [] => rfl
 | i :: I => by
  have ih := pick_zip h I
  unfold pickB at ih ⊢
  rw [List.filterMap_cons, List.filterMap_cons, List.filterMap_cons]
  by_cases hi : i < l.length
  ·rw [List.getElem?_eq_getElem hi, List.getElem?_eq_getElem (show i < m.length by omega), List.getElem?_eq_getElem (show i < (l.zip m).length by rw [List.length_zip]; omega)]
   simp only [List.zip_cons_cons, List.getElem_zip, ih]
  ·rw [List.getElem?_eq_none (by omega), List.getElem?_eq_none (show m.length ≤ i by omega), List.getElem?_eq_none (show (l.zip m).length ≤ i by rw [List.length_zip]; omega)]
   exact ih
theorem pick_map {α β : Type} (f : α → β) (I : List Nat) (l : List α) : pickB I (l.map f) = (pickB I l).map f := by
 unfold pickB
 rw [List.map_filterMap]
 congr 1
 funext i
 rw [List.getElem?_map]
theorem pick_len {β : Type} (c : Nat) (l : List β) : (pickB (turnI l.length c) l).length = l.length := (pick_perm c l).length_eq
mutual
def trnT (c : Nat) : Tr → Tr
 | .nd k n t ks xs => .nd k n t (if k = 5 then pickB (turnI xs.length c) ks else []) (if k = 4 then trnL c xs else pickB (turnI xs.length c) (trnL c xs))
def trnL (c : Nat) : List Tr → List Tr
 | [] => []
 | x :: r => trnT c x :: trnL c r
end
theorem trnL_map (c : Nat) (l : List Tr) : trnL c l = l.map (trnT c) := by
 induction l with
 | nil => rw [trnL]; rfl
 | cons x l ih => rw [trnL, ih]; rfl
theorem can_trn (c : Nat) (a : Tr) : OkT a → canT (trnT c a) = canT a ∧ OkT (trnT c a) := by
 induction a using tr_ind with
 | h k n t ks xs ih =>
  intro ho
  have ho1 := okT_iff.1 ho
  simp only [Tr.k, Tr.n, Tr.t, Tr.ks, Tr.xs] at ho1
  have h0 := own_ok.1 ho1.1
  simp only [Tr.k, Tr.n, Tr.t, Tr.ks, Tr.xs] at h0
  have hlt : (trnL c xs).length = xs.length := by rw [trnL_map, List.length_map]
  have hc : canL (trnL c xs) = canL xs := by
   rw [canL_map, canL_map, trnL_map, List.map_map]
   exact List.map_congr_left fun x hx => (ih x hx (ho1.2.1 x hx)).1
  have hk : ∀ x ∈ trnL c xs, OkT x := by
   intro x hx
   rw [trnL_map] at hx
   obtain ⟨y, hy, rfl⟩ := List.mem_map.1 hx
   exact (ih y hy (ho1.2.1 y hy)).2
  have hcp : ∀ I, canL (pickB I (trnL c xs)) = pickB I (canL xs) := by
   intro I
   rw [canL_map, ← pick_map, ← canL_map, hc]
  have hlc : (canL xs).length = xs.length := by rw [canL_map, List.length_map]
  rw [okT_iff, trnT]
  by_cases h4 : k = 4
  ·subst h4
   rw [if_neg (by decide), if_pos rfl]
   rcases h0 with ⟨_, h, _⟩ | ⟨rfl, rfl, ⟨_, rfl⟩ | h | h⟩
   ·omega
   ·refine ⟨?_, own_ok.2 (.inr ⟨rfl, rfl, .inl ⟨rfl, rfl⟩⟩), hk, fun h => ?_⟩
    ·rw [canT, canT, if_neg (by decide), if_neg (by decide), if_neg (by decide), if_neg (by decide), hc]
    ·exact absurd (show (4 : Int) = 6 from h) (by decide)
   ·omega
   ·omega
  ·rw [if_neg h4]
   have hpm : (pickB (turnI xs.length c) (trnL c xs)).Perm (trnL c xs) := by
    have := pick_perm c (trnL c xs)
    rwa [hlt] at this
   have hkp : ∀ x ∈ pickB (turnI xs.length c) (trnL c xs), OkT x := fun x hx => hk x (hpm.mem_iff.1 hx)
   have hcm : (pickB (turnI xs.length c) (canL xs)).Perm (canL xs) := by
    have := pick_perm c (canL xs)
    rwa [hlc] at this
   rcases h0 with ⟨h1, h2, h3, rfl, rfl⟩ | ⟨rfl, rfl, ⟨h, _⟩ | ⟨rfl, h5, h6⟩ | ⟨rfl, rfl⟩⟩
   ·rw [if_neg (by omega)]
    have e : pickB (turnI ([] : List Tr).length c) (trnL c []) = [] := by rw [trnL]; rfl
    rw [e]
    exact ⟨rfl, own_ok.2 (.inl ⟨h1, h2, h3, rfl, rfl⟩), fun x hx => absurd hx List.not_mem_nil, fun h => absurd (show k = 6 from h) (by omega)⟩
   ·exact absurd h h4
   ·rw [if_pos rfl]
    have hn := pairs_nodup (l := canL xs) (by omega) h6
    have hz : ((pickB (turnI xs.length c) ks).zip (pickB (turnI xs.length c) (canL xs))).Perm (ks.zip (canL xs)) := by
     rw [pick_zip (by omega)]
     have := pick_perm c (ks.zip (canL xs))
     rwa [List.length_zip, show min ks.length (canL xs).length = xs.length by omega] at this
    have hkm : (pickB (turnI xs.length c) ks).Perm ks := by
     have := pick_perm c ks
     rwa [h5] at this
    refine ⟨?_, own_ok.2 (.inr ⟨rfl, rfl, .inr (.inl ⟨rfl, ?_, ?_⟩)⟩), hkp, fun h => absurd (show (5 : Int) = 6 from h) (by decide)⟩
    ·rw [canT, canT, if_pos rfl, if_pos rfl, hcp, srt_ext ((hz.map kbF).nodup_iff.2 hn) hz]
    ·show (pickB (turnI xs.length c) ks).length = (pickB (turnI xs.length c) (trnL c xs)).length
     rw [hkm.length_eq, hpm.length_eq, hlt, h5]
    ·exact hkm.nodup_iff.2 h6
   ·rw [if_neg (by decide)]
    have hn : ((canL xs).map keyT).Nodup := by
     rw [canL_map]
     exact ho1.2.2 rfl
    refine ⟨?_, own_ok.2 (.inr ⟨rfl, rfl, .inr (.inr ⟨rfl, rfl⟩)⟩), hkp, fun _ => ?_⟩
    ·rw [canT, canT, if_neg (by decide), if_pos rfl, if_neg (by decide), if_pos rfl, hcp, srt_ext ((hcm.map keyT).nodup_iff.2 hn) hcm]
    ·show (((pickB (turnI xs.length c) (trnL c xs)).map canT).map keyT).Nodup
     rw [← canL_map, hcp]
     exact (hcm.map keyT).nodup_iff.2 hn
theorem trn_size (c : Nat) (a : Tr) (h : OkT a) : nodT (trnT c a) = nodT a ∧ depT (trnT c a) = depT a := by
 obtain ⟨h1, h2⟩ := can_trn c a h
 have h3 := can_size _ h2
 have h4 := can_size _ h
 rw [h1] at h3
 exact ⟨h3.1.symm.trans h4.1, h3.2.symm.trans h4.2⟩
theorem chk_trn (c : Nat) {a : Tr} (h : chkT a = 0) : chkT (trnT c a) = 0 := by
 rw [chkT_ok] at h ⊢
 have := trn_size c a h.1
 rw [this.1, this.2]
 exact ⟨(can_trn c a h.1).2, h.2⟩
theorem pick_bind {β : Type} {l : List β} : ∀ {I : List Nat} (_ : ∀ i ∈ I, i < l.length) (j : Nat), (pickB I l)[j]? = (I[j]?).bind fun i => l[i]?
 | [], _, j => by simp [pickB]
 | i :: I, h, 0 => by
  have hi := h i (List.mem_cons_self ..)
  simp [pickB, List.getElem?_eq_getElem hi]
 | i :: I, h, j + 1 => by
  have hi := h i (List.mem_cons_self ..)
  have ih := pick_bind (l := l) (fun k hk => h k (List.mem_cons_of_mem _ hk)) j
  simp only [pickB, List.filterMap_cons, List.getElem?_eq_getElem hi, List.getElem?_cons_succ] at ih ⊢
  exact ih
theorem pick_at {β : Type} {l : List β} {n c j : Nat} (hl : l.length = n) (hj : j < n) : (pickB (turnI n c) l)[j]? = l[(n - 1 - j + c) % n]? := by
 rw [pick_bind (fun i hi => by
  unfold turnI at hi
  obtain ⟨k, _, rfl⟩ := List.mem_map.1 hi
  rw [hl]
  exact Nat.mod_lt _ (by omega))]
 unfold turnI
 rw [List.getElem?_map, List.getElem?_range hj]
 rfl
def turnQ (k : Int) (N c j : Nat) : Nat := if k = 4 then j else (N - 1 - j + c) % N
theorem turnQ_lt {k : Int} {N c j : Nat} (hj : j < N) : turnQ k N c j < N := by
 unfold turnQ
 split
 ·exact hj
 ·exact Nat.mod_lt _ (by omega)
theorem turn_xs {k n : Int} {t : ByteArray} {ks : List ByteArray} {xs : List Tr} {c j : Nat} (hj : j < xs.length) : (trnT c (.nd k n t ks xs)).xs[j]? = (xs[turnQ k xs.length c j]?).map (trnT c) := by
 rw [trnT]
 show (if k = 4 then trnL c xs else pickB (turnI xs.length c) (trnL c xs))[j]? = _
 unfold turnQ
 by_cases h4 : k = 4
 ·rw [if_pos h4, if_pos h4, trnL_map, List.getElem?_map]
 ·rw [if_neg h4, if_neg h4, pick_at (by rw [trnL_map, List.length_map]) hj, trnL_map, List.getElem?_map]
theorem turn_ks {n : Int} {t : ByteArray} {ks : List ByteArray} {xs : List Tr} {c j : Nat} (hl : ks.length = xs.length) (hj : j < xs.length) : (trnT c (.nd 5 n t ks xs)).ks[j]? = ks[turnQ 5 xs.length c j]? := by
 rw [trnT]
 show (if (5 : Int) = 5 then pickB (turnI xs.length c) ks else [])[j]? = _
 unfold turnQ
 rw [if_pos rfl, if_neg (by decide), pick_at hl hj]
theorem turn_len {k n : Int} {t : ByteArray} {ks : List ByteArray} {xs : List Tr} {c : Nat} : (trnT c (.nd k n t ks xs)).xs.length = xs.length := by
 rw [trnT]
 simp only [Tr.xs]
 have h1 : (trnL c xs).length = xs.length := by rw [trnL_map, List.length_map]
 split
 ·exact h1
 ·have h2 := pick_len c (trnL c xs)
  rw [h1] at h2
  exact h2
theorem take_next {β : Type} {l : List β} {j : Nat} {y : β} (h : l[j]? = some y) : l.take (j + 1) = l.take j ++ [y] := by
 obtain ⟨hj, rfl⟩ := List.getElem?_eq_some_iff.1 h
 exact List.take_succ_eq_append_getElem hj
set_option maxHeartbeats 8000000 in
theorem lw_turned (c : Nat) (hc1 : c ≤ 1000) (a : Tr) : ∀ (v : Value) (w : World), TrV w a v → OkT a → nodT a ≤ 400 → Calls Tryz.prog 27 #[v, .int .i64 (c : Int)] w fun e w' => ∃ cs, e = .returned (.agg cs) ∧ cs.size = 5 ∧ TrS (fun g => w.heap.size ≤ g) w' (trnT c a) (.agg cs) ∧ Below w.heap.size w w' := by
 induction a using tr_ind with
 | h k n t ks xs ih =>
  intro v w hv ho hnd
  obtain ⟨kv, xv, rfl, ht, hk, hn, ⟨kd, kcap, kb1, ko, rfl, k1, k2, k3⟩, ad, cap, bb, oo, rfl, h1, hmax, h2⟩ := hv.open'
  have hn1 : nodL xs ≤ 399 := by rw [nodT] at hnd; omega
  obtain ⟨N, hN⟩ : ∃ N, N = xs.length := ⟨_, rfl⟩
  have hN4 : N ≤ 399 := by rw [hN]; exact Nat.le_trans (len_nodL xs) hn1
  have hok := okT_iff.1 ho
  simp only [Tr.k, Tr.xs] at hok
  have hown := own_ok.1 hok.1
  simp only [Tr.k, Tr.n, Tr.t, Tr.ks, Tr.xs] at hown
  obtain ⟨KS, hKS⟩ : ∃ KS, KS = (trnT c (.nd k n t ks xs)).ks := ⟨_, rfl⟩
  obtain ⟨YS, hYS⟩ : ∃ YS, YS = (trnT c (.nd k n t ks xs)).xs := ⟨_, rfl⟩
  have hYL : YS.length = N := by rw [hYS, turn_len, hN]
  have hkl : k = 5 → ks.length = xs.length := fun h5 => by
   rcases hown with ⟨_, h, _⟩ | ⟨_, _, ⟨h, _⟩ | ⟨_, h, _⟩ | ⟨h, _⟩⟩
   ·omega
   ·omega
   ·exact h
   ·omega
  have hKL : KS.length ≤ N := by
   rw [hKS, trnT]
   simp only [Tr.ks]
   split
   ·rename_i h5
    rw [hN, ← hkl h5]
    exact Nat.le_of_eq (pick_len c ks)
   ·exact Nat.zero_le _
  have hK0 : k ≠ 5 → KS = [] := fun h5 => by rw [hKS, trnT]; simp only [Tr.ks, h5, if_false]
  rw [← hN] at h1 ⊢
  obtain ⟨lk, hlk⟩ : ∃ lk, lk = ks.length := ⟨_, rfl⟩
  rw [← hlk] at k1 ⊢
  obtain ⟨w1, hw1⟩ : ∃ w1, (w.alloc (.cells (trC k n t (.slice kd lk kcap) (.slice ad N cap)) 28)).alloc (.cells (trC 0 0 ⟨#[]⟩ (.slice none 0 0) (.slice none 0 0)) 28) = w1 := ⟨_, rfl⟩
  obtain ⟨hb1, hx1, hr1, hs1⟩ := two_new hw1
  have cx0 : w1.cell? ⟨w.heap.size, 0, none⟩ = some (.int .i64 k) := cell_in hx1 rfl
  have cx1 : w1.cell? ⟨w.heap.size, 1, none⟩ = some (.int .i64 n) := cell_in hx1 rfl
  have cx2 : w1.cell? ⟨w.heap.size, 2, none⟩ = some (.string t) := cell_in hx1 rfl
  have HX1 := Lib.hid hx1
  have HR1 := Lib.hid hr1
  have HB1 := Lib.hid hb1
  have HS1 := Lib.hid hs1
  have HIH := Lib.hid ih
  have HKO := Lib.hid (And.intro k1 k2)
  have HLO := Lib.hid (And.intro h1 h2)
  have HOK := Lib.hid (And.intro hok.2.1 (And.intro hn1 hN))
  have HKSP := Lib.hid (And.intro hKS (And.intro hKL (And.intro hK0 (And.intro hkl hlk))))
  have HYS := Lib.hid (And.intro hYS hYL)
  have HRNG := Lib.hid (And.intro ht (And.intro hk hn))
  clear hx1 hr1 hb1 hs1 ih k1 k2 h1 h2 hok hown hn1 hN hv ho hnd hKS hYS hYL hKL hK0 hkl hlk ht hk hn k3 hmax
  go_enter Tryz.func27, Tryz.ntmps27
  go_upto_region 1 with fail
  clear hw1
  go_upto_region 2 with (first
   | (refine st_agg rfl 28 _ _ rfl w1.heap.size (trC k n t (.slice none 0 0) (.slice none 0 0)) rfl rfl 28 (trC 0 0 ⟨#[]⟩ (.slice none 0 0) (.slice none 0 0)) (heap_alloc_last _ _) tr5_size rfl (by simp [Value.oneCell']) ?_; intro w2 h2 k2))
  clear cx0 cx1 cx2
  have hb2 : Below w1.heap.size w1 w2 := (Below.newly' _ _).trans (k2.below (Nat.le_refl _))
  obtain ⟨X, hX⟩ : ∃ X, X = w1.heap.size := ⟨_, rfl⟩
  have HXS : Hid (X = w.heap.size + 2) := by show _ = _; rw [hX]; exact HS1.out
  have HX2 := Lib.hid (((hb2.block _ (Array.getElem?_eq_some_iff.1 HX1.out).1).trans HX1.out))
  have HR2 := Lib.hid (((hb2.block _ (Array.getElem?_eq_some_iff.1 HR1.out).1).trans HR1.out))
  have HB2 := Lib.hid (HB1.out.trans (hb2.mono HB1.out.size))
  rw [← hX] at h2 ⊢
  have ht0 : TreeIn X X k n t [] (.slice none 0 0) (.slice none 0 0) (.slice none 0 0) [] [] w2 := ⟨Nat.le_refl _, h2, ⟨World.ownsRowF_nil _ _ _ _, Nat.le_of_lt (Array.getElem?_eq_some_iff.1 h2).1, fun _ h => by cases h⟩, RowsW.nil (Nat.le_of_lt (Array.getElem?_eq_some_iff.1 h2).1), by simp [Value.ownBlock], by rw [TrSL]; rfl⟩
  have HT0 := Lib.hid ht0
  have cx4 : w2.cell? ⟨w.heap.size, 4, none⟩ = some (.slice ad N cap) := cell_in HX2.out rfl
  clear ht0 h2 k2 hb2 hX HX1 HR1 HB1 HS1
  go_wp2_with fail
  clear cx4
  go_loopw [7, 8, 20] (fun x7 x8 i wl => ∃ j : Nat, j ≤ N ∧ i = .int .i64 (j : Int) ∧ (∃ c', c' = x7) ∧ (∃ c', c' = x8) ∧ Hid (∃ kv xv css, TreeIn X X k n t (KS.take j) xv kv xv css (YS.take j) wl ∧ css.length = j) ∧ Hid (Below X w2 wl)) (fun _ _ i _ => N - (intOf i).toNat)
  case atStart => exact ⟨0, Nat.zero_le _, rfl, ⟨_, rfl⟩, ⟨_, rfl⟩, ⟨_, _, [], HT0.out, rfl⟩, Below.refl _ _⟩
  case round =>
   obtain ⟨j, hj, rfl, _, _, HI, HBL⟩ := hrel
   clear HT0
   have HXL : Hid (w.heap.size < X) := by show _ < _; rw [HXS.out]; omega
   have HXR := Lib.hid ((HBL.out.block _ HXL.out).trans HX2.out)
   by_cases hlt : j < N
   ·have hlt' : (j : Int) < (N : Int) := by omega
    have i0 : (0 : Int) ≤ (j : Int) := by omega
    obtain ⟨kv, xv, css, hti, hcl⟩ := HI.out
    obtain ⟨ax, cx, rfl⟩ := hti.items.own.shape'
    rw [hcl] at hti
    obtain ⟨q, hq⟩ : ∃ q, q = turnQ k N c j := ⟨_, rfl⟩
    have hqN : q < N := by rw [hq]; exact turnQ_lt hlt
    have hlx : j < xs.length := by rw [← HOK.out.2.2]; exact hlt
    have hqx : q < xs.length := by rw [← HOK.out.2.2]; exact hqN
    have hys : YS.take (j + 1) = YS.take j ++ [trnT c xs[q]] := take_next (by rw [HYS.out.1, turn_xs hlx, ← HOK.out.2.2, ← hq, List.getElem?_eq_getElem hqx]; rfl)
    have had : ad = some ⟨bb, oo, none⟩ := HLO.out.1 (by omega)
    subst had
    obtain ⟨cs, q1, q2, q3⟩ := HLO.out.2 q hqx
    have hmem := List.getElem_mem hqx
    have hnq : nodT xs[q] ≤ 400 := by have := nodL_mem hmem; have := HOK.out.2.1; omega
    obtain ⟨k2, n2, t2, qa, ql, qc, ra, rl, rc, rfl⟩ := q3.cells
    have hbw : Below w.heap.size w wr := HB2.out.trans (HBL.out.mono (Nat.le_of_lt HXL.out))
    have HCL : Hid (∀ V, Below wr.heap.size wr V → Calls Tryz.prog 27 #[.agg (trC k2 n2 t2 (.slice qa ql qc) (.slice ra rl rc)), .int .i64 (c : Int)] V fun e w' => ∃ cs, e = .returned (.agg cs) ∧ cs.size = 5 ∧ TrS (fun g => V.heap.size ≤ g) w' (trnT c xs[q]) (.agg cs) ∧ Below V.heap.size V w') := fun V hV =>
     HIH.out xs[q] hmem _ V (q3.later (hbw.trans (hV.mono hbw.size))) (HOK.out.1 _ hmem) hnq
    have HKS1 : Hid (∀ V, Below wr.heap.size wr V → (V.cell? ⟨w.heap.size, 4, none⟩ = some (.slice (some ⟨bb, oo, none⟩) N cap) ∧ V.cell? ⟨X, 4, none⟩ = some (.slice ax j cx) ∧ V.rangeAt bb (oo + q * 5) (trC k2 n2 t2 (.slice qa ql qc) (.slice ra rl rc)).toList)) := fun V hV => ⟨cell_in (((hV.block _ (Array.getElem?_eq_some_iff.1 HXR.out).1)).trans HXR.out) rfl, cell_in ((hV.block _ (Array.getElem?_eq_some_iff.1 hti.box).1).trans hti.box) rfl, fun i u hu => ((hbw.trans (hV.mono hbw.size)).cell (World.block_lt_of_cell? w _ (q2 i u hu))).trans (q2 i u hu)⟩
    have HTI := Lib.hid hti
    have HJ := Lib.hid (And.intro hcl (And.intro hN4 (show (YS.take j).length = j by rw [List.length_take, HYS.out.2]; omega)))
    have HYT := Lib.hid hys
    obtain ⟨yt, hyt⟩ : ∃ yt, yt = trnT c xs[q] := ⟨_, rfl⟩
    rw [← hyt] at HCL HYT
    have HBW := Lib.hid hbw
    have HXL2 : Hid (w.heap.size < wr.heap.size) := (Array.getElem?_eq_some_iff.1 HXR.out).1
    have hqi : (q : Int) < (N : Int) := by omega
    have hq0 : (0 : Int) ≤ (q : Int) := by omega
    clear hti hcl hys q1 q2 q3 hmem hnq hbw HI hyt
    have HKS := HKS1
    by_cases k4 : k = 4
    ·subst k4
     obtain rfl : q = j := by rw [hq]; unfold turnQ; rw [if_pos rfl]
     have hk0 : KS.take (q + 1) = KS.take q := by rw [HKSP.out.2.2.1 (by decide)]; simp
     have HRN : Hid (∀ (kv xv : Value) (css' : List (Array Value)) (V : World), TreeIn X X 4 n t (KS.take q) xv kv xv css' (YS.take q ++ [yt]) V → TreeIn X X 4 n t (KS.take (q + 1)) xv kv xv css' (YS.take (q + 1)) V) := fun kv xv css' V h => by
      rw [HYT.out, hk0]
      exact h
     have k4n : (4 : Int) ≠ 5 := by decide
     clear hk0 hq
     have c4s : wr.cell? ⟨w.heap.size, 0, none⟩ = some (.int .i64 4) := cell_in HXR.out rfl
     go_upto_region 9 with fail
     clear c4s
     have HW : Hid (Below wr.heap.size wr wr.drew) := drawn_below wr
     refine wp_region_T (S := (fun V => V.cell? ⟨w.heap.size, 4, none⟩ = some (.slice (some ⟨bb, oo, none⟩) N cap) ∧ V.cell? ⟨X, 4, none⟩ = some (.slice ax q cx) ∧ V.rangeAt bb (oo + q * 5) (trC k2 n2 t2 (.slice qa ql qc) (.slice ra rl rc)).toList)) [10, 11, 12] (by kernel_rfl) (by exact HKS.out _ HW.out) (fun hHeld => ?_)
     refine tkL 0 35 (h := ?_)
     refine tkL 1 36 (h := ?_)
     (try simp only [pq])
     refine tkL 2 37 (h := ?_)
     refine tkL 3 38 (h := ?_)
     (try simp only [pq])
     refine tkL 4 39 (h := ?_)
     refine tkL 5 40 (h := ?_)
     (try simp only [pq])
     refine tyL 6 41 (hy := yieldsIf_arr (by rfl) 28 _ rfl bb (oo + q * 5) rfl (trC k2 n2 t2 (.slice qa ql qc) (.slice ra rl rc)) _ (fun w hw => hw.2.2) Tryz.underlying28 rfl (by exact tr_size)) (h := ?_)
     refine tkL 7 42 (h := ?_)
     (try simp only [pq])
     refine tkO 8 (some 43) (h := fun K hK => ?_)
     go_simp
     go_at_call 27
     (with_reducible refine (HCL.out _ (by exact HW.out)).mono ?_)
     rintro r wc ⟨tc, rfl, htc, htr, hb⟩
     have HTC := Lib.hid htc
     have HTR := Lib.hid (htr.weak fun g hg => Nat.le_trans HW.out.size hg)
     replace HW := Lib.hid (HW.out.trans (hb.mono HW.out.size))
     clear hb htc htr
     dsimp only
     refine hK.out _ _ (by exact HKS.out _ HW.out) (fun hHeld => ?_)
     clear hK K
     (try simp only [pq])
     refine tkO 9 (some 44) (h := fun K hK => ?_)
     have HTC1 : Hid (tc.all (·.oneCell') = true) := by show _ = true; obtain ⟨kk, nn, tt, aa, ll, cc, dd, mm, ee, rfl⟩ := HTR.out.trv.cells; simp [Value.oneCell']
     refine bs_wp 26 28 _ rfl tc 5 (.agg (trC 0 0 ⟨#[]⟩ (.slice none 0 0) (.slice none 0 0))) rfl HTC.out (by decide) (by decide) Tryz.underlying26 trl_info ?_
     intro wl hl hbl hzl
     have HL := Lib.hid hl
     have HTR2 := Lib.hid (HTR.out.later hbl)
     replace HW := Lib.hid (HW.out.trans (hbl.mono HW.out.size))
     clear hl hbl hzl
     refine hK.out _ _ (by exact HKS.out _ HW.out) (fun hHeld => ?_)
     clear hK K
     (try simp only [pq])
     refine tkU 10 (some 45) (h := fun K hK => ?_)
     refine rowsW_wp 26 28 _ _ rfl (B := X) (s := 5) (by_ := 80) (z := .agg (trC 0 0 ⟨#[]⟩ (.slice none 0 0) (.slice none 0 0))) (c := tc) rfl (HTI.out.later HW.out).items wc.heap.size _ rfl HL.out HTC.out HTC1.out Tryz.underlying26 trl_info3 rfl (by decide) (by have := HJ.out; omega) (by decide) ?_
     intro xv2 wp hrw hgw hnw
     obtain ⟨gx, cx2, cur, hsv, hBg, hhg, _⟩ := hrw.at_ (by simp)
     obtain ⟨m, hm⟩ : ∃ m, m = (css ++ [tc]).length := ⟨_, rfl⟩
     rw [← hm] at hsv
     have hm1 : m = q + 1 := by rw [hm]; have := HJ.out; simp; omega
     subst hsv
     obtain ⟨htp, htr2⟩ := (HTI.out.later HW.out).grew (by have := HJ.out; omega) hrw hgw hnw
     have HTP := Lib.hid htp
     have HTRP := Lib.hid (htr2 ((HTI.out.later HW.out).news2 HTR2.out (Array.getElem?_eq_some_iff.1 HTI.out.box).1 (fun g e => (HTI.out.keys.lt e).2) (fun g e => (HTI.out.items.own.lt e).2)))
     have HBP : Hid (Below X wr wp) := (HW.out.mono (Nat.le_of_lt (Array.getElem?_eq_some_iff.1 HTI.out.box).1)).grown hgw (Nat.le_trans (Nat.le_of_lt (Array.getElem?_eq_some_iff.1 HTI.out.box).1) HW.out.size) (fun g e => ((HTI.out.later HW.out).items.own.lt e).1)
     have HM := Lib.hid (And.intro hm hm1)
     clear hrw hgw hnw hBg hhg htp htr2 hm hm1
     refine hK.out _ _ ?_
     clear hK K
     (try simp only [pq])
     refine tkP 11 46 (h := ?_)
     (try simp only [pq])
     refine tkU 12 none (h := fun K hK => ?_)
     refine st_cell_wp 26 _ _ rfl X 4 _ rfl rfl rfl 28 _ HTP.out.box trll_size (show 4 < 5 by omega) ?_
     intro wq hxq kq
     obtain ⟨htf, hrf⟩ := HTP.out.boxed kq hxq
     have HTF := Lib.hid (htf.part (by have := HJ.out; omega) HTC.out (hrf HTRP.out))
     have HBQ := Lib.hid (HBP.out.trans (kq.below (Nat.le_refl X)))
     clear htf hrf hxq kq
     refine hK.out _ _ ?_
     clear hK K
     (try simp only [pq])
     refine wpAnyT_done (by kernel_rfl) ?_ _
     clear hHeld
     have c5s : wq.cell? ⟨w.heap.size, 0, none⟩ = some (.int .i64 4) := cell_in ((HBQ.out.block _ HXL.out).trans HXR.out) rfl
     go_wp2_with fail
     go_roundw
     case rel => exact ⟨q + 1, by omega, by go_num, ⟨_, rfl⟩, ⟨_, rfl⟩, ⟨_, _, css ++ [tc], HRN.out _ _ _ _ HTF.out, by have := HJ.out; simp; omega⟩, HBL.out.trans HBQ.out⟩
     case measure => simp [intOf]; omega
    by_cases k5 : k = 5
    ·subst k5
     have hkl : ks.length = xs.length := HKSP.out.2.2.2.1 rfl
     have hqk : q < ks.length := by rw [hkl]; exact hqx
     obtain ⟨yk, hyk⟩ : ∃ yk, yk = ks[q] := ⟨_, rfl⟩
     have hk0 : KS.take (j + 1) = KS.take j ++ [yk] := take_next (by rw [HKSP.out.1, turn_ks hkl hlx, ← HOK.out.2.2, ← hq, List.getElem?_eq_getElem hqk, hyk])
     have hkd : kd = some ⟨kb1, ko, none⟩ := HKO.out.1 (by rw [HKSP.out.2.2.2.2]; omega)
     subst hkd
     have hck := HKO.out.2 q hqk
     rw [← hyk] at hck
     have HKC : Hid (∀ V, Below X wr V → V.cell? ⟨kb1, ko + q, none⟩ = some (.string yk)) := fun V hb => (((HB2.out.trans (HBL.out.mono (Nat.le_of_lt HXL.out))).trans (hb.mono (Nat.le_of_lt HXL.out))).cell (World.block_lt_of_cell? w _ hck)).trans hck
     have hlkN : N = lk := by rw [HKSP.out.2.2.2.2, hkl, HOK.out.2.2]
     subst hlkN
     have HRN : Hid (∀ (kv xv : Value) (css' : List (Array Value)) (V : World), TreeIn X X 5 n t (KS.take j ++ [yk]) xv kv xv css' (YS.take j ++ [yt]) V → TreeIn X X 5 n t (KS.take (j + 1)) xv kv xv css' (YS.take (j + 1)) V) := fun kv xv css' V h => by
      rw [HYT.out, hk0]
      exact h
     have HQE : Hid (Int.tmod ((N : Int) - 1 - (j : Int) + (c : Int)) (N : Int) = (q : Int)) := by
      show _ = _
      rw [hq]
      unfold turnQ
      rw [if_neg k4, show (N : Int) - 1 - (j : Int) + (c : Int) = ((N - 1 - j + c : Nat) : Int) by omega]
      exact (Int.ofNat_tmod _ _).symm
     clear hk0 hyk hck hkl hqk hq
     have hqe := HQE.out
     have c4s : wr.cell? ⟨w.heap.size, 0, none⟩ = some (.int .i64 5) := cell_in HXR.out rfl
     go_upto_region 9 with fail
     clear hqe
     clear c4s
     have HW : Hid (Below wr.heap.size wr wr.drew) := drawn_below wr
     refine wp_region_T (S := (fun V => V.cell? ⟨w.heap.size, 4, none⟩ = some (.slice (some ⟨bb, oo, none⟩) N cap) ∧ V.cell? ⟨X, 4, none⟩ = some (.slice ax j cx) ∧ V.rangeAt bb (oo + q * 5) (trC k2 n2 t2 (.slice qa ql qc) (.slice ra rl rc)).toList)) [10, 11, 12] (by kernel_rfl) (by exact HKS.out _ HW.out) (fun hHeld => ?_)
     refine tkL 0 35 (h := ?_)
     refine tkL 1 36 (h := ?_)
     (try simp only [pq])
     refine tkL 2 37 (h := ?_)
     refine tkL 3 38 (h := ?_)
     (try simp only [pq])
     refine tkL 4 39 (h := ?_)
     refine tkL 5 40 (h := ?_)
     (try simp only [pq])
     refine tyL 6 41 (hy := yieldsIf_arr (by rfl) 28 _ rfl bb (oo + q * 5) rfl (trC k2 n2 t2 (.slice qa ql qc) (.slice ra rl rc)) _ (fun w hw => hw.2.2) Tryz.underlying28 rfl (by exact tr_size)) (h := ?_)
     refine tkL 7 42 (h := ?_)
     (try simp only [pq])
     refine tkO 8 (some 43) (h := fun K hK => ?_)
     go_simp
     go_at_call 27
     (with_reducible refine (HCL.out _ (by exact HW.out)).mono ?_)
     rintro r wc ⟨tc, rfl, htc, htr, hb⟩
     have HTC := Lib.hid htc
     have HTR := Lib.hid (htr.weak fun g hg => Nat.le_trans HW.out.size hg)
     replace HW := Lib.hid (HW.out.trans (hb.mono HW.out.size))
     clear hb htc htr
     dsimp only
     refine hK.out _ _ (by exact HKS.out _ HW.out) (fun hHeld => ?_)
     clear hK K
     (try simp only [pq])
     refine tkO 9 (some 44) (h := fun K hK => ?_)
     have HTC1 : Hid (tc.all (·.oneCell') = true) := by show _ = true; obtain ⟨kk, nn, tt, aa, ll, cc, dd, mm, ee, rfl⟩ := HTR.out.trv.cells; simp [Value.oneCell']
     refine bs_wp 26 28 _ rfl tc 5 (.agg (trC 0 0 ⟨#[]⟩ (.slice none 0 0) (.slice none 0 0))) rfl HTC.out (by decide) (by decide) Tryz.underlying26 trl_info ?_
     intro wl hl hbl hzl
     have HL := Lib.hid hl
     have HTR2 := Lib.hid (HTR.out.later hbl)
     replace HW := Lib.hid (HW.out.trans (hbl.mono HW.out.size))
     clear hl hbl hzl
     refine hK.out _ _ (by exact HKS.out _ HW.out) (fun hHeld => ?_)
     clear hK K
     (try simp only [pq])
     refine tkU 10 (some 45) (h := fun K hK => ?_)
     refine rowsW_wp 26 28 _ _ rfl (B := X) (s := 5) (by_ := 80) (z := .agg (trC 0 0 ⟨#[]⟩ (.slice none 0 0) (.slice none 0 0))) (c := tc) rfl (HTI.out.later HW.out).items wc.heap.size _ rfl HL.out HTC.out HTC1.out Tryz.underlying26 trl_info3 rfl (by decide) (by have := HJ.out; omega) (by decide) ?_
     intro xv2 wp hrw hgw hnw
     obtain ⟨gx, cx2, cur, hsv, hBg, hhg, _⟩ := hrw.at_ (by simp)
     obtain ⟨m, hm⟩ : ∃ m, m = (css ++ [tc]).length := ⟨_, rfl⟩
     rw [← hm] at hsv
     have hm1 : m = j + 1 := by rw [hm]; have := HJ.out; simp; omega
     subst hsv
     obtain ⟨htp, htr2⟩ := (HTI.out.later HW.out).grew (by have := HJ.out; omega) hrw hgw hnw
     have HTP := Lib.hid htp
     have HTRP := Lib.hid (htr2 ((HTI.out.later HW.out).news2 HTR2.out (Array.getElem?_eq_some_iff.1 HTI.out.box).1 (fun g e => (HTI.out.keys.lt e).2) (fun g e => (HTI.out.items.own.lt e).2)))
     have HBP : Hid (Below X wr wp) := (HW.out.mono (Nat.le_of_lt (Array.getElem?_eq_some_iff.1 HTI.out.box).1)).grown hgw (Nat.le_trans (Nat.le_of_lt (Array.getElem?_eq_some_iff.1 HTI.out.box).1) HW.out.size) (fun g e => ((HTI.out.later HW.out).items.own.lt e).1)
     have HM := Lib.hid (And.intro hm hm1)
     clear hrw hgw hnw hBg hhg htp htr2 hm hm1
     refine hK.out _ _ ?_
     clear hK K
     (try simp only [pq])
     refine tkP 11 46 (h := ?_)
     (try simp only [pq])
     refine tkU 12 none (h := fun K hK => ?_)
     refine st_cell_wp 26 _ _ rfl X 4 _ rfl rfl rfl 28 _ HTP.out.box trll_size (show 4 < 5 by omega) ?_
     intro wq hxq kq
     obtain ⟨htf, hrf⟩ := HTP.out.boxed kq hxq
     have HTF := Lib.hid (htf.part (by have := HJ.out; omega) HTC.out (hrf HTRP.out))
     have HBQ := Lib.hid (HBP.out.trans (kq.below (Nat.le_refl X)))
     clear htf hrf hxq kq
     refine hK.out _ _ ?_
     clear hK K
     (try simp only [pq])
     refine wpAnyT_done (by kernel_rfl) ?_ _
     clear hHeld
     have c5s : wq.cell? ⟨w.heap.size, 0, none⟩ = some (.int .i64 5) := cell_in ((HBQ.out.block _ HXL.out).trans HXR.out) rfl
     go_upto_region 11 with fail
     clear c5s
     obtain ⟨ak, ck, hak⟩ := HTF.out.keys.shape'
     obtain ⟨lk2, hlk2⟩ : ∃ lk2, lk2 = ((KS.take j).map fun y => (#[.string y] : Array Value)).length := ⟨_, rfl⟩
     rw [← hlk2] at hak
     subst hak
     have HLK : Hid (lk2 ≤ j) := by show _ ≤ _; rw [hlk2]; simp; omega
     have HLK3 := Lib.hid hlk2
     clear hlk2
     have HKS3 : Hid (∀ V, Below wq.heap.size wq V → (V.cell? ⟨w.heap.size, 3, none⟩ = some (.slice (some ⟨kb1, ko, none⟩) N kcap) ∧ V.cell? ⟨X, 3, none⟩ = some (.slice ak lk2 ck) ∧ V.cell? ⟨kb1, ko + q, none⟩ = some (.string yk))) := fun V hb => ⟨cell_in ((hb.block _ (Nat.lt_of_lt_of_le HXL2.out HBQ.out.size)).trans ((HBQ.out.block _ HXL.out).trans HXR.out)) rfl, cell_in ((hb.block _ (Array.getElem?_eq_some_iff.1 HTF.out.box).1).trans HTF.out.box) rfl, HKC.out V (HBQ.out.trans (hb.mono (Nat.le_of_lt (Array.getElem?_eq_some_iff.1 HTF.out.box).1)))⟩
     obtain ⟨wg, hwg⟩ : ∃ wg, wg = wq.drew := ⟨_, rfl⟩
     have HW3 : Hid (Below wq.heap.size wq wg) := by show Below _ _ _; rw [hwg]; exact drawn_below wq
     refine wp_region_T (S := (fun V => V.cell? ⟨w.heap.size, 3, none⟩ = some (.slice (some ⟨kb1, ko, none⟩) N kcap) ∧ V.cell? ⟨X, 3, none⟩ = some (.slice ak lk2 ck) ∧ V.cell? ⟨kb1, ko + q, none⟩ = some (.string yk))) [8, 9, 10] (by kernel_rfl) (by rw [← hwg]; exact HKS3.out _ HW3.out) (fun hHeld => ?_)
     rw [← hwg] at hHeld ⊢
     clear hwg
     refine tkL 0 50 (h := ?_)
     refine tkL 1 51 (h := ?_)
     (try simp only [pq])
     refine tkL 2 52 (h := ?_)
     refine tkL 3 53 (h := ?_)
     (try simp only [pq])
     refine tkL 4 54 (h := ?_)
     refine tkL 5 55 (h := ?_)
     (try simp only [pq])
     refine tkL 6 56 (h := ?_)
     (try simp only [pq])
     refine tkO 7 (some 57) (h := fun K hK => ?_)
     go_simp
     have hbl := Below.newly' wg (.cells #[.string yk] 9)
     have HLS := Lib.hid (heap_alloc_last wg (.cells #[.string yk] 9))
     have HLW := HW3
     replace HW3 := Lib.hid (HW3.out.trans (hbl.mono HW3.out.size))
     obtain ⟨ll, hll⟩ : ∃ ll, ll = wg.heap.size := ⟨_, rfl⟩
     obtain ⟨wl3, hwl3⟩ : ∃ wl3, wl3 = wg.alloc (.cells #[.string yk] 9) := ⟨_, rfl⟩
     rw [← hwl3, ← hll] at HLS
     rw [← hwl3] at HW3 ⊢
     rw [← hll]
     clear hbl hll hwl3
     refine hK.out _ _ (by exact HKS3.out _ HW3.out) (fun hHeld => ?_)
     clear hK K
     (try simp only [pq])
     refine tkU 8 (some 58) (h := fun K hK => ?_)
     refine rowsN_one 25 9 _ _ rfl (B := X) (s := 1) (by_ := 16) (z := .string ⟨#[]⟩) (c := #[.string yk]) rfl (HTF.out.later HW3.out).keys ll _ rfl HLS.out rfl (by simp [Value.oneCell']) Tryz.underlying25 str_info rfl (by decide) (by have := HLK.out; have := HJ.out; simp; omega) (by decide) ?_
     intro kv2 wp3 hr3 hg3 hn3
     obtain ⟨ak2, ck2, hsk⟩ := hr3.shape'
     obtain ⟨m3, hm3⟩ : ∃ m3, m3 = ((List.map (fun y => (#[.string y] : Array Value)) (KS.take j)) ++ [#[Value.string yk]]).length := ⟨_, rfl⟩
     rw [← hm3] at hsk
     subst hsk
     clear hm3
     refine hK.out _ _ ?_
     clear hK K
     (try simp only [pq])
     refine tkP 9 59 (h := ?_)
     (try simp only [pq])
     refine tkU 10 none (h := fun K hK => ?_)
     refine st_cell_wp 25 _ _ rfl X 3 _ rfl rfl rfl 28 _ ((hg3.block _ (Array.getElem?_eq_some_iff.1 (HTF.out.later HW3.out).box).1 (fun e => (HTF.out.later HW3.out).keys.neX (HTF.out.later HW3.out).box (by decide) e.symm)).trans (HTF.out.later HW3.out).box) strl_size (show 3 < 5 by omega) ?_
     intro wq3 hxq3 kq3
     have HTK := Lib.hid ((HTF.out.later HW3.out).key yk hr3 hg3 hn3 kq3.by_ hxq3)
     have HBK : Hid (Below X wr wq3) := ((HBQ.out.trans (HW3.out.mono (Nat.le_of_lt (Array.getElem?_eq_some_iff.1 HTF.out.box).1))).grown hg3 (Nat.le_trans (Nat.le_of_lt (Array.getElem?_eq_some_iff.1 HTF.out.box).1) HW3.out.size) (fun g e => ((HTF.out.later HW3.out).keys.lt e).1)).trans (kq3.below (Nat.le_refl X))
     clear hr3 hg3 hn3 hxq3 kq3
     refine hK.out _ _ ?_
     clear hK K
     (try simp only [pq])
     refine wpAnyT_done (by kernel_rfl) ?_ _
     clear hHeld
     go_wp2_with fail
     go_roundw
     case rel => exact ⟨j + 1, by omega, by go_num, ⟨_, rfl⟩, ⟨_, rfl⟩, ⟨_, _, css ++ [tc], HRN.out _ _ _ _ HTK.out, by have := HJ.out; simp; omega⟩, HBL.out.trans HBK.out⟩
     case measure => simp [intOf]; omega
    ·have hk0 : KS.take (j + 1) = KS.take j := by rw [HKSP.out.2.2.1 k5]; simp
     have HRN : Hid (∀ (kv xv : Value) (css' : List (Array Value)) (V : World), TreeIn X X k n t (KS.take j) xv kv xv css' (YS.take j ++ [yt]) V → TreeIn X X k n t (KS.take (j + 1)) xv kv xv css' (YS.take (j + 1)) V) := fun kv xv css' V h => by
      rw [HYT.out, hk0]
      exact h
     have HQE : Hid (Int.tmod ((N : Int) - 1 - (j : Int) + (c : Int)) (N : Int) = (q : Int)) := by
      show _ = _
      rw [hq]
      unfold turnQ
      rw [if_neg k4, show (N : Int) - 1 - (j : Int) + (c : Int) = ((N - 1 - j + c : Nat) : Int) by omega]
      exact (Int.ofNat_tmod _ _).symm
     clear hk0 hq
     have hqe := HQE.out
     have c4s : wr.cell? ⟨w.heap.size, 0, none⟩ = some (.int .i64 k) := cell_in HXR.out rfl
     go_upto_region 9 with fail
     clear hqe
     clear c4s
     have HW : Hid (Below wr.heap.size wr wr.drew) := drawn_below wr
     refine wp_region_T (S := (fun V => V.cell? ⟨w.heap.size, 4, none⟩ = some (.slice (some ⟨bb, oo, none⟩) N cap) ∧ V.cell? ⟨X, 4, none⟩ = some (.slice ax j cx) ∧ V.rangeAt bb (oo + q * 5) (trC k2 n2 t2 (.slice qa ql qc) (.slice ra rl rc)).toList)) [10, 11, 12] (by kernel_rfl) (by exact HKS.out _ HW.out) (fun hHeld => ?_)
     refine tkL 0 35 (h := ?_)
     refine tkL 1 36 (h := ?_)
     (try simp only [pq])
     refine tkL 2 37 (h := ?_)
     refine tkL 3 38 (h := ?_)
     (try simp only [pq])
     refine tkL 4 39 (h := ?_)
     refine tkL 5 40 (h := ?_)
     (try simp only [pq])
     refine tyL 6 41 (hy := yieldsIf_arr (by rfl) 28 _ rfl bb (oo + q * 5) rfl (trC k2 n2 t2 (.slice qa ql qc) (.slice ra rl rc)) _ (fun w hw => hw.2.2) Tryz.underlying28 rfl (by exact tr_size)) (h := ?_)
     refine tkL 7 42 (h := ?_)
     (try simp only [pq])
     refine tkO 8 (some 43) (h := fun K hK => ?_)
     go_simp
     go_at_call 27
     (with_reducible refine (HCL.out _ (by exact HW.out)).mono ?_)
     rintro r wc ⟨tc, rfl, htc, htr, hb⟩
     have HTC := Lib.hid htc
     have HTR := Lib.hid (htr.weak fun g hg => Nat.le_trans HW.out.size hg)
     replace HW := Lib.hid (HW.out.trans (hb.mono HW.out.size))
     clear hb htc htr
     dsimp only
     refine hK.out _ _ (by exact HKS.out _ HW.out) (fun hHeld => ?_)
     clear hK K
     (try simp only [pq])
     refine tkO 9 (some 44) (h := fun K hK => ?_)
     have HTC1 : Hid (tc.all (·.oneCell') = true) := by show _ = true; obtain ⟨kk, nn, tt, aa, ll, cc, dd, mm, ee, rfl⟩ := HTR.out.trv.cells; simp [Value.oneCell']
     refine bs_wp 26 28 _ rfl tc 5 (.agg (trC 0 0 ⟨#[]⟩ (.slice none 0 0) (.slice none 0 0))) rfl HTC.out (by decide) (by decide) Tryz.underlying26 trl_info ?_
     intro wl hl hbl hzl
     have HL := Lib.hid hl
     have HTR2 := Lib.hid (HTR.out.later hbl)
     replace HW := Lib.hid (HW.out.trans (hbl.mono HW.out.size))
     clear hl hbl hzl
     refine hK.out _ _ (by exact HKS.out _ HW.out) (fun hHeld => ?_)
     clear hK K
     (try simp only [pq])
     refine tkU 10 (some 45) (h := fun K hK => ?_)
     refine rowsW_wp 26 28 _ _ rfl (B := X) (s := 5) (by_ := 80) (z := .agg (trC 0 0 ⟨#[]⟩ (.slice none 0 0) (.slice none 0 0))) (c := tc) rfl (HTI.out.later HW.out).items wc.heap.size _ rfl HL.out HTC.out HTC1.out Tryz.underlying26 trl_info3 rfl (by decide) (by have := HJ.out; omega) (by decide) ?_
     intro xv2 wp hrw hgw hnw
     obtain ⟨gx, cx2, cur, hsv, hBg, hhg, _⟩ := hrw.at_ (by simp)
     obtain ⟨m, hm⟩ : ∃ m, m = (css ++ [tc]).length := ⟨_, rfl⟩
     rw [← hm] at hsv
     have hm1 : m = j + 1 := by rw [hm]; have := HJ.out; simp; omega
     subst hsv
     obtain ⟨htp, htr2⟩ := (HTI.out.later HW.out).grew (by have := HJ.out; omega) hrw hgw hnw
     have HTP := Lib.hid htp
     have HTRP := Lib.hid (htr2 ((HTI.out.later HW.out).news2 HTR2.out (Array.getElem?_eq_some_iff.1 HTI.out.box).1 (fun g e => (HTI.out.keys.lt e).2) (fun g e => (HTI.out.items.own.lt e).2)))
     have HBP : Hid (Below X wr wp) := (HW.out.mono (Nat.le_of_lt (Array.getElem?_eq_some_iff.1 HTI.out.box).1)).grown hgw (Nat.le_trans (Nat.le_of_lt (Array.getElem?_eq_some_iff.1 HTI.out.box).1) HW.out.size) (fun g e => ((HTI.out.later HW.out).items.own.lt e).1)
     have HM := Lib.hid (And.intro hm hm1)
     clear hrw hgw hnw hBg hhg htp htr2 hm hm1
     refine hK.out _ _ ?_
     clear hK K
     (try simp only [pq])
     refine tkP 11 46 (h := ?_)
     (try simp only [pq])
     refine tkU 12 none (h := fun K hK => ?_)
     refine st_cell_wp 26 _ _ rfl X 4 _ rfl rfl rfl 28 _ HTP.out.box trll_size (show 4 < 5 by omega) ?_
     intro wq hxq kq
     obtain ⟨htf, hrf⟩ := HTP.out.boxed kq hxq
     have HTF := Lib.hid (htf.part (by have := HJ.out; omega) HTC.out (hrf HTRP.out))
     have HBQ := Lib.hid (HBP.out.trans (kq.below (Nat.le_refl X)))
     clear htf hrf hxq kq
     refine hK.out _ _ ?_
     clear hK K
     (try simp only [pq])
     refine wpAnyT_done (by kernel_rfl) ?_ _
     clear hHeld
     have c5s : wq.cell? ⟨w.heap.size, 0, none⟩ = some (.int .i64 k) := cell_in ((HBQ.out.block _ HXL.out).trans HXR.out) rfl
     go_wp2_with fail
     go_roundw
     case rel => exact ⟨j + 1, by omega, by go_num, ⟨_, rfl⟩, ⟨_, rfl⟩, ⟨_, _, css ++ [tc], HRN.out _ _ _ _ HTF.out, by have := HJ.out; simp; omega⟩, HBL.out.trans HBQ.out⟩
     case measure => simp [intOf]; omega
   ·obtain rfl : j = N := by omega
    have hlt' : ¬ (j : Int) < (j : Int) := by omega
    obtain ⟨kv, xv, css, hti, hcl⟩ := HI.out
    rw [List.take_of_length_le HKSP.out.2.1, List.take_of_length_le (Nat.le_of_eq HYS.out.2)] at hti
    have htr := hti.tree (by rw [hcl, HYS.out.2]) HRNG.out.1 HRNG.out.2.1 HRNG.out.2.2
    have hax : Tr.nd k n t KS YS = trnT c (.nd k n t ks xs) := by rw [HKSP.out.1, HYS.out.1, trnT]; rfl
    rw [hax] at htr
    have HTR := Lib.hid htr
    have HBX := Lib.hid hti.box
    have HRR := Lib.hid ((HBL.out.block (w.heap.size + 1) (by rw [HXS.out]; omega)).trans HR2.out)
    obtain ⟨ak, lk', ck, rfl⟩ : ∃ ak lk ck, kv = .slice ak lk ck := by obtain ⟨a, c, e⟩ := hti.keys.shape'; exact ⟨a, _, c, e⟩
    obtain ⟨ax, lx, cx, rfl⟩ : ∃ ax lx cx, xv = .slice ax lx cx := by obtain ⟨a, c, e⟩ := hti.items.own.shape'; exact ⟨a, _, c, e⟩
    clear hti hcl htr hax HI
    go_wp2_with (first
     | (refine ld_if rfl 28 _ rfl X rfl 28 _ _ _ HBX.out Tryz.underlying28 rfl tr5_size ?_)
     | (refine st_agg rfl 28 _ _ rfl (w.heap.size + 1) (trC k n t (.slice ak lk' ck) (.slice ax lx cx)) rfl rfl 28 _ HRR.out tr5_size rfl (by simp [Value.oneCell']) ?_; intro w8 h8 k8))
    have hxs := HXS.out
    have hb := HB2.out.trans (HBL.out.mono (by omega : w.heap.size ≤ X))
    refine bodyPost_ret (results_cell_row rfl _ _ (w.heap.size + 1) 28 _ (0, 0) _ rfl h8 Tryz.underlying28 rfl tr5_size) rfl ⟨_, rfl, rfl, ?_, hb.trans (k8.below (by omega))⟩
    refine (HTR.out.kept (KT.grown k8.by_ fun Y e hY => ?_)).weak fun g hg => ?_
    ·cases e
     have : X ≤ w.heap.size + 1 := hY
     omega
    ·have : X ≤ g := hg
     omega
end Go.Proofs.YtpodmgihlomglaaGreatDoor
