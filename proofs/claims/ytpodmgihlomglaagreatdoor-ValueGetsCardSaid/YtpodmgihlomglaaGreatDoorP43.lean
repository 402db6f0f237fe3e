import Derived.Test.YtpodmgihlomglaaGreatDoorP19
namespace Go.Proofs.YtpodmgihlomglaaGreatDoor
open Go.RowKit
set_option maxRecDepth 1000000
set_option linter.unusedSimpArgs false
def short200 (ks : List ByteArray) : Bool := ks.all fun k => decide (k.size ≤ 200)
mutual
def smT : Tr → Int → Int → Int × Bool
 | .nd _ _ t ks xs, d, l => if l < 1 ∨ 80 < d ∨ 200 < t.size ∨ l + 50 < ks.length then (0, false) else if short200 ks = false then (0, false) else smL xs (d + 1) (l - 1)
def smL : List Tr → Int → Int → Int × Bool
 | [], _, l => (l, true)
 | x :: r, d, l => if (smT x d l).2 = true then smL r d (smT x d l).1 else (0, false)
end
mutual
def ShortT : Tr → Prop
 | .nd _ _ t ks xs => t.size ≤ 200 ∧ (∀ k ∈ ks, k.size ≤ 200) ∧ ShortL xs
def ShortL : List Tr → Prop
 | [] => True
 | x :: r => ShortT x ∧ ShortL r
end
theorem shortL_iff {l : List Tr} : ShortL l ↔ ∀ x ∈ l, ShortT x := by
 induction l with
 | nil => simp [ShortL]
 | cons x l ih => rw [ShortL, ih]; simp
theorem short200_iff {ks : List ByteArray} : short200 ks = true ↔ ∀ k ∈ ks, k.size ≤ 200 := by simp [short200]
theorem sm_true (a : Tr) : ∀ d l, (smT a d l).2 = true → (nodT a : Int) ≤ l ∧ (smT a d l).1 = l - nodT a ∧ ShortT a ∧ d + depT a ≤ 81 := by
 induction a using tr_ind with
 | h k n t ks xs ih =>
  intro d l h
  have hL : ∀ (xs : List Tr), (∀ x ∈ xs, ∀ d l, (smT x d l).2 = true → (nodT x : Int) ≤ l ∧ (smT x d l).1 = l - nodT x ∧ ShortT x ∧ d + depT x ≤ 81) → ∀ d l, d ≤ 81 → 0 ≤ l → (smL xs d l).2 = true → (nodL xs : Int) ≤ l ∧ (smL xs d l).1 = l - nodL xs ∧ ShortL xs ∧ d + depL xs ≤ 81 := by
   intro xs
   induction xs with
   | nil => intro _ d l hd hl _; rw [smL, nodL, depL, ShortL]; simp; omega
   | cons x r ih2 =>
    intro hi d l hd hl h
    rw [smL] at h ⊢
    by_cases hz : (smT x d l).2 = true
    ·rw [if_pos hz] at h ⊢
     obtain ⟨a1, a2, a3, a4⟩ := hi x (List.mem_cons_self ..) d l hz
     obtain ⟨b1, b2, b3, b4⟩ := ih2 (fun y hy => hi y (List.mem_cons_of_mem _ hy)) d _ hd (by rw [a2]; omega) h
     rw [nodL, depL, ShortL]
     refine ⟨by rw [a2] at b1; omega, by rw [b2, a2]; omega, ⟨a3, b3⟩, by omega⟩
    ·rw [if_neg hz] at h; simp at h
  rw [smT] at h ⊢
  by_cases h1 : l < 1 ∨ 80 < d ∨ 200 < t.size ∨ l + 50 < ks.length
  ·rw [if_pos h1] at h; simp at h
  rw [if_neg h1] at h ⊢
  by_cases h2 : short200 ks = false
  ·rw [if_pos h2] at h; simp at h
  rw [if_neg h2] at h ⊢
  obtain ⟨b1, b2, b3, b4⟩ := hL xs ih (d + 1) (l - 1) (by omega) (by omega) h
  rw [nodT, depT, ShortT]
  exact ⟨by omega, by rw [b2]; omega, ⟨by omega, short200_iff.1 (by simpa using h2), b3⟩, by omega⟩
set_option maxHeartbeats 4000000 in
theorem rf_small (a : Tr) : ∀ (v : Value) (d l : Int) (w : World), TrV w a v → 0 ≤ d → d ≤ 1000 → l ≤ 1000000 → -10 ≤ l → Calls Tryz.prog 40 #[v, .int .i64 d, .int .i64 l] w fun e w' => e = .returned (.tuple #[.int .i64 (smT a d l).1, .bool (smT a d l).2]) ∧ Below w.heap.size w w' := by
 induction a using tr_ind with
 | h k n t ks xs ih =>
  intro v d l w hv hd1 hd2 hl1 hl2
  obtain ⟨kv, xv, rfl, ht, _, _, ⟨kd, kcap, kb', ko, rfl, k1, k2, k3⟩, ad, cap, bb, oo, rfl, h1, hmax, h2⟩ := hv.open'
  have HB0 := Lib.hid (Below.newly' w (.cells (trC k n t (.slice kd ks.length kcap) (.slice ad xs.length cap)) 28))
  have hm63 : (xs.length : Int) ≤ 9223372036854775807 := by unfold maxLen at hmax; omega
  have km63 : (ks.length : Int) ≤ 9223372036854775807 := by unfold maxLen at k3; omega
  have tm63 : (t.size : Int) ≤ 9223372036854775807 := by unfold maxLen at ht; omega
  have hwl : IntKind.i64.wrap (l + 50) = l + 50 := by rw [IntKind.wrap_i64]; omega
  by_cases c1 : l < 1
  case pos =>
   rw [smT, if_pos (.inl c1)]
   clear ih hv k1 k2 h1 h2
   go_enter Tryz.func40, Tryz.ntmps40
   go_wp2_with fail
   go_ret2
   exact ⟨rfl, HB0.out⟩
  by_cases c2 : 80 < d
  case pos =>
   rw [smT, if_pos (.inr (.inl c2))]
   clear ih hv k1 k2 h1 h2
   go_enter Tryz.func40, Tryz.ntmps40
   go_wp2_with fail
   go_ret2
   exact ⟨rfl, HB0.out⟩
  by_cases c3 : (200 : Int) < (t.size : Int)
  case pos =>
   rw [smT, if_pos (.inr (.inr (.inl (by omega))))]
   clear ih hv k1 k2 h1 h2
   go_enter Tryz.func40, Tryz.ntmps40
   go_wp2_with fail
   go_ret2
   exact ⟨rfl, HB0.out⟩
  by_cases c4 : l + 50 < (ks.length : Int)
  case pos =>
   rw [smT, if_pos (.inr (.inr (.inr c4)))]
   clear ih hv k1 k2 h1 h2
   go_enter Tryz.func40, Tryz.ntmps40
   go_wp2_with fail
   go_ret2
   exact ⟨rfl, HB0.out⟩
  rw [smT, if_neg (by omega)]
  obtain ⟨R, hR⟩ : ∃ R : Int × Bool, R = (if short200 ks = false then (0, false) else smL xs (d + 1) (l - 1)) := ⟨_, rfl⟩
  rw [← hR]
  have HR := Lib.hid hR
  clear hR
  have HIH := Lib.hid ih
  have HLO := Lib.hid h1
  have HLC := Lib.hid h2
  have HKO := Lib.hid k1
  have HKC := Lib.hid k2
  clear ih hv h1 h2 k1 k2
  go_enter Tryz.func40, Tryz.ntmps40
  go_wp2_with fail
  go_loopw [36] (fun i wl => ∃ j : Nat, j ≤ ks.length ∧ i = .int .i64 (j : Int) ∧ Hid (∀ k ∈ ks.take j, k.size ≤ 200) ∧ Below w.heap.size w wl ∧ Hid (wl.heap[w.heap.size]? = some (.cells (trC k n t (.slice kd ks.length kcap) (.slice ad xs.length cap)) 28 (0, 0)))) (fun i _ => ks.length - (intOf i).toNat)
  case atStart => exact ⟨0, Nat.zero_le _, rfl, (by simp : ∀ o ∈ ks.take 0, o.size ≤ 200), HB0.out, heap_alloc_new _ _⟩
  case round =>
   obtain ⟨j, hj, rfl, HT, hb, HX⟩ := hrel
   have HB := Lib.hid hb
   clear hb
   by_cases hlt : j < ks.length
   ·have hlt' : (j : Int) < (ks.length : Int) := by omega
    have i0 : (0 : Int) ≤ (j : Int) := by omega
    have had : kd = some ⟨kb', ko, none⟩ := HKO.out (by omega)
    subst had
    have hc := HKC.out j hlt
    have HMEM := Lib.hid (List.getElem_mem hlt)
    have HTK := Lib.hid (List.take_succ_eq_append_getElem hlt)
    obtain ⟨y, hy⟩ : ∃ y, y = ks[j] := ⟨_, rfl⟩
    rw [← hy] at hc HMEM HTK
    replace hc := (HB.out.cell (World.block_lt_of_cell? w _ hc)).trans hc
    clear hy
    by_cases h15 : (200 : Int) < (y.size : Int)
    ·have hf : short200 ks = false := by
      refine Bool.eq_false_iff.2 fun h => ?_
      have := short200_iff.1 h _ HMEM.out
      omega
     obtain rfl : R = (0, false) := by rw [HR.out, if_pos hf]
     clear hf
     go_wp2_with fail
     go_ret2
     exact ⟨rfl, HB.out⟩
    ·go_wp2_with fail
     go_roundw
     case rel =>
      refine ⟨j + 1, by omega, by go_num, ?_, HB.out, HX⟩
      show ∀ o ∈ ks.take (j + 1), o.size ≤ 200
      intro o ho
      rw [HTK.out, List.mem_append, List.mem_singleton] at ho
      rcases ho with ho | rfl
      ·exact HT.out o ho
      ·omega
     case measure => simp [intOf]; omega
   ·obtain rfl : j = ks.length := by omega
    have hf : ¬ short200 ks = false := by
     rw [short200_iff.2 (by have := HT.out; rwa [List.take_length] at this)]
     decide
    have HR2 : Hid (R = smL xs (d + 1) (l - 1)) := by
     show _ = _
     rw [HR.out, if_neg hf]
    clear hf HT HR
    have hx : wr.cell? ⟨w.heap.size, 4, none⟩ = some (.slice ad xs.length cap) := by simp [World.cell?, HX.out]
    go_wp2_with fail
    clear hx
    have hwd : IntKind.i64.wrap (d + 1) = d + 1 := by rw [IntKind.wrap_i64]; omega
    have HB1 := HB
    clear HB
    go_loopw [2, 49] (fun m i wl => ∃ (j : Nat) (l' : Int), j ≤ xs.length ∧ i = .int .i64 (j : Int) ∧ m = .int .i64 l' ∧ 0 ≤ l' ∧ l' ≤ 1000000 ∧ Hid (R = smL (xs.drop j) (d + 1) l') ∧ Below w.heap.size w wl) (fun _ i _ => xs.length - (intOf i).toNat)
    case atStart => exact ⟨0, l - 1, Nat.zero_le _, rfl, rfl, by omega, by omega, HR2, HB1.out⟩
    case round =>
     clear HX HR2
     obtain ⟨j, l', hj, rfl, rfl, hl0, hl6, HR2, hb⟩ := hrel
     have HB := Lib.hid hb
     clear hb
     by_cases hlt : j < xs.length
     ·have hlt' : (j : Int) < (xs.length : Int) := by omega
      have i0 : (0 : Int) ≤ (j : Int) := by omega
      have had : ad = some ⟨bb, oo, none⟩ := HLO.out (by omega)
      subst had
      obtain ⟨cs, q1, q2, q3⟩ := HLC.out j hlt
      have HMEM := Lib.hid (List.getElem_mem hlt)
      have hdr : xs.drop j = xs[j] :: xs.drop (j + 1) := List.drop_eq_getElem_cons hlt
      have hR2 := HR2.out
      rw [hdr, smL] at hR2
      obtain ⟨y, hy⟩ : ∃ y, y = xs[j] := ⟨_, rfl⟩
      rw [← hy] at q3 HMEM hR2
      obtain ⟨k', n', t', pa, pl, pc, qa, ql, qc, rfl⟩ := q3.cells
      have HRW := Lib.hid (show wr.rangeAt bb (oo + j * 5) (trC k' n' t' (.slice pa pl pc) (.slice qa ql qc)).toList from fun i v hv => (HB.out.cell (World.block_lt_of_cell? w _ (q2 i v hv))).trans (q2 i v hv))
      have HT := Lib.hid (q3.later HB.out)
      have HNW := Lib.hid (show Below w.heap.size w (wr.alloc (.cells (trC k' n' t' (.slice pa pl pc) (.slice qa ql qc)) 28)) from Below.alloc HB.out HB.out.size _)
      have hcl := HIH.out y HMEM.out _ (d + 1) l' _ (HT.out.later (Below.newly' wr (.cells (trC k' n' t' (.slice pa pl pc) (.slice qa ql qc)) 28))) (by omega) (by omega) (by omega) (by omega)
      obtain ⟨z1, z2, hz⟩ : ∃ z1 z2, smT y (d + 1) l' = (z1, z2) := ⟨_, _, rfl⟩
      have hst := sm_true y (d + 1) l'
      rw [hz] at hcl hR2 hst
      have HCL := Lib.hid hcl
      have HST := Lib.hid hst
      have HR3 := Lib.hid hR2
      clear q1 q2 q3 hy hdr hcl hst hR2 HR2 hz
      cases z2 with
      | false =>
       obtain rfl : R = (0, false) := HR3.out
       go_wp2_with (first
        | (refine ld_tr (by rfl) _ rfl bb (oo + j * 5) rfl (trC k' n' t' (.slice pa pl pc) (.slice qa ql qc)) HRW.out rfl ?_)
        | (go_at_call 40; (with_reducible refine HCL.out.mono ?_); rintro e w5 ⟨rfl, hb⟩; have HB5 := Lib.hid (tW HNW.out hb); clear hb))
       go_ret2
       exact ⟨rfl, HB5.out⟩
      | true =>
       obtain ⟨s1, s2, _, _⟩ := HST.out rfl
       simp only at s1 s2
       have hnp := nod_pos y
       go_wp2_with (first
        | (refine ld_tr (by rfl) _ rfl bb (oo + j * 5) rfl (trC k' n' t' (.slice pa pl pc) (.slice qa ql qc)) HRW.out rfl ?_)
        | (go_at_call 40; (with_reducible refine HCL.out.mono ?_); rintro e w5 ⟨rfl, hb⟩; have HB5 := Lib.hid (tW HNW.out hb); clear hb))
       go_roundw
       case rel => exact ⟨j + 1, z1, by omega, by go_num, by rw [s2], by omega, by omega, HR3.out, HB5.out⟩
       case measure => simp [intOf]; omega
     ·obtain rfl : j = xs.length := by omega
      have hR2 := HR2.out
      rw [List.drop_length, smL] at hR2
      subst hR2
      go_wp2_with fail
      go_ret2
      exact ⟨rfl, HB.out⟩
theorem rf_Small (a : Tr) (v : Value) (m : Int) (w : World) (hv : TrV w a v) (hm : 0 ≤ m) (hm2 : m ≤ 1000000) : Calls Tryz.prog 12 #[v, .int .i64 m] w fun e w' => e = .returned (.bool (smT a 0 m).2) ∧ Below w.heap.size w w' := by
 obtain ⟨k, n, t, ks, xs⟩ := a
 obtain ⟨kv, xv, rfl, _, _, _, ⟨kd, kcap, _, _, rfl, _, _, _⟩, ad, cap, _, _, rfl, _, _, _⟩ := hv.open'
 have HNW := Lib.hid (Below.newly' w (.cells (trC k n t (.slice kd ks.length kcap) (.slice ad xs.length cap)) 28))
 have HCL := Lib.hid (rf_small _ _ 0 m _ (hv.later HNW.out) (by omega) (by omega) (by omega) (by omega))
 clear hv
 go_enter Tryz.func12, Tryz.ntmps12
 go_wp2_with (go_at_call 40; (with_reducible refine HCL.out.mono ?_); rintro e w5 ⟨rfl, hb⟩; have HB5 := Lib.hid (tW HNW.out hb); clear hb)
 go_ret
 exact ⟨rfl, HB5.out⟩
end Go.Proofs.YtpodmgihlomglaaGreatDoor
