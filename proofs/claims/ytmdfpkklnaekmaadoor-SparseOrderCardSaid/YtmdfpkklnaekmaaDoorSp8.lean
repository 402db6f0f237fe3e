/- Package sparse: Of. -/
import Derived.Test.YtmdfpkklnaekmaaDoorSp3
import Derived.Deep.Cut
import Derived.Test.YtmdfpkklnaekmaaDoorRef06O
namespace Go.Proofs.YtmdfpkklnaekmaaDoor
open Go.RowKit
set_option maxRecDepth 1000000
set_option linter.unusedSimpArgs false

theorem rk_succ (b k : Nat) : rkN b (k + 1) = rkN b k + (if bitN b k = true then 1 else 0) := rfl
theorem rk_mono (b : Nat) {p q : Nat} (h : p ≤ q) : rkN b p ≤ rkN b q := by
  induction q with
  | zero => obtain rfl : p = 0 := by omega
            exact Nat.le_refl _
  | succ q ih =>
    by_cases e : p = q + 1
    · subst e; exact Nat.le_refl _
    · have := ih (by omega)
      rw [rk_succ]
      omega
theorem of_some {b : Nat} {l : List Int} (h : rkN b 32 = l.length) {i : Nat} (hi : i < 32) (hb : bitN b i = true) : ∃ hk : rkN b i < l.length, ofR b l 32 i = some l[rkN b i] := by
  have h1 := rk_mono b (show i + 1 ≤ 32 by omega)
  rw [rk_succ, if_pos hb] at h1
  refine ⟨by omega, ?_⟩
  unfold ofR
  rw [if_pos ⟨hi, hb⟩, List.getElem?_eq_getElem (by omega)]
theorem of_isSome {b : Nat} {l : List Int} (h : rkN b 32 = l.length) {i : Nat} (hi : i < 32) : (ofR b l 32 i).isSome = bitN b i := by
  cases hb : bitN b i with
  | true => obtain ⟨_, e⟩ := of_some h hi hb; rw [e]; rfl
  | false => unfold ofR; rw [if_neg (by rw [hb]; simp)]; rfl
theorem of_bits {b : Nat} {l : List Int} (h : rkN b 32 = l.length) (hb : b < 4294967296) : bitsR (ofR b l 32) 32 = b :=
  ext_32 (bits_lt _ 32) hb fun i hi => by rw [bits_test, of_isSome h hi, bit_test]; simp [hi]
theorem of_take {b : Nat} {l : List Int} (h : rkN b 32 = l.length) : ∀ k, k ≤ 32 → lisL (ofR b l 32) (List.range k) = l.take (rkN b k)
  | 0, _ => rfl
  | k + 1, hk => by
    have ih := of_take h k (by omega)
    unfold lisL at ih ⊢
    rw [List.range_succ, List.filterMap_append, ih, rk_succ]
    cases hb : bitN b k with
    | true =>
      obtain ⟨h1, e⟩ := of_some h (show k < 32 by omega) hb
      rw [if_pos rfl, List.take_succ_eq_append_getElem h1]
      simp [e]
    | false =>
      have e : ofR b l 32 k = none := by unfold ofR; rw [if_neg (by rw [hb]; simp)]
      simp [e]
theorem of_lis {b : Nat} {l : List Int} (h : rkN b 32 = l.length) : lisR (ofR b l 32) = l := by
  unfold lisR
  rw [of_take h 32 (Nat.le_refl _), h, List.take_length]
theorem of_ok {b : Nat} {l : List Int} (hl : ∀ n ∈ l, -9223372036854775808 ≤ n ∧ n ≤ 9223372036854775807) : Ok (ofR b l 32) := by
  refine ⟨fun i hi => ?_, fun i n hn => ?_⟩
  · unfold ofR; rw [if_neg (by omega)]
  · unfold ofR at hn
    split at hn
    · exact hl n (List.mem_of_getElem? hn)
    · cases hn
theorem IntsAt.range {w : World} {v : Value} {zs : List Int} (h : IntsAt w v zs) : ∀ n ∈ zs, -9223372036854775808 ≤ n ∧ n ≤ 9223372036854775807 := by
  obtain ⟨_, _, _, _, _, _, _, h, _⟩ := h
  exact h
theorem IntsAt.seg {w : World} {v : Value} {zs : List Int} (h : IntsAt w v zs) : SegAt w v zs := by
  obtain ⟨a, cap, b, o, rfl, h1, h2, _⟩ := h
  refine ⟨a, cap, rfl, fun h0 => ⟨_, h1 h0, fun j u hu => ?_⟩⟩
  rw [iv, List.getElem?_map] at hu
  cases hj : zs[j]? with
  | none => rw [hj] at hu; cases hu
  | some z =>
    rw [hj] at hu
    obtain ⟨hlt, hz⟩ := List.getElem?_eq_some_iff.1 hj
    have := h2 j hlt
    rw [List.getD_eq_getElem?_getD, hj] at this
    rw [add_at, this]
    exact hu
/-- What lies from n on is as it was. -/
structure From (n : Nat) (w w' : World) : Prop where
  os : w'.os = w.os
  tape : w'.tape = w.tape
  output : w'.output = w.output
  size : w.heap.size ≤ w'.heap.size
  block : ∀ k, n ≤ k → k < w.heap.size → w'.heap[k]? = w.heap[k]?
theorem From.refl (n : Nat) (w : World) : From n w w := ⟨rfl, rfl, rfl, Nat.le_refl _, fun _ _ _ => rfl⟩
theorem From.trans {n : Nat} {a b c : World} (h : From n a b) (k : From n b c) : From n a c :=
  ⟨k.os.trans h.os, k.tape.trans h.tape, k.output.trans h.output, Nat.le_trans h.size k.size, fun j h1 h2 => (k.block j h1 (Nat.lt_of_lt_of_le h2 h.size)).trans (h.block j h1 h2)⟩
theorem From.below {n : Nat} {a b : World} (h : Below a.heap.size a b) : From n a b := ⟨h.os, h.tape, h.output, h.size, fun j _ h2 => h.block j h2⟩
theorem From.only {n X : Nat} {a b : World} (h : Only X a b) (hX : X < n) : From n a b :=
  ⟨h.by_.os, h.by_.tape, h.by_.output, h.by_.size, fun j h1 h2 => h.by_.block j h2 (by simp; omega)⟩
theorem LisFrom.from_ {B : Nat} {w w' : World} {v : Value} {zs : List Int} (h : LisFrom B w v zs) (hf : From B w w') : LisAt w' v zs := by
  rcases h with h | ⟨h0, g, c, cs, fr, hB, h1, h2, h3, h4⟩
  · exact .inl h
  · exact .inr ⟨h0, g, c, cs, fr, h1, h2, (hf.block g hB (Array.getElem?_eq_some_iff.1 h3).1).trans h3, h4⟩
theorem row2_info : (Tryd.prog.info? 27).map (·.size) = some 2 := by kernel_rfl
/-- One list, laid by the call of joined. -/
theorem sp_join1 (w : World) (v1 : Value) (l1 : List Int) (h1 : SegAt w v1 l1) (hl : l1.length ≤ 4000) :
    Calls Tryd.prog 37 #[.slice (some ⟨w.heap.size, 0, none⟩) 1 1] (w.alloc (.cells #[v1] 25))
      fun e w' => ∃ a n c, e = .returned (.slice a n c) ∧ LisFrom (w.alloc (.cells #[v1] 25)).heap.size w' (.slice a n c) l1 ∧ Below (w.alloc (.cells #[v1] 25)).heap.size (w.alloc (.cells #[v1] 25)) w' := by
  have hb : Below w.heap.size w (w.alloc (.cells #[v1] 25)) := Below.newly' _ _
  have hB := heap_alloc_last w (.cells #[v1] 25)
  generalize (w.alloc (.cells #[v1] 25)) = W at hb hB
  have := sp_joined_new W w.heap.size [(v1, l1)] (fun k hk => by
      match k, hk with
      | 0, _ => exact cell_in hB rfl) (fun k hk => by
      match k, hk with
      | 0, _ => exact h1.later hb) (by simp [catL]; omega) (by simp)
  simpa [catL] using this
set_option maxHeartbeats 2000000 in
theorem sp_Of (W : World) (b : Nat) (v : Value) (zs : List Int) (hb : b < 4294967296) (hv : IntsAt W v zs) (hl : zs.length ≤ 4000) : Calls Tryd.prog 21 #[.int .u32 (b : Int), v] W fun e W' =>
    ∃ c', e = .returned (.tuple #[.agg c', .int .i64 (if rkN b 32 = zs.length then 0 else 1)]) ∧ Below W.heap.size W W' ∧ ∀ W'', From W.heap.size W' W'' → At6 W'' (if rkN b 32 = zs.length then ofR b zs 32 else noR) c' := by
  have HC := Lib.hid (fun w => sp_count b hb w)
  obtain ⟨k, hk⟩ : ∃ k, k = rkN b 32 := ⟨_, rfl⟩
  rw [← hk] at HC ⊢
  have HK := Lib.hid hk
  clear hk
  obtain ⟨a, cap, rfl, _⟩ := hv.seg
  have hs := hv.seg
  have HS := Lib.hid hs
  have HV := Lib.hid hv
  clear hv hs
  by_cases he : k = zs.length
  · rw [if_pos he, if_pos he]
    have HE := Lib.hid he
    have he' : (k : Int) = (zs.length : Int) := by omega
    clear he
    go_enter Tryd.func21, Tryd.ntmps21
    go_upto_region 3 with (go_at_call 36; refine (HC.out _).mono ?_; rintro e w1 ⟨rfl, m, rfl⟩)
    obtain ⟨w2, hw2⟩ : ∃ w2, w2 = (W.alloc (.cells #[.int .u32 0, .slice none 0 0] 27)).drewN m := ⟨_, rfl⟩
    have hY2 : w2.heap[W.heap.size]? = some (.cells #[.int .u32 0, .slice none 0 0] 27 (0, 0)) := by rw [hw2]; exact heap_alloc_last W _
    have hb2 : Below W.heap.size W w2 := by rw [hw2]; exact Below.drewMany (Below.newly' _ _) _
    rw [← hw2]
    have HS2 := Lib.hid (HS.out.later hb2)
    have HY2 := Lib.hid hY2
    have HB2 := Lib.hid hb2
    have HSZ := Lib.hid (show W.heap.size < w2.heap.size from (Array.getElem?_eq_some_iff.1 hY2).1)
    clear hb2 hY2 hw2
    go_wp2_with (first
      | (go_at_call 37; refine (sp_join1 w2 _ zs HS2.out hl).mono ?_; rintro e w5 ⟨a5, n5, c5, rfl, hl5, hb5⟩
         have HY5 := Lib.hid ((hb5.block _ (by simp; have := HSZ.out; omega)).trans (((Below.newly' _ _).block _ HSZ.out).trans HY2.out))
         have HB5 := Lib.hid ((HB2.out.trans ((Below.newly' w2 _).mono (Nat.le_of_lt HSZ.out))).trans (hb5.mono (by simp; have := HSZ.out; omega)))
         have HL5 := Lib.hid hl5
         clear hl5 hb5)
      | (refine st_agg rfl 27 _ _ rfl W.heap.size #[.int .u32 (b : Int), .slice a5 n5 c5] rfl rfl 27 #[.int .u32 0, .slice none 0 0] HY5.out row2_info rfl (by simp [Value.oneCell']) ?_; intro w6 h6 k6))
    refine bodyPost_ret (results_cell_row1 rfl _ _ W.heap.size 27 _ (0, 0) _ rfl h6 Tryd.underlying27 rfl row2_info) rfl ⟨_, rfl, HB5.out.trans (k6.below (Nat.le_refl _)), fun W'' hf => ?_⟩
    have hr : rkN b 32 = zs.length := by rw [← HK.out, HE.out]
    refine ⟨of_ok (HV.out.range), _, by rw [of_bits hr hb], ?_⟩
    rw [of_lis hr]
    have hl6 : LisFrom (w2.alloc (.cells #[.slice a zs.length cap] 25)).heap.size w6 (.slice a5 n5 c5) zs := by
      rcases HL5.out with h | ⟨h0, g, c, cs, fr, hB, h1, h2, h3, h4⟩
      · exact .inl h
      · refine .inr ⟨h0, g, c, cs, fr, hB, h1, h2, k6.other h3 ?_, h4⟩
        have := HSZ.out
        simp at hB
        omega
    refine hl6.from_ ⟨hf.os, hf.tape, hf.output, hf.size, fun k hk hk2 => hf.block k ?_ hk2⟩
    have := HSZ.out
    simp at hk
    omega
  · rw [if_neg he, if_neg he]
    have he' : ((k : Int) == (zs.length : Int)) = false := beq_eq_false_iff_ne.2 (by omega)
    clear he
    have hl := heap_alloc_last W (.cells #[.int .u32 0, .slice none 0 0] 27)
    have HY := Lib.hid (fun m => (show ((W.alloc (.cells #[.int .u32 0, .slice none 0 0] 27)).drewN m).heap[W.heap.size]? = _ from hl))
    clear hl
    go_enter Tryd.func21, Tryd.ntmps21
    go_wp2_with (first
      | (go_at_call 36; refine (HC.out _).mono ?_; rintro e w1 ⟨rfl, m, rfl⟩)
      | (refine st_agg rfl 27 _ _ rfl W.heap.size #[.int .u32 0, .slice none 0 0] rfl rfl 27 #[.int .u32 0, .slice none 0 0] (HY.out _) row2_info rfl (by simp [Value.oneCell']) ?_; intro w6 h6 k6))
    exact bodyPost_ret (results_cell_row1 rfl _ _ W.heap.size 27 _ (0, 0) _ rfl h6 Tryd.underlying27 rfl row2_info) rfl ⟨_, rfl, (Below.drewMany (Below.newly' _ _) _).trans (k6.below (Nat.le_refl _)), fun W'' _ => At6.zero W''⟩
end Go.Proofs.YtmdfpkklnaekmaaDoor
