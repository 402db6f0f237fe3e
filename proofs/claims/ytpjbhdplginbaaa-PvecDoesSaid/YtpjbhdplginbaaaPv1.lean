/- Package pvec: levels, way; with; joined. -/
import Derived.Test.YtpjbhdplginbaaaPvecPure
import Derived.Test.YtpjbhdplginbaaaShelf
import Derived.Handy
import Derived.Deep.QuietTactic
import Derived.BigQuiet
import Derived.Deep.Cut
import Derived.Lib.MinMax
namespace Go.Proofs.Ytpjbhdplginbaaa
open Go.RowKit
set_option maxRecDepth 1000000
set_option linter.unusedSimpArgs false

set_option maxHeartbeats 1000000 in
theorem pv_levels (m : Nat) (h32 : m % 32 = 0) (hm : m ≤ 1048576) (w : World) : Calls Try.prog 34 #[.int .i64 (m : Int)] w fun e w' => e = .returned (.int .i64 (levN m : Nat)) ∧ w' = w := by
  by_cases h0 : m = 0
  · subst h0
    go_enter Try.func34, Try.ntmps34
    go_wp2
    go_ret
    exact ⟨rfl, rfl⟩
  · have h0' : ((m : Int) == 0) = false := beq_eq_false_iff_ne.2 (by omega)
    obtain ⟨hb, hb2⟩ := bl_lev (by omega) h32 hm
    have e1 : ((m : Int) - 1).toNat = m - 1 := by omega
    have HL := Lib.hid (Try.bits_Len ((m : Int) - 1) w (by omega) (by omega))
    rw [e1] at HL
    obtain ⟨L, hL⟩ : ∃ L, L = Lib.bitLen (m - 1) := ⟨_, rfl⟩
    rw [← hL] at HL hb hb2
    have HB := Lib.hid hb
    have h1 : (1 : Int) ≤ m := by omega
    clear hb hL e1 h0
    go_enter Try.func34, Try.ntmps34
    go_wp2_with (go_at_call 41; refine HL.out.mono ?_; rintro e w1 ⟨rfl, rfl⟩)
    go_ret
    exact ⟨congrArg (fun x => Ending.returned (.int .i64 x)) (by have := HB.out; omega), rfl⟩
set_option maxHeartbeats 1000000 in
theorem pv_way (h i : Nat) (hh : h ≤ 4) (w : World) : Calls Try.prog 39 #[.int .i64 ((h + 1 : Nat) : Int), .int .i64 (i : Int)] w fun e w' => e = .returned (.int .i64 ((i / 32 ^ h % 32 : Nat) : Int)) ∧ w' = w := by
  have h1 : (h : Int) ≤ 4 := by omega
  go_enter Try.func39, Try.ntmps39
  go_wp2_with fail
  go_ret
  refine ⟨congrArg (fun x => Ending.returned (.int .i64 x)) ?_, rfl⟩
  have e : ((2 : Int) ^ (5 * h)) = ((32 ^ h : Nat) : Int) := by rw [Int.pow_mul]; simp
  show ((i : Int) / 2 ^ (5 * h)).tmod 32 = _
  rw [e, Int.tmod_eq_emod_of_nonneg (Int.ediv_nonneg (Int.natCast_nonneg _) (Int.natCast_nonneg _))]
  simp
set_option maxHeartbeats 1000000 in
theorem pv_with_int (w : World) (v : Value) (f : Nat → Int) (n i : Nat) (x : Int) (hv : PlacesAt w 1 v (fi f) n) (hn : n ≤ 4096) (hi : i ≤ n) :
    Calls Try.prog 37 #[v, .int .i64 (i : Int), .int .i64 x] w fun e w' => ∃ m, m = max n (i + 1) ∧ e = .returned (.slice (some ⟨w.heap.size, 0, none⟩) m m) ∧
      RunAt (fun b => w.heap.size ≤ b) w' 3 1 (.slice (some ⟨w.heap.size, 0, none⟩) m m) (fi (upd f i x)) m ∧ Below w.heap.size w w' := by
  obtain ⟨k, hk, hz, h1, h2⟩ := info_parts int_info
  obtain ⟨m, hm⟩ : ∃ m, m = max n (i + 1) := ⟨_, rfl⟩
  have hm2 : max (n : Int) ((i : Int) + 1) = (m : Int) := by omega
  have HM := Lib.hid hm
  have HV := Lib.hid hv
  obtain ⟨a, cap, rfl, _⟩ := hv
  have hmi : (i : Int) < m := by omega
  have hi4 : (i : Int) ≤ 4096 := by omega
  have HI := Lib.hid hi
  have HN := Lib.hid hn
  clear hm hi hn
  go_enter Try.func37, Try.ntmps37
  go_wp2_with (first
    | (refine wpList_make_s _ rfl _ _ 26 rfl 3 k (.int .i64 0) 1 Try.underlying26 hk hz h1 .i64 .i64 m rfl rfl (by rw [h2]; have := HM.out; have := HN.out; have := HI.out; omega) (by have := HM.out; have := HN.out; have := HI.out; omega) ?_)
    | (refine wpList_copy_s rfl _ _ 26 26 rfl 3 Try.underlying26 1 int_size w.heap.size m m rfl _ rfl (fi f) n (HV.out.later (Below.newly' _ _)) (by have := HM.out; omega) 3 _ (heap_alloc_last _ _) (by rw [size_madeCells]; have := HM.out; omega) (fun _ _ => rfl) ?_; intro w2 c2 hg2 hs2 hc2 k2; have HG2 := Lib.hid hg2; have HS2 := Lib.hid hs2; have HC2 := Lib.hid hc2; have HK2 := Lib.hid k2; clear hg2 hs2 hc2 k2)
    | (refine st_cell rfl 3 _ _ rfl w.heap.size i (.int .i64 x) rfl rfl rfl 3 c2 HG2.out int_size (by rw [HS2.out, size_madeCells]; have := HM.out; omega) ?_; intro w3 h3 k3))
  go_ret
  have hm := HM.out
  have hi := HI.out
  refine ⟨m, hm, rfl, .inr ⟨by omega, w.heap.size, m, _, (0, 0), rfl, Nat.le_refl _, Nat.le_refl _, h3, fun j hj => ?_⟩, ((Below.newly' _ _).trans (HK2.out.below (by omega))).trans (k3.below (by omega))⟩
  rw [Array.getElem?_setIfInBounds]
  have hs := HS2.out
  rw [size_madeCells] at hs
  by_cases e : i = j
  · subst e
    rw [if_pos rfl, if_pos (by omega)]
    simp [fi, upd]
  · rw [if_neg e, HC2.out j, if_pos (by omega)]
    simp [fi, upd, show ¬ j = i from fun h => e h.symm]
/-- One element of a list of nodes is another one. -/
def updN (F : Nat → Value) (i : Nat) (p q : Value) : Nat → Value := fun j => if j = 2 * i then p else if j = 2 * i + 1 then q else F j
theorem node_info : (Try.prog.info? 28).map (fun i => (i.zero, i.size, i.bytes)) = some (some (.agg #[.slice none 0 0, .slice none 0 0]), 2, 48) := by kernel_rfl
theorem node_size : (Try.prog.info? 28).map (·.size) = some 2 := by kernel_rfl
set_option maxHeartbeats 1000000 in
theorem pv_with_node (w : World) (v : Value) (F : Nat → Value) (n i : Nat) (p q : Value) (hv : PlacesAt w 2 v F n) (hF : ∀ j, j < n * 2 → (F j).oneCell' = true) (hp : p.oneCell' = true) (hq : q.oneCell' = true) (hn : n ≤ 4096) (hi : i ≤ n) :
    Calls Try.prog 42 #[v, .int .i64 (i : Int), .agg #[p, q]] w fun e w' => ∃ m v', m = max n (i + 1) ∧ e = .returned v' ∧
      RunAt (fun b => w.heap.size ≤ b) w' 28 2 v' (updN F i p q) m ∧ Below w.heap.size w w' := by
  obtain ⟨k, hk, hz, h1, h2⟩ := info_parts node_info
  obtain ⟨m, hm⟩ : ∃ m, m = max n (i + 1) := ⟨_, rfl⟩
  have hm2 : max (n : Int) ((i : Int) + 1) = (m : Int) := by omega
  have HM := Lib.hid hm
  have HV := Lib.hid hv
  have HF := Lib.hid hF
  have HPQ : Hid ((#[p, q] : Array Value).all (·.oneCell') = true) := by show _ = _; simp [hp, hq]
  obtain ⟨a, cap, rfl, _⟩ := hv
  have hmi : (i : Int) < m := by omega
  have hi4 : (i : Int) ≤ 4096 := by omega
  have HI := Lib.hid hi
  have HN := Lib.hid hn
  obtain ⟨w1, hw1⟩ : ∃ w1, w.alloc (.cells #[p, q] 28) = w1 := ⟨_, rfl⟩
  have hb1 : Below w.heap.size w w1 := by rw [← hw1]; exact Below.newly' _ _
  have hx1 : w1.heap[w.heap.size]? = some (.cells #[p, q] 28 (0, 0)) := by rw [← hw1]; exact heap_alloc_last _ _
  have HS1 : Hid (w1.heap.size = w.heap.size + 1) := by show _ = _; rw [← hw1]; simp
  have HX1 := Lib.hid hx1
  have HB1 := Lib.hid hb1
  clear hm hi hn hF hp hq hx1 hb1
  go_enter Try.func42, Try.ntmps42
  go_upto_region 1 with fail
  clear hw1
  go_wp2_with (first
    | (refine wpList_make_s _ rfl _ _ 25 rfl 28 k (.agg #[.slice none 0 0, .slice none 0 0]) 2 Try.underlying25 hk hz h1 .i64 .i64 m rfl rfl (by rw [h2]; have := HM.out; have := HN.out; have := HI.out; omega) (by have := HM.out; have := HN.out; have := HI.out; omega) ?_)
    | (refine wpList_copy_s rfl _ _ 25 25 rfl 28 Try.underlying25 2 node_size w1.heap.size m m rfl _ rfl F n ((HV.out.later HB1.out).later (Below.newly' _ _)) (by have := HM.out; omega) 28 _ (heap_alloc_last _ _) (by rw [size_madeCells]; have := HM.out; omega) HF.out ?_; intro w2 c2 hg2 hs2 hc2 k2; have HG2 := Lib.hid hg2; have HS2 := Lib.hid hs2; have HC2 := Lib.hid hc2; have HX2 := Lib.hid (k2.other (((Below.newly' w1 _).block _ (by have := HS1.out; omega)).trans HX1.out) (by have := HS1.out; omega)); have HK2 := Lib.hid k2; clear hg2 hs2 hc2 k2)
    | (refine ld_if rfl 28 _ rfl w.heap.size rfl 28 _ _ _ HX2.out Try.underlying28 rfl node_size ?_)
    | (refine wpList_store_s rfl 28 _ _ rfl w1.heap.size (i * 2) rfl #[p, q] rfl 28 c2 HG2.out node_size (by rw [HS2.out, size_madeCells]; have := HM.out; simp; omega) HPQ.out ?_; intro w3 c3 h3 hs3 hc3 k3))
  go_ret
  have hm := HM.out
  have hi := HI.out
  have hs := HS2.out
  have hsz := HS1.out
  rw [size_madeCells] at hs
  refine ⟨m, _, hm, rfl, .inr ⟨by omega, w1.heap.size, m, _, (0, 0), rfl, Nat.le_refl _, by omega, h3, fun j hj => ?_⟩, (HB1.out.trans ((Below.newly' _ _).mono (by omega))).trans ((HK2.out.below (by omega)).trans (k3.below (by omega)))⟩
  rw [hc3 j]
  unfold updN
  by_cases e1 : j = 2 * i
  · subst e1
    rw [if_pos (by simp; omega), if_pos rfl, show 2 * i - i * 2 = 0 by omega]
    rfl
  · by_cases e2 : j = 2 * i + 1
    · subst e2
      rw [if_pos (by simp; omega), if_neg (by omega), if_pos rfl, show 2 * i + 1 - i * 2 = 1 by omega]
      rfl
    · rw [if_neg (by simp; omega), if_neg e1, if_neg e2, HC2.out j, if_pos (by omega)]
set_option maxHeartbeats 4000000 in
theorem pv_joined (w : World) (B : Nat) (ls : List (Value × List Int)) (hcells : ∀ k (hk : k < ls.length), w.cell? ⟨B, k, none⟩ = some ls[k].1) (hseg : ∀ k (hk : k < ls.length), SegAt w ls[k].1 ls[k].2)
    (hn : (catL ls ls.length).length ≤ 4096) (h0 : 0 < (catL ls ls.length).length) (hl : ls.length ≤ 100) :
    Calls Try.prog 33 #[.slice (some ⟨B, 0, none⟩) ls.length ls.length] w fun e w' => ∃ v, e = .returned v ∧ RunAt (fun b => w.heap.size ≤ b) w' 3 1 v (fi fun i => (catL ls ls.length).getD i 0) (catL ls ls.length).length ∧ Below w.heap.size w w' := by
  obtain ⟨i, hi, hz, h1, h2⟩ := info_parts int_info
  have HS := Lib.hid hseg
  have HC := Lib.hid hcells
  clear hseg hcells
  go_enter Try.func33, Try.ntmps33
  go_wp2_with fail
  go_loopw [3, 12] (fun n i wr => ∃ k : Nat, k ≤ ls.length ∧ i = .int .i64 k ∧ n = .int .i64 ((catL ls k).length : Nat) ∧ w = wr) (fun _ i _ => ls.length - (intOf i).toNat)
  case atStart => exact ⟨0, Nat.zero_le _, rfl, rfl, rfl⟩
  case round =>
    obtain ⟨k, hk, rfl, rfl, rfl⟩ := hrel
    by_cases hlt : k < ls.length
    · have hc := HC.out k hlt
      obtain ⟨a, cap, ha, _⟩ := HS.out k hlt
      have hle := cat_le (ls := ls) (k + 1) hlt (Nat.le_refl _)
      have hle' : ((catL ls (k + 1)).length : Int) ≤ 4096 := by omega
      have hs := cat_succ hlt
      have hsl : ((catL ls (k + 1)).length : Int) = (catL ls k).length + ls[k].2.length := by rw [hs, List.length_append]; omega
      rw [hsl] at hle'
      have HSL := Lib.hid hsl
      rw [ha] at hc
      clear hs hsl
      go_wp2_with fail
      go_roundw
      case rel => exact ⟨k + 1, by omega, by simp, by rw [HSL.out], trivial⟩
      case measure => simp [intOf]; omega
    · obtain rfl : k = ls.length := by omega
      obtain ⟨N, hN⟩ : ∃ N, N = (catL ls ls.length).length := ⟨_, rfl⟩
      have HN := Lib.hid hN
      have HM := Lib.hid hn
      have HP := Lib.hid h0
      rw [← hN]
      have hN4 : (N : Int) ≤ 4096 := by omega
      clear hN hn h0
      go_wp2_with (refine wpList_make_row _ rfl _ _ 26 rfl 3 i (.int .i64 0) Try.underlying26 hi hz h1 rfl .i64 .i64 N rfl rfl (by rw [h2]; have := HM.out; have := HN.out; omega) (by have := HM.out; have := HN.out; omega) ?_)
      go_loopw [7, 25] (fun at_ i v => ∃ k : Nat, k ≤ ls.length ∧ i = .int .i64 k ∧ at_ = .int .i64 ((catL ls k).length : Nat) ∧ Hid (v.heap[w.heap.size]? = some (.cells (midL ls k N).toArray 3 (0, 0))) ∧ Below w.heap.size w v) (fun _ i _ => ls.length - (intOf i).toNat)
      case atStart =>
        refine ⟨0, Nat.zero_le _, rfl, rfl, ?_, Below.newly' _ _⟩
        show _ = _
        rw [show midL ls 0 N = (madeCells #[.int .i64 0] N).toList by rw [toList_madeCells_one]; simp [midL, catL, iv]]
        exact heap_alloc_last _ _
      case round =>
        obtain ⟨k, hk, rfl, rfl, hg, hb⟩ := hrel
        have HB := Lib.hid hb
        clear hb
        by_cases hlt : k < ls.length
        · have hc := (HB.out.cell (p := ⟨B, k, none⟩) (World.block_lt_of_cell? _ _ (HC.out k hlt))).trans (HC.out k hlt)
          obtain ⟨a, cap, ha, hs2⟩ := (HS.out k hlt).later HB.out
          have HS2 := Lib.hid hs2
          have hle := cat_le (ls := ls) (k + 1) hlt (Nat.le_refl _)
          rw [← HN.out] at hle
          have hs := cat_succ hlt
          have hsl : ((catL ls (k + 1)).length : Int) = (catL ls k).length + ls[k].2.length := by rw [hs, List.length_append]; omega
          have hle' : ((catL ls (k + 1)).length : Int) ≤ N := by omega
          rw [hsl] at hle'
          have HSL := Lib.hid hsl
          rw [ha] at hc
          clear hs hsl hs2
          by_cases hE : N = (catL ls k).length
          · subst hE
            have hz2 : ls[k].2.length = 0 := by omega
            have hz3 : ls[k].2 = [] := List.eq_nil_of_length_eq_zero hz2
            have HZ := Lib.hid hz3
            have HZ2 := Lib.hid hz2
            clear hz2 hz3
            go_wp2_with (refine wpList_copy_nothing rfl _ _ 26 26 rfl 3 Try.underlying26 int_size (some ⟨w.heap.size, 0, none⟩) a 0 0 ls[k].2.length cap rfl rfl (Nat.min_zero _) ?_)
            go_roundw
            case rel => exact ⟨k + 1, by omega, by simp, by rw [HSL.out, HZ.out]; simp, by unfold midL; rw [cat_succ hlt, HZ.out, List.append_nil]; exact hg, HB.out⟩
            case measure => simp [intOf]; omega
          · go_wp2_with (refine wpList_copy_splice rfl _ _ 26 26 rfl 3 Try.underlying26 int_size (some ⟨w.heap.size, (catL ls k).length, none⟩) a (N - (catL ls k).length) (N - (catL ls k).length) ls[k].2.length cap rfl rfl w.heap.size (catL ls k).length (midL ls k N) 3 hg.out (iv ls[k].2) (by rw [iv_len]; exact (Nat.min_eq_left (by omega)).symm) (fun h => by rw [iv_len] at h; exact ⟨rfl, HS2.out h⟩) (by rw [iv_len, mid_len (by omega)]; omega) iv_one w.heap.size w HB.out (Nat.le_refl _) ?_; intro w2 h2 b2; rw [mid_succ hlt hle] at h2; have HB2 := Lib.hid b2; clear b2)
            go_roundw
            case rel => exact ⟨k + 1, by omega, by simp, by rw [HSL.out, iv_len, wr64 (by omega) (by omega)], h2, HB2.out⟩
            case measure => simp [intOf]; omega
        · obtain rfl : k = ls.length := by omega
          go_wp2_with fail
          go_ret
          have hN := HN.out
          have hm : midL ls ls.length N = iv (catL ls ls.length) := by unfold midL; rw [← hN, Nat.sub_self]; simp
          refine ⟨_, rfl, .inr ⟨by have := HP.out; omega, w.heap.size, N, _, (0, 0), by rw [hN]; rfl, by omega, Nat.le_refl _, hg.out, fun j hj => ?_⟩, HB.out⟩
          rw [hm]
          simpa [fi] using iv_at _ j (by omega)
end Go.Proofs.Ytpjbhdplginbaaa
