/- Law LexMany. (written by tools/gen13/law13.py) -/
import Derived.Test.YtgdlkaoadlipmaaDoorLaw13N
import Derived.Test.YtgdlkaoadlipmaaDoorPkC
import Derived.Handy
import Derived.Deep.OwnRows
import Derived.Laws.OwnMore
import Derived.Deep.Cut
namespace Go.Proofs.YtgdlkaoadlipmaaDoor
open Go.RowKit
set_option maxRecDepth 1000000
set_option linter.unusedSimpArgs false

/-- A text of blanks. -/
def blB (k : Nat) : ByteArray := ⟨(List.replicate k 32).toArray⟩
theorem blB_size (k : Nat) : (blB k).size = k := by show (List.toArray _).size = k; rw [List.size_toArray, List.length_replicate]
theorem blB_blk (k : Nat) : ∀ i (h : i < (blB k).size), blkS (blB k)[i] = true := fun i h => by
  have e : (blB k)[i] = 32 := by
    show (List.replicate k (32 : UInt8)).toArray[i]'h = 32
    simp
  rw [e]; decide
theorem u8_size13 : (Tryd.prog.info? 5).map (·.size) = some 1 := by kernel_rfl
theorem blB_str (W : World) (X k c : Nat) (h : ∀ j, j < k → W.cell? ⟨X, j, none⟩ = some (.int .u8 32)) : (convert 45 9 (.slice (some ⟨X, 0, none⟩) k c)).run Tryd.prog W = .ok (.string (blB k)) W := by
  have := run_convert_bytes_back (P := Tryd.prog) W 45 9 5 ⟨X, 0, none⟩ c (List.replicate k 32) Tryd.underlying45 Tryd.underlying5 Tryd.underlying9 (fun j hj => by
    rw [List.length_replicate] at hj
    rw [List.getElem_replicate, show (⟨X, 0, none⟩ : Addr).add j = ⟨X, j, none⟩ by unfold Addr.add; split <;> simp_all]
    exact h j hj)
  rw [List.length_replicate] at this
  exact this
theorem bytes_cut (ad : Addr) (n c k : Nat) (h1 : k ≤ c) (w : World) : (Instr.slice 45 (.slice (some ad) n c) none (some (.int .i64 (k : Int))) none).run Tryd.prog w = .ok (.slice (some ad) k c) w := by
  have hu : Tryd.prog.underlying 45 = some (.slice (Tryd.prog.elem 45)) := by kernel_rfl
  have hs : (sizeOf (Tryd.prog.elem 45)).run Tryd.prog w = .ok 1 w := by
    have e : Tryd.prog.elem 45 = 5 := by kernel_rfl
    rw [e]
    obtain ⟨i, hi, _, h1, _⟩ := info_parts u8_info
    simp [sizeOf, typeInfo, hi, h1]
  rw [run_slice_h w _ _ _ _ hu _ _ (by omega) (by omega), hs]
  have e0 : ad.add 0 = ad := by unfold Addr.add; simp
  simp only [Result.andThen_ok, sliced, Int.toNat_natCast, Nat.sub_zero, Nat.zero_mul, Option.map_some, e0, ite_self]
set_option maxHeartbeats 2000000 in
theorem lexMany_walk (m : Int) (hm : (Lit.int .u8 m).wf = true) (w : World) (hT : T13 w) :
    Calls Tryd.prog 7 #[.int .u8 m] w fun e w' => e = .returned (.bool true) ∧ Below w.heap.size w w' := by
  have HLV := Lib.hid (fun W (hb : Below w.heap.size w W) => lw_live13 W (hT.below hb))
  have HT := Lib.hid hT
  have HW : Hid (Below w.heap.size w w) := Below.refl _ _
  clear hT
  obtain ⟨hm0, hm1⟩ : 0 ≤ m ∧ m ≤ 255 := by
    have h2 := Bool.and_eq_true_iff.1 (show (decide (IntKind.u8.min ≤ m) && decide (m ≤ IntKind.u8.max)) = true from hm)
    exact ⟨of_decide_eq_true h2.1, of_decide_eq_true h2.2⟩
  obtain ⟨n, hn⟩ : ∃ n : Nat, 1048577 + m = (n : Int) := ⟨(1048577 + m).toNat, by omega⟩
  have hn1 : 1048576 < n := by omega
  have hn2 : n ≤ 1048832 := by omega
  have hn3 : (n : Int) ≤ 1048832 := by omega
  obtain ⟨i8, hi8, hz8, hs8, hb8⟩ := info_parts u8_info
  have HI := Lib.hid (And.intro hi8 (And.intro hz8 (And.intro hs8 hb8)))
  have HN1 := Lib.hid (And.intro hn1 hn2)
  clear hm hi8 hz8 hs8 hb8 hn1 hn2
  go_enter Tryd.func7, Tryd.ntmps7
  go_upto_region 4 with (first
    | (go_at_call 8; (with_reducible refine (HLV.out _ HW.out).mono ?_); rintro r V ⟨rfl, hb⟩; replace HW := Lib.hid (HW.out.trans (hb.mono HW.out.size)); clear hb)
    | (refine wpList_make_row _ rfl _ _ 45 rfl 5 i8 (.int .u8 0) Tryd.underlying45 HI.out.1 HI.out.2.1 HI.out.2.2.1 rfl .i64 .i64 n rfl rfl (by rw [HI.out.2.2.2]; have := HN1.out; omega) (by have := HN1.out; omega) ?_))
  have HTV := Lib.hid (HT.out.below HW.out)
  have HWX := Lib.hid HW.out
  obtain ⟨X, hX⟩ : ∃ X, X = V.heap.size := ⟨_, rfl⟩
  obtain ⟨w3, hw3⟩ : ∃ w3, w3 = V.alloc (.cells (madeCells #[.int .u8 0] n) 5) := ⟨_, rfl⟩
  have hb3 : Below V.heap.size V w3 := by rw [hw3]; exact Below.newly' _ _
  have h3 : w3.heap[X]? = some (.cells (madeCells #[.int .u8 0] n) 5 (0, 0)) := by rw [hw3, hX]; exact heap_alloc_last _ _
  rw [← hw3, ← hX]
  have HB3 := Lib.hid hb3
  have H3 := Lib.hid h3
  have HX := Lib.hid hX
  replace HW := Lib.hid (HW.out.trans (hb3.mono HW.out.size))
  clear hw3 hb3 h3 hX hn
  go_wp2_with fail
  go_loopw [4, 17] (fun x i W => ∃ (j : Nat) (cur : Array Value), j ≤ n ∧ i = .int .i64 (j : Int) ∧ W.heap[X]? = some (.cells cur 5 (0, 0)) ∧ cur.size = n ∧ (∀ q, q < j → cur[q]? = some (.int .u8 32)) ∧ Below V.heap.size V W) (fun _ i _ => n - (intOf i).toNat)
  case atStart => exact ⟨0, _, Nat.zero_le _, rfl, H3.out, size_madeCells _ _, fun q h => absurd h (Nat.not_lt_zero _), HB3.out⟩
  case round =>
    obtain ⟨j, cur, hj, rfl, hcur, hsz, hq, hbj⟩ := hrel
    have HBJ := Lib.hid hbj
    have HC := Lib.hid hcur
    have HSZ := Lib.hid hsz
    have HQ := Lib.hid hq
    clear hbj hcur hsz hq
    by_cases hlt : j < n
    case pos =>
      have hlt' : (j : Int) < (n : Int) := by omega
      have i0 : (0 : Int) ≤ (j : Int) := by omega
      have HLT := Lib.hid hlt
      clear hlt
      go_wp2_with (refine st_cell rfl 5 _ _ rfl X j _ rfl rfl rfl 5 cur HC.out u8_size13 (by rw [HSZ.out]; exact HLT.out) ?_; intro w8 h8 k8; have HC8 := Lib.hid h8; have HB8 := Lib.hid (HBJ.out.trans (k8.below (Nat.le_of_eq HX.out.symm))); clear h8 k8)
      go_roundw
      case rel =>
        refine ⟨j + 1, _, by have := HLT.out; omega, by go_num, HC8.out, by rw [Array.size_setIfInBounds]; exact HSZ.out, fun q h => ?_, HB8.out⟩
        rw [Array.getElem?_setIfInBounds]
        by_cases e : j = q
        · rw [if_pos e, if_pos (by rw [HSZ.out]; have := HLT.out; omega)]; rfl
        · rw [if_neg e]; exact HQ.out q (by omega)
      case measure => have := HLT.out; simp [intOf]; omega
    obtain rfl : j = n := by omega
    have hcl : ∀ q, q < j → wr.cell? ⟨X, q, none⟩ = some (.int .u8 32) := fun q h => cell_in HC.out (HQ.out q h)
    have HCL := Lib.hid hcl
    have hst1 : ∀ W, Below wr.heap.size wr W → (convert 45 9 (.slice (some ⟨X, 0, none⟩) j j)).run Tryd.prog W = .ok (.string (blB j)) W := fun W hb => blB_str W X j j fun q h => (hb.cell (World.block_lt_of_cell? _ _ (HCL.out q h))).trans (HCL.out q h)
    have hst2 : ∀ W, Below wr.heap.size wr W → (convert 45 9 (.slice (some ⟨X, 0, none⟩) 1048576 j)).run Tryd.prog W = .ok (.string (blB 1048576)) W := fun W hb => blB_str W X 1048576 j fun q h => by have h1 := HCL.out q (by have := HN1.out; omega); exact (hb.cell (World.block_lt_of_cell? _ _ h1)).trans h1
    have hs1 := hst1 wr (Below.refl _ _)
    have hct : ∀ W, (Instr.slice 45 (.slice (some ⟨X, 0, none⟩) j j) none (some (.int .i64 1048576)) none).run Tryd.prog W = .ok (.slice (some ⟨X, 0, none⟩) 1048576 j) W := fun W => bytes_cut ⟨X, 0, none⟩ j j 1048576 (by have := HN1.out; omega) W
    obtain ⟨B1, hB1⟩ : ∃ B, B = blB j := ⟨_, rfl⟩
    obtain ⟨B2, hB2⟩ : ∃ B, B = blB 1048576 := ⟨_, rfl⟩
    rw [← hB1] at hs1
    rw [← hB2] at hst2
    have HS2 := Lib.hid hst2
    have HTJ : Hid (∀ W, Below wr.heap.size wr W → T13 W) := fun W hb => (HTV.out.below HBJ.out).below hb
    have HA1 := Lib.hid (fun W (hb : Below wr.heap.size wr W) => lx_All_many B1 W (by rw [hB1, blB_size]; exact HN1.out.1))
    have HA2 := Lib.hid (fun W (hb : Below wr.heap.size wr W) => lx_All_blank B2 W (by rw [hB2, blB_size]; exact Nat.le_refl _) (by rw [hB2]; exact blB_blk _))
    have HWJ : Hid (Below wr.heap.size wr wr) := Below.refl _ _
    have HWV : Hid (Below w.heap.size w wr) := HWX.out.trans (HBJ.out.mono HWX.out.size)
    clear hcl hst1 hst2 hB1 hB2 HCL HQ HC HSZ hlt hj
    go_upto_region 10 with (go_at_call 12; (with_reducible refine (HA1.out _ HWJ.out).mono ?_); rintro r V5 ⟨v5, E5, rfl, hv5, hE5, hb⟩; have HV5 := Lib.hid hv5; have HE5 := Lib.hid hE5; replace HWJ := Lib.hid (HWJ.out.trans (hb.mono HWJ.out.size)); clear hb hv5 hE5)
    have hs2 := HS2.out _ HWJ.out
    go_upto_region 11 with (go_at_call 12; (with_reducible refine (HA2.out _ HWJ.out).mono ?_); rintro r V6 ⟨v6, rfl, hv6, hb⟩; have HV6 := Lib.hid hv6; have HE6 := Lib.hid (HE5.out.later hb); replace HWJ := Lib.hid (HWJ.out.trans (hb.mono HWJ.out.size)); clear hb hv6)
    obtain ⟨a5, c5, rfl, _⟩ := HV5.out.shape
    obtain ⟨a6, c6, rfl, _⟩ := HV6.out.shape
    have HAT := Lib.hid (lw_At E5 14 0 V6 HE6.out (HTJ.out _ HWJ.out).et)
    simp only [List.length_nil]
    clear hs1 hs2 hct HV5 HV6 HE5 HE6
    go_wp2_with (go_at_call 11; (with_reducible refine HAT.out.mono ?_); rintro r V7 ⟨rfl, hb⟩; replace HWJ := Lib.hid (HWJ.out.trans (hb.mono HWJ.out.size)); clear hb)
    go_ret
    exact ⟨rfl, HWV.out.trans (HWJ.out.mono HWV.out.size)⟩
end Go.Proofs.YtgdlkaoadlipmaaDoor
