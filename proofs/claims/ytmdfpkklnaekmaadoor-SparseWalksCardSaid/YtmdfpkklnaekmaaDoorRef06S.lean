/- Layer 6: the document's own Set, Cut and Of. -/
import Derived.Test.YtmdfpkklnaekmaaDoorRef06
namespace Go.Proofs.YtmdfpkklnaekmaaDoor
open Go.RowKit
set_option maxRecDepth 1000000

theorem row_info : (Tryd.prog.info? 31).map (·.size) = some 64 := by kernel_rfl
/-- Behind the laying of two variables of rows. -/
theorem two_laid {w w1 : World} {c z : Array Value} (hw : (w.alloc (.cells c 31)).alloc (.cells z 31) = w1) :
    w1.heap[w.heap.size]? = some (.cells c 31 (0, 0)) ∧ w1.heap[w.heap.size + 1]? = some (.cells z 31 (0, 0)) ∧ Below w.heap.size w w1 := by
  subst hw
  refine ⟨?_, ?_, Below.more (Below.newly' _ _) _⟩
  · have h := heap_alloc_last w (.cells c 31)
    exact ((Below.newly' (w.alloc (.cells c 31)) (.cells z 31)).block _ (by simp)).trans h
  · have h := heap_alloc_last (w.alloc (.cells c 31)) (.cells z 31)
    simpa using h

set_option maxHeartbeats 4000000 in
theorem ref_Set6 (R : Rw) (c : Array Value) (hc : RC R c) (i x : Int) (w : World) : Calls Tryd.prog 29 #[.agg c, .int .i64 i, .int .i64 x] w fun e w' => ∃ c', e = .returned (.agg c') ∧ RC (setR R i x) c' ∧ Below w.heap.size w w' := by
  have HO := Lib.hid (fun W => ref_On i W)
  have HC := Lib.hid hc
  clear hc
  by_cases ho : onP i = true
  · rw [ho] at HO
    obtain ⟨j, rfl, hj⟩ := on_nat ho
    have i0 : (0 : Int) ≤ (j : Int) := by omega
    have i1 : (j : Int) < 32 := by omega
    clear ho
    have HP : Hid (RC (setR R (j : Int) x) ((c.setIfInBounds j (.bool true)).setIfInBounds (32 + j) (.int .i64 x))) := by
      show RC _ _
      rw [set_on x hj]
      exact HC.out.put hj true x (some x) rfl rfl
    have HJ := Lib.hid hj
    clear hj
    go_enter Tryd.func29, Tryd.ntmps29
    go_wp2_with fail
    refine (HO.out _).mono ?_
    rintro e w1 ⟨rfl, hw⟩
    obtain ⟨hx, hy, hb⟩ := two_laid hw
    have HX := Lib.hid hx
    have HY := Lib.hid hy
    have HB := Lib.hid hb
    clear hx hy hb hw
    go_wp2_with (first
      | (refine st_cell rfl 4 (.tmp 13) _ rfl w.heap.size j (.bool true) rfl rfl rfl 31 c HX.out (by kernel_rfl) (by have h1 := HC.out.size; have h2 := HJ.out; omega) ?_; intro w2 h2 k2; have HX2 := Lib.hid h2; have HK2 := Lib.hid k2; clear h2 k2)
      | (refine st_cell rfl 3 (.tmp 15) _ rfl w.heap.size (32 + j) (.int .i64 x) rfl rfl rfl 31 _ HX2.out (by kernel_rfl) (by have h1 := HC.out.size; have h2 := HJ.out; simp; omega) ?_; intro w3 h3 k3; have HX3 := Lib.hid h3; have HK3 := Lib.hid (HK2.out.trans k3); have HY3 := Lib.hid ((HK2.out.trans k3).other HY.out (by omega)); clear h3 k3)
      | (refine wpList_load_row rfl 31 (.tmp 3) rfl w.heap.size rfl 31 _ _ _ HX3.out Tryd.underlying31 rfl (by rw [HP.out.size]; exact row_info) ?_)
      | (refine st_agg rfl 31 (.tmp 6) (.tmp 16) rfl (w.heap.size + 1) _ rfl rfl 31 _ HY3.out (by rw [HP.out.size]; exact row_info) (by rw [HP.out.size]; rfl) HP.out.one ?_; intro w4 h4 k4; have HX4 := Lib.hid h4; have HK4 := Lib.hid k4; clear h4 k4))
    refine bodyPost_ret (results_cell_row rfl _ _ (w.heap.size + 1) 31 _ (0, 0) _ rfl HX4.out Tryd.underlying31 rfl (by rw [HP.out.size]; exact row_info)) rfl ⟨_, rfl, HP.out, ?_⟩
    exact (HB.out.trans (HK3.out.below (Nat.le_refl _))).trans (HK4.out.below (by omega))
  · rw [set_off ho]
    have ho' : onP i = false := by simpa using ho
    rw [ho'] at HO
    clear ho ho'
    go_enter Tryd.func29, Tryd.ntmps29
    go_wp2_with fail
    refine (HO.out _).mono ?_
    rintro e w1 ⟨rfl, hw⟩
    obtain ⟨hx, hy, hb⟩ := two_laid hw
    have HX := Lib.hid hx
    have HY := Lib.hid hy
    have HB := Lib.hid hb
    clear hx hy hb hw
    go_wp2_with (first
      | (refine wpList_load_row rfl 31 (.tmp 3) rfl w.heap.size rfl 31 _ _ _ HX.out Tryd.underlying31 rfl (by rw [HC.out.size]; exact row_info) ?_)
      | (refine st_agg rfl 31 (.tmp 6) (.tmp 16) rfl (w.heap.size + 1) _ rfl rfl 31 _ HY.out (by rw [HC.out.size]; exact row_info) (by rw [HC.out.size]; rfl) HC.out.one ?_; intro w4 h4 k4; have HX4 := Lib.hid h4; have HK4 := Lib.hid k4; clear h4 k4))
    refine bodyPost_ret (results_cell_row rfl _ _ (w.heap.size + 1) 31 _ (0, 0) _ rfl HX4.out Tryd.underlying31 rfl (by rw [HC.out.size]; exact row_info)) rfl ⟨_, rfl, HC.out, ?_⟩
    exact HB.out.trans (HK4.out.below (by omega))
set_option maxHeartbeats 4000000 in
theorem ref_Cut6 (R : Rw) (c : Array Value) (hc : RC R c) (i : Int) (w : World) : Calls Tryd.prog 28 #[.agg c, .int .i64 i] w fun e w' => ∃ c', e = .returned (.agg c') ∧ RC (cutR R i) c' ∧ Below w.heap.size w w' := by
  have HO := Lib.hid (fun W => ref_On i W)
  have HC := Lib.hid hc
  clear hc
  by_cases ho : onP i = true
  · rw [ho] at HO
    obtain ⟨j, rfl, hj⟩ := on_nat ho
    have i0 : (0 : Int) ≤ (j : Int) := by omega
    have i1 : (j : Int) < 32 := by omega
    clear ho
    have HP : Hid (RC (cutR R (j : Int)) ((c.setIfInBounds j (.bool false)).setIfInBounds (32 + j) (.int .i64 0))) := by
      show RC _ _
      rw [cut_on hj]
      exact HC.out.put hj false 0 none rfl rfl
    have HJ := Lib.hid hj
    clear hj
    go_enter Tryd.func28, Tryd.ntmps28
    go_wp2_with fail
    refine (HO.out _).mono ?_
    rintro e w1 ⟨rfl, hw⟩
    obtain ⟨hx, hy, hb⟩ := two_laid hw
    have HX := Lib.hid hx
    have HY := Lib.hid hy
    have HB := Lib.hid hb
    clear hx hy hb hw
    go_wp2_with (first
      | (refine st_cell rfl 4 (.tmp 10) _ rfl w.heap.size j (.bool false) rfl rfl rfl 31 c HX.out (by kernel_rfl) (by have h1 := HC.out.size; have h2 := HJ.out; omega) ?_; intro w2 h2 k2; have HX2 := Lib.hid h2; have HK2 := Lib.hid k2; clear h2 k2)
      | (refine st_cell rfl 3 (.tmp 12) _ rfl w.heap.size (32 + j) (.int .i64 0) rfl rfl rfl 31 _ HX2.out (by kernel_rfl) (by have h1 := HC.out.size; have h2 := HJ.out; simp; omega) ?_; intro w3 h3 k3; have HX3 := Lib.hid h3; have HK3 := Lib.hid (HK2.out.trans k3); have HY3 := Lib.hid ((HK2.out.trans k3).other HY.out (by omega)); clear h3 k3)
      | (refine wpList_load_row rfl 31 (.tmp 2) rfl w.heap.size rfl 31 _ _ _ HX3.out Tryd.underlying31 rfl (by rw [HP.out.size]; exact row_info) ?_)
      | (refine st_agg rfl 31 (.tmp 4) (.tmp 13) rfl (w.heap.size + 1) _ rfl rfl 31 _ HY3.out (by rw [HP.out.size]; exact row_info) (by rw [HP.out.size]; rfl) HP.out.one ?_; intro w4 h4 k4; have HX4 := Lib.hid h4; have HK4 := Lib.hid k4; clear h4 k4))
    refine bodyPost_ret (results_cell_row rfl _ _ (w.heap.size + 1) 31 _ (0, 0) _ rfl HX4.out Tryd.underlying31 rfl (by rw [HP.out.size]; exact row_info)) rfl ⟨_, rfl, HP.out, ?_⟩
    exact (HB.out.trans (HK3.out.below (Nat.le_refl _))).trans (HK4.out.below (by omega))
  · rw [cut_off ho]
    have ho' : onP i = false := by simpa using ho
    rw [ho'] at HO
    clear ho ho'
    go_enter Tryd.func28, Tryd.ntmps28
    go_wp2_with fail
    refine (HO.out _).mono ?_
    rintro e w1 ⟨rfl, hw⟩
    obtain ⟨hx, hy, hb⟩ := two_laid hw
    have HX := Lib.hid hx
    have HY := Lib.hid hy
    have HB := Lib.hid hb
    clear hx hy hb hw
    go_wp2_with (first
      | (refine wpList_load_row rfl 31 (.tmp 2) rfl w.heap.size rfl 31 _ _ _ HX.out Tryd.underlying31 rfl (by rw [HC.out.size]; exact row_info) ?_)
      | (refine st_agg rfl 31 (.tmp 4) (.tmp 13) rfl (w.heap.size + 1) _ rfl rfl 31 _ HY.out (by rw [HC.out.size]; exact row_info) (by rw [HC.out.size]; rfl) HC.out.one ?_; intro w4 h4 k4; have HX4 := Lib.hid h4; have HK4 := Lib.hid k4; clear h4 k4))
    refine bodyPost_ret (results_cell_row rfl _ _ (w.heap.size + 1) 31 _ (0, 0) _ rfl HX4.out Tryd.underlying31 rfl (by rw [HC.out.size]; exact row_info)) rfl ⟨_, rfl, HC.out, ?_⟩
    exact HB.out.trans (HK4.out.below (by omega))
end Go.Proofs.YtmdfpkklnaekmaaDoor
