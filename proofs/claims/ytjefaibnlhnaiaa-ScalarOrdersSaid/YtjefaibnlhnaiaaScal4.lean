/- Package scalar's Unkey, and all that the laws want of the package. -/
import Derived.Test.YtjefaibnlhnaiaaScal2
import Derived.Test.YtjefaibnlhnaiaaScal3
namespace Go.Proofs.Ytjefaibnlhnaiaa
open Go.RowKit
set_option maxRecDepth 1000000

set_option maxHeartbeats 4000000 in
theorem sc_Unkey (s : ByteArray) (w : World) (hs : s.size ≤ 1000000) :
    Calls Try.prog 19 #[.string s] w fun e w' => e = .returned (unkV (unkSc s.data.toList) ⟨(unkSc s.data.toList).1.2.2.toArray⟩) ∧ Below w.heap.size w w' := by
  have HN := Lib.hid (fun c => Below.newly' w (.cells c 23))
  have te := toL_isEmpty s
  by_cases h0 : s.size = 0
  · have hl : s.data.toList = [] := by rw [List.eq_nil_iff_length_eq_zero, len_bytes]; exact h0
    rw [decide_eq_true hl] at te
    have e : Hid (unkSc s.data.toList = ((0, 0, []), 0, 10)) := by show _ = _; rw [hl]; rfl
    clear h0 hl
    go_enter Try.func19, Try.ntmps19
    go_wp2
    refine bodyPost_ret (results_cell_row2 rfl _ _ w.heap.size 23 _ (0, 0) _ rfl (heap_alloc_new w _) Try.underlying23 rfl (by kernel_rfl)) rfl ⟨?_, HN.out _⟩
    rw [e.out]; rfl
  have hpos : 0 < s.size := by omega
  have hne : ¬ s.data.toList = [] := fun h => h0 (by rw [← len_bytes, h]; rfl)
  rw [decide_eq_false hne] at te
  have HH := Lib.hid (head_bytes s hpos)
  clear hne h0
  by_cases c1 : s[0] = 1
  · have c1' : (s[0].toNat : Int) = 1 := by rw [c1]; rfl
    have e : Hid (unkSc s.data.toList = ((0, 0, []), 1, 0)) := by show _ = _; rw [HH.out, c1, unk_null]
    go_enter Try.func19, Try.ntmps19
    go_wp2
    refine bodyPost_ret (results_cell_row2 rfl _ _ w.heap.size 23 _ (0, 0) _ rfl (heap_alloc_new w _) Try.underlying23 rfl (by kernel_rfl)) rfl ⟨?_, HN.out _⟩
    rw [e.out]; rfl
  have c1' : ¬ (s[0].toNat : Int) = 1 := fun e => c1 (UInt8.toNat_inj.1 (by show s[0].toNat = 1; omega))
  by_cases c2 : s[0] = 2
  · have c2' : (s[0].toNat : Int) = 2 := by rw [c2]; rfl
    have HC := Lib.hid (fun W => sc_boolOf s W hpos c2 hs)
    have HS := Lib.hid (Bx.new 0 0 ⟨#[]⟩ w)
    obtain ⟨⟨⟨a, b, l⟩, m, ec⟩, hu⟩ : ∃ u, u = unkSc s.data.toList := ⟨_, rfl⟩
    rw [← hu] at HC ⊢
    simp only at HC ⊢
    obtain ⟨u, hul⟩ : ∃ u : ByteArray, u = ⟨l.toArray⟩ := ⟨_, rfl⟩
    rw [← hul] at HC ⊢
    clear hul hu HH hs
    go_enter Try.func19, Try.ntmps19
    go_wp2_with fail
    refine (HC.out _).mono ?_
    rintro e w2 ⟨rfl, hb⟩
    have HZ := Lib.hid (HS.out.later hb)
    have HZW := Lib.hid ((HN.out _).trans (hb.mono (by simp)))
    clear hb
    go_wp2_with (refine st_sc rfl (.tmp 2) (.tmp 17) rfl w.heap.size a b u 0 0 ⟨#[]⟩ rfl rfl HZ.out ?_; intro w3 hx3 hb3; have HX3 := Lib.hid hx3; have HF3 := Lib.hid (HZW.out.trans hb3); clear hx3 hb3)
    refine bodyPost_ret (results_cell_row2 rfl _ _ w.heap.size 23 _ (0, 0) _ rfl HX3.out Try.underlying23 rfl (by kernel_rfl)) rfl ⟨?_, HF3.out⟩
    rfl
  have c2' : ¬ (s[0].toNat : Int) = 2 := fun e => c2 (UInt8.toNat_inj.1 (by show s[0].toNat = 2; omega))
  by_cases c3 : s[0] = 3
  · have c3' : (s[0].toNat : Int) = 3 := by rw [c3]; rfl
    have HC := Lib.hid (fun W => sc_intOf s W hpos c3 hs)
    have HS := Lib.hid (Bx.new 0 0 ⟨#[]⟩ w)
    obtain ⟨⟨⟨a, b, l⟩, m, ec⟩, hu⟩ : ∃ u, u = unkSc s.data.toList := ⟨_, rfl⟩
    rw [← hu] at HC ⊢
    simp only at HC ⊢
    obtain ⟨u, hul⟩ : ∃ u : ByteArray, u = ⟨l.toArray⟩ := ⟨_, rfl⟩
    rw [← hul] at HC ⊢
    clear hul hu HH hs
    go_enter Try.func19, Try.ntmps19
    go_wp2_with fail
    refine (HC.out _).mono ?_
    rintro e w2 ⟨rfl, hb⟩
    have HZ := Lib.hid (HS.out.later hb)
    have HZW := Lib.hid ((HN.out _).trans (hb.mono (by simp)))
    clear hb
    go_wp2_with (refine st_sc rfl (.tmp 2) (.tmp 24) rfl w.heap.size a b u 0 0 ⟨#[]⟩ rfl rfl HZ.out ?_; intro w3 hx3 hb3; have HX3 := Lib.hid hx3; have HF3 := Lib.hid (HZW.out.trans hb3); clear hx3 hb3)
    refine bodyPost_ret (results_cell_row2 rfl _ _ w.heap.size 23 _ (0, 0) _ rfl HX3.out Try.underlying23 rfl (by kernel_rfl)) rfl ⟨?_, HF3.out⟩
    rfl
  have c3' : ¬ (s[0].toNat : Int) = 3 := fun e => c3 (UInt8.toNat_inj.1 (by show s[0].toNat = 3; omega))
  by_cases c4 : s[0] = 4
  · have c4' : (s[0].toNat : Int) = 4 := by rw [c4]; rfl
    have HC := Lib.hid (fun W => sc_textOf s W hpos c4 hs)
    have HS := Lib.hid (Bx.new 0 0 ⟨#[]⟩ w)
    obtain ⟨⟨⟨a, b, l⟩, m, ec⟩, hu⟩ : ∃ u, u = unkSc s.data.toList := ⟨_, rfl⟩
    rw [← hu] at HC ⊢
    simp only at HC ⊢
    obtain ⟨u, hul⟩ : ∃ u : ByteArray, u = ⟨l.toArray⟩ := ⟨_, rfl⟩
    rw [← hul] at HC ⊢
    clear hul hu HH hs
    go_enter Try.func19, Try.ntmps19
    go_wp2_with fail
    refine (HC.out _).mono ?_
    rintro e w2 ⟨rfl, hb⟩
    have HZ := Lib.hid (HS.out.later hb)
    have HZW := Lib.hid ((HN.out _).trans (hb.mono (by simp)))
    clear hb
    go_wp2_with (refine st_sc rfl (.tmp 2) (.tmp 31) rfl w.heap.size a b u 0 0 ⟨#[]⟩ rfl rfl HZ.out ?_; intro w3 hx3 hb3; have HX3 := Lib.hid hx3; have HF3 := Lib.hid (HZW.out.trans hb3); clear hx3 hb3)
    refine bodyPost_ret (results_cell_row2 rfl _ _ w.heap.size 23 _ (0, 0) _ rfl HX3.out Try.underlying23 rfl (by kernel_rfl)) rfl ⟨?_, HF3.out⟩
    rfl
  have c4' : ¬ (s[0].toNat : Int) = 4 := fun e => c4 (UInt8.toNat_inj.1 (by show s[0].toNat = 4; omega))
  have e : Hid (unkSc s.data.toList = ((0, 0, []), 0, 2)) := by
    show _ = _
    rw [HH.out]
    simp [unkSc, c1, c2, c3, c4]
  go_enter Try.func19, Try.ntmps19
  go_wp2
  refine bodyPost_ret (results_cell_row2 rfl _ _ w.heap.size 23 _ (0, 0) _ rfl (heap_alloc_new w _) Try.underlying23 rfl (by kernel_rfl)) rfl ⟨?_, HN.out _⟩
  rw [e.out]; rfl
/-- Package scalar answers as the laws want it: it leans on no table. -/
theorem sspec : SSpec (fun _ => True) where
  keep := fun _ _ => trivial
  check := fun k n t W _ _ _ _ => sc_Check k n t W
  same := fun k n t k' n' t' W _ _ _ _ _ _ _ => sc_Same k n t k' n' t' W
  order := fun k n t k' n' t' W _ _ _ _ _ _ _ => sc_Order k n t k' n' t' W
  key := fun k n t W _ _ hn ht => sc_Key k n t W hn ht
  unkey := fun s W _ hs => sc_Unkey s W hs
  hash := fun seed k n t W _ hseed _ hn ht => sc_Hash seed k n t W hseed ht (fun W => sc_Key k n t W hn ht)
end Go.Proofs.Ytjefaibnlhnaiaa
