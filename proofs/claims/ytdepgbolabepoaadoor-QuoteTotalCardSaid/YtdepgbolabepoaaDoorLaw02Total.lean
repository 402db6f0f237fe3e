/- Layer 2: the walk of its order's law: it returns true, where the package's functions answer as QSpec says. -/
import Derived.Test.YtdepgbolabepoaaDoorLaw02Walks
import Derived.Deep.QuietTactic
import Derived.BigQuiet
namespace Go.Proofs.YtdepgbolabepoaaDoor
open Go.RowKit

section
variable {T : World → Prop}

theorem cut_eq (a b : ByteArray) (k : Nat) (h : a.data.toList.take k = b.data.toList.take k) : ((a.extract 0 k).toList == (b.extract 0 k).toList) = true := by
  rw [ByteArray.toList_eq, ByteArray.toList_eq, ByteArray.data_extract, ByteArray.data_extract, beq_iff_eq]
  simpa using h
theorem eq_not (a b : ByteArray) (h : ¬ a.data.toList = b.data.toList) : (a.toList == b.toList) = false := by
  rw [ByteArray.toList_eq, ByteArray.toList_eq]; exact beq_eq_false_iff_ne.2 h
theorem eq_yes (a b : ByteArray) (h : a.data.toList = b.data.toList) : (a.toList == b.toList) = true := by
  rw [ByteArray.toList_eq, ByteArray.toList_eq]; exact beq_iff_eq.2 h

set_option maxRecDepth 100000 in
set_option maxHeartbeats 4000000 in
theorem quoteTotal_walk (H : QSpec T) (a b c : ByteArray) (w : World) (hT : T w) : Calls Tryd.prog 4 #[.string a, .string b, .string c] w fun e w' => e = .returned (.bool true) ∧ Below w.heap.size w w' := by
  have HH := Lib.hid H
  have HT := Lib.hid hT
  have HW := Lib.hid (Below.refl w.heap.size w)
  clear H hT
  rcases Nat.lt_or_ge 2000 a.size with ha | ha
  · have ga : (2000 : Int) < a.size := by omega
    clear ha
    go_enter Tryd.func4, Tryd.ntmps4
    go_wp2_with fail
    refine (live_any HH.out _ (HH.out.keep HT.out HW.out)).mono ?_; rintro e w1 ⟨rfl, hb⟩; replace HW := Lib.hid (Below.after HW.out hb); clear hb
    go_wp2_with fail
    refine (live_any HH.out _ (HH.out.keep HT.out HW.out)).mono ?_; rintro e w1 ⟨rfl, hb⟩; replace HW := Lib.hid (Below.after HW.out hb); clear hb
    go_wp2_with fail
    go_ret
    exact ⟨rfl, HW.out⟩
  have ga : ¬ (2000 : Int) < a.size := by omega
  rcases Nat.lt_or_ge 2000 b.size with hb | hb
  · have gb : (2000 : Int) < b.size := by omega
    clear hb
    go_enter Tryd.func4, Tryd.ntmps4
    go_wp2_with fail
    refine (live_any HH.out _ (HH.out.keep HT.out HW.out)).mono ?_; rintro e w1 ⟨rfl, hb⟩; replace HW := Lib.hid (Below.after HW.out hb); clear hb
    go_wp2_with fail
    refine (live_any HH.out _ (HH.out.keep HT.out HW.out)).mono ?_; rintro e w1 ⟨rfl, hb⟩; replace HW := Lib.hid (Below.after HW.out hb); clear hb
    go_wp2_with fail
    go_ret
    exact ⟨rfl, HW.out⟩
  have gb : ¬ (2000 : Int) < b.size := by omega
  rcases Nat.lt_or_ge 2000 c.size with hc | hc
  · have gc : (2000 : Int) < c.size := by omega
    clear hc
    go_enter Tryd.func4, Tryd.ntmps4
    go_wp2_with fail
    refine (live_any HH.out _ (HH.out.keep HT.out HW.out)).mono ?_; rintro e w1 ⟨rfl, hb⟩; replace HW := Lib.hid (Below.after HW.out hb); clear hb
    go_wp2_with fail
    refine (live_any HH.out _ (HH.out.keep HT.out HW.out)).mono ?_; rintro e w1 ⟨rfl, hb⟩; replace HW := Lib.hid (Below.after HW.out hb); clear hb
    go_wp2_with fail
    go_ret
    exact ⟨rfl, HW.out⟩
  have gc : ¬ (2000 : Int) < c.size := by omega
  have Ha := Lib.hid ha
  clear ha
  have Hb := Lib.hid hb
  clear hb
  have Hc := Lib.hid hc
  clear hc
  obtain ⟨X, hX⟩ : ∃ X, orderS a.data.toList b.data.toList = X := ⟨_, rfl⟩
  obtain ⟨Y, hY⟩ : ∃ Y, orderS b.data.toList c.data.toList = Y := ⟨_, rfl⟩
  obtain ⟨Z, hZ⟩ : ∃ Z, orderS a.data.toList c.data.toList = Z := ⟨_, rfl⟩
  obtain ⟨V, hV⟩ : ∃ V, orderS b.data.toList a.data.toList = V := ⟨_, rfl⟩
  obtain ⟨k, hk⟩ : ∃ k, commonS a.data.toList b.data.toList = k := ⟨_, rfl⟩
  have hx := orderS_range a.data.toList b.data.toList
  have hy := orderS_range b.data.toList c.data.toList
  have hz := orderS_range a.data.toList c.data.toList
  have hv := orderS_neg a.data.toList b.data.toList
  have h0 := orderS_zero a.data.toList b.data.toList
  have ht := orderS_trans a.data.toList b.data.toList c.data.toList
  obtain ⟨k1, k2, k3, -⟩ := commonS_le a.data.toList b.data.toList
  have HO1 := Lib.hid (fun w h => order_b HH.out a b w Ha.out Hb.out h)
  have HO2 := Lib.hid (fun w h => order_b HH.out b c w Hb.out Hc.out h)
  have HO3 := Lib.hid (fun w h => order_b HH.out a c w Ha.out Hc.out h)
  have HO4 := Lib.hid (fun w h => HH.out.order b a w Hb.out Ha.out h)
  have HC := Lib.hid (fun w h => HH.out.common a b w Ha.out Hb.out h)
  rw [hX] at HO1 hx hv h0 ht
  rw [hY] at HO2 hy ht
  rw [hZ] at HO3 hz ht
  rw [hV] at HO4 hv
  rw [hk] at HC k1 k2 k3
  clear hX hY hZ hV hk
  have HXY := Lib.hid (And.intro hx (And.intro hy (And.intro hz (And.intro hv (And.intro h0 ht)))))
  have HK := Lib.hid k3
  rw [len_bytes] at k1 k2
  clear hx hy hz hv h0 ht k3
  go_enter Tryd.func4, Tryd.ntmps4
  go_wp2_with fail
  refine (live_any HH.out _ (HH.out.keep HT.out HW.out)).mono ?_; rintro e w1 ⟨rfl, hb⟩; replace HW := Lib.hid (Below.after HW.out hb); clear hb
  go_wp2_with fail
  refine (HO1.out _ (HH.out.keep HT.out HW.out)).mono ?_; rintro e w1 ⟨rfl, hb⟩; replace HW := Lib.hid (Below.after HW.out hb); clear hb
  go_wp2_with fail
  refine (HO2.out _ (HH.out.keep HT.out HW.out)).mono ?_; rintro e w1 ⟨rfl, hb⟩; replace HW := Lib.hid (Below.after HW.out hb); clear hb
  go_wp2_with fail
  refine (HO3.out _ (HH.out.keep HT.out HW.out)).mono ?_; rintro e w1 ⟨rfl, hb⟩; replace HW := Lib.hid (Below.after HW.out hb); clear hb
  go_wp2_with fail
  refine (HC.out _ (HH.out.keep HT.out HW.out)).mono ?_; rintro e w1 ⟨rfl, hb⟩; replace HW := Lib.hid (Below.after HW.out hb); clear hb
  go_wp2_with fail
  simp only [List.append_eq, List.cons_append, List.nil_append]
  obtain ⟨hx, hy, hz, hv, h0, ht⟩ := HXY.out
  clear HO1 HO2 HO3 HC HXY
  have he3 := cut_eq a b k HK.out
  have hk0 : (0 : Int) ≤ (k : Int) := by omega
  have hk1 : (k : Int) ≤ (a.size : Int) := by omega
  have hk2 : (k : Int) ≤ (b.size : Int) := by omega
  have hV : V = - X := by omega
  subst hV
  rcases hx with rfl | rfl | rfl
  · have he1 := eq_not a b (fun h => absurd (h0.2 h) (by decide))
    rcases hy with rfl | rfl | rfl
    · obtain rfl : Z = -1 := by omega
      clear hz hv h0 ht
      go_quiet (first | (go_at_call_of 11 (Value.string b); exact Calls.quiet_of (HO4.out _ (HH.out.keep HT.out (Below.drewMany HW.out _)))))
      go_wp2_with fail
      go_ret
      exact ⟨rfl, Below.drewMany HW.out _⟩
    · obtain rfl : Z = -1 := by omega
      clear hz hv h0 ht
      go_quiet (first | (go_at_call_of 11 (Value.string b); exact Calls.quiet_of (HO4.out _ (HH.out.keep HT.out (Below.drewMany HW.out _)))))
      go_wp2_with fail
      go_ret
      exact ⟨rfl, Below.drewMany HW.out _⟩
    · clear hz hv h0 ht
      go_quiet (first | (go_at_call_of 11 (Value.string b); exact Calls.quiet_of (HO4.out _ (HH.out.keep HT.out (Below.drewMany HW.out _)))))
      go_wp2_with fail
      go_ret
      exact ⟨rfl, Below.drewMany HW.out _⟩
  · have he1 := eq_yes a b (h0.1 rfl)
    rcases hy with rfl | rfl | rfl
    · obtain rfl : Z = -1 := by omega
      clear hz hv h0 ht
      go_quiet (first | (go_at_call_of 11 (Value.string b); exact Calls.quiet_of (HO4.out _ (HH.out.keep HT.out (Below.drewMany HW.out _)))))
      go_wp2_with fail
      go_ret
      exact ⟨rfl, Below.drewMany HW.out _⟩
    · rcases hz with rfl | rfl | rfl
      · clear hv h0 ht
        go_quiet (first | (go_at_call_of 11 (Value.string b); exact Calls.quiet_of (HO4.out _ (HH.out.keep HT.out (Below.drewMany HW.out _)))))
        go_wp2_with fail
        go_ret
        exact ⟨rfl, Below.drewMany HW.out _⟩
      · clear hv h0 ht
        go_quiet (first | (go_at_call_of 11 (Value.string b); exact Calls.quiet_of (HO4.out _ (HH.out.keep HT.out (Below.drewMany HW.out _)))))
        go_wp2_with fail
        go_ret
        exact ⟨rfl, Below.drewMany HW.out _⟩
      · exfalso; omega
    · clear hz hv h0 ht
      go_quiet (first | (go_at_call_of 11 (Value.string b); exact Calls.quiet_of (HO4.out _ (HH.out.keep HT.out (Below.drewMany HW.out _)))))
      go_wp2_with fail
      go_ret
      exact ⟨rfl, Below.drewMany HW.out _⟩
  · have he1 := eq_not a b (fun h => absurd (h0.2 h) (by decide))
    clear hy hz hv h0 ht
    go_quiet (first | (go_at_call_of 11 (Value.string b); exact Calls.quiet_of (HO4.out _ (HH.out.keep HT.out (Below.drewMany HW.out _)))))
    go_wp2_with fail
    go_ret
    exact ⟨rfl, Below.drewMany HW.out _⟩
end
end Go.Proofs.YtdepgbolabepoaaDoor
