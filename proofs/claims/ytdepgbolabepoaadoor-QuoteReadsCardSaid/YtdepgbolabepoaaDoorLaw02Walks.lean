/- Layer 2: each law's walk: it returns true, where the package's functions answer as QSpec says. -/
import Derived.Test.YtdepgbolabepoaaDoorLaw02Live
namespace Go.Proofs.YtdepgbolabepoaaDoor
open Go.RowKit

section
variable {T : World → Prop}
theorem ref_Order_b (a b : ByteArray) (w : World) (ha : a.size ≤ 2000) : Calls Tryd.prog 12 #[.string a, .string b] w fun e w' => e = .returned (.int .i64 (orderS a.data.toList b.data.toList)) ∧ Below w.heap.size w w' :=
  (ref_Order a b w (by unfold maxLen; omega)).mono fun _ _ h => ⟨h.1, h.2.below⟩
theorem ref_Common_b (a b : ByteArray) (w : World) (ha : a.size ≤ 2000) : Calls Tryd.prog 14 #[.string a, .string b] w fun e w' => e = .returned (.int .i64 (commonS a.data.toList b.data.toList : Nat)) ∧ Below w.heap.size w w' :=
  (ref_Common a b w (by unfold maxLen; omega)).mono fun _ _ h => ⟨h.1, h.2.below⟩
theorem order_b (H : QSpec T) (a b : ByteArray) (w : World) (ha : a.size ≤ 2000) (hb : b.size ≤ 2000) (h : T w) : Calls Tryd.prog 11 #[.string a, .string b] w fun e w' => e = .returned (.int .i64 (orderS a.data.toList b.data.toList)) ∧ Below w.heap.size w w' :=
  (H.order a b w ha hb h).mono fun _ _ h => ⟨h.1, h.2.below⟩
theorem ret_true {x : Bool} (h : x = true) : Ending.returned (.bool x) = .returned (.bool true) := by rw [h]

set_option maxRecDepth 100000 in
set_option maxHeartbeats 4000000 in
theorem quoteOrders_walk (H : QSpec T) (a b : ByteArray) (w : World) (hT : T w) : Calls Tryd.prog 3 #[.string a, .string b] w fun e w' => e = .returned (.bool true) ∧ Below w.heap.size w w' := by
  have HH := Lib.hid H
  have HT := Lib.hid hT
  have HW := Lib.hid (Below.refl w.heap.size w)
  clear H hT
  rcases Nat.lt_or_ge 2000 a.size with ha | ha
  · have ga : (2000 : Int) < a.size := by omega
    clear ha
    go_enter Tryd.func3, Tryd.ntmps3
    go_wp2_with fail
    refine (live_any HH.out _ (HH.out.keep HT.out HW.out)).mono ?_; rintro e w1 ⟨rfl, hb⟩; replace HW := Lib.hid (Below.after HW.out hb); clear hb
    go_wp2_with fail
    refine (live_any HH.out _ (HH.out.keep HT.out HW.out)).mono ?_; rintro e w1 ⟨rfl, hb⟩; replace HW := Lib.hid (Below.after HW.out hb); clear hb
    go_wp2_with fail
    go_ret
    exact ⟨rfl, HW.out⟩
  have ga : ¬ (2000 : Int) < a.size := by omega
  rcases Nat.lt_or_ge 2000 b.size with hb | hb
  · have gb : (2000 : Int) < b.size := by omega
    clear hb
    go_enter Tryd.func3, Tryd.ntmps3
    go_wp2_with fail
    refine (live_any HH.out _ (HH.out.keep HT.out HW.out)).mono ?_; rintro e w1 ⟨rfl, hb⟩; replace HW := Lib.hid (Below.after HW.out hb); clear hb
    go_wp2_with fail
    refine (live_any HH.out _ (HH.out.keep HT.out HW.out)).mono ?_; rintro e w1 ⟨rfl, hb⟩; replace HW := Lib.hid (Below.after HW.out hb); clear hb
    go_wp2_with fail
    go_ret
    exact ⟨rfl, HW.out⟩
  have gb : ¬ (2000 : Int) < b.size := by omega
  have Ha := Lib.hid ha
  clear ha
  have Hb := Lib.hid hb
  clear hb
  go_enter Tryd.func3, Tryd.ntmps3
  go_wp2_with fail
  refine (live_any HH.out _ (HH.out.keep HT.out HW.out)).mono ?_; rintro e w1 ⟨rfl, hb⟩; replace HW := Lib.hid (Below.after HW.out hb); clear hb
  go_wp2_with fail
  refine (order_b HH.out _ _ _ Ha.out Hb.out (HH.out.keep HT.out HW.out)).mono ?_; rintro e w1 ⟨rfl, hb⟩; replace HW := Lib.hid (Below.after HW.out hb); clear hb
  go_wp2_with fail
  refine (ref_Order_b a b _ Ha.out).mono ?_; rintro e w1 ⟨rfl, hb⟩; replace HW := Lib.hid (Below.after HW.out hb); clear hb
  go_wp2_with fail
  refine (HH.out.common _ _ _ Ha.out Hb.out (HH.out.keep HT.out HW.out)).mono ?_; rintro e w1 ⟨rfl, hb⟩; replace HW := Lib.hid (Below.after HW.out hb); clear hb
  go_wp2_with fail
  refine (ref_Common_b a b _ Ha.out).mono ?_; rintro e w1 ⟨rfl, hb⟩; replace HW := Lib.hid (Below.after HW.out hb); clear hb
  go_wp2_with fail
  go_ret
  exact ⟨by first | rfl | exact ret_true (by simp), HW.out⟩

set_option maxRecDepth 100000 in
set_option maxHeartbeats 4000000 in
theorem quoteQuotes_walk (H : QSpec T) (s : ByteArray) (w : World) (hT : T w) : Calls Tryd.prog 5 #[.string s] w fun e w' => e = .returned (.bool true) ∧ Below w.heap.size w w' := by
  have HH := Lib.hid H
  have HT := Lib.hid hT
  have HW := Lib.hid (Below.refl w.heap.size w)
  clear H hT
  rcases Nat.lt_or_ge 2000 s.size with hs | hs
  · have gs : (2000 : Int) < s.size := by omega
    clear hs
    go_enter Tryd.func5, Tryd.ntmps5
    go_wp2_with fail
    refine (live_any HH.out _ (HH.out.keep HT.out HW.out)).mono ?_; rintro e w1 ⟨rfl, hb⟩; replace HW := Lib.hid (Below.after HW.out hb); clear hb
    go_wp2_with fail
    refine (live_any HH.out _ (HH.out.keep HT.out HW.out)).mono ?_; rintro e w1 ⟨rfl, hb⟩; replace HW := Lib.hid (Below.after HW.out hb); clear hb
    go_wp2_with fail
    go_ret
    exact ⟨rfl, HW.out⟩
  have gs : ¬ (2000 : Int) < s.size := by omega
  have Hs := Lib.hid hs
  clear hs
  go_enter Tryd.func5, Tryd.ntmps5
  go_wp2_with fail
  refine (live_any HH.out _ (HH.out.keep HT.out HW.out)).mono ?_; rintro e w1 ⟨rfl, hb⟩; replace HW := Lib.hid (Below.after HW.out hb); clear hb
  go_wp2_with fail
  refine (HH.out.quote _ _ Hs.out (HH.out.keep HT.out HW.out)).mono ?_; rintro e w1 ⟨rfl, hb⟩; replace HW := Lib.hid (Below.after HW.out hb); clear hb
  go_wp2_with fail
  refine (ref_Quote s _ Hs.out).mono ?_; rintro e w1 ⟨rfl, hb⟩; replace HW := Lib.hid (Below.after HW.out hb); clear hb
  go_wp2_with fail
  refine (HH.out.hex _ _ Hs.out (HH.out.keep HT.out HW.out)).mono ?_; rintro e w1 ⟨rfl, hb⟩; replace HW := Lib.hid (Below.after HW.out hb); clear hb
  go_wp2_with fail
  refine (ref_Hex s _ Hs.out).mono ?_; rintro e w1 ⟨rfl, hb⟩; replace HW := Lib.hid (Below.after HW.out hb); clear hb
  go_wp2_with fail
  go_ret
  exact ⟨by first | rfl | exact ret_true (by simp), HW.out⟩

set_option maxRecDepth 100000 in
set_option maxHeartbeats 4000000 in
theorem quoteReads_walk (H : QSpec T) (s : ByteArray) (w : World) (hT : T w) : Calls Tryd.prog 6 #[.string s] w fun e w' => e = .returned (.bool true) ∧ Below w.heap.size w w' := by
  have HH := Lib.hid H
  have HT := Lib.hid hT
  have HW := Lib.hid (Below.refl w.heap.size w)
  clear H hT
  rcases Nat.lt_or_ge 2000 s.size with hs | hs
  · have gs : (2000 : Int) < s.size := by omega
    clear hs
    go_enter Tryd.func6, Tryd.ntmps6
    go_wp2_with fail
    refine (live_any HH.out _ (HH.out.keep HT.out HW.out)).mono ?_; rintro e w1 ⟨rfl, hb⟩; replace HW := Lib.hid (Below.after HW.out hb); clear hb
    go_wp2_with fail
    refine (live_any HH.out _ (HH.out.keep HT.out HW.out)).mono ?_; rintro e w1 ⟨rfl, hb⟩; replace HW := Lib.hid (Below.after HW.out hb); clear hb
    go_wp2_with fail
    go_ret
    exact ⟨rfl, HW.out⟩
  have gs : ¬ (2000 : Int) < s.size := by omega
  have Hs := Lib.hid hs
  clear hs
  go_enter Tryd.func6, Tryd.ntmps6
  go_wp2_with fail
  refine (live_any HH.out _ (HH.out.keep HT.out HW.out)).mono ?_; rintro e w1 ⟨rfl, hb⟩; replace HW := Lib.hid (Below.after HW.out hb); clear hb
  go_wp2_with fail
  refine (HH.out.unquote _ _ (by have := Hs.out; omega) (HH.out.keep HT.out HW.out)).mono ?_; rintro e w1 ⟨rfl, hb⟩; replace HW := Lib.hid (Below.after HW.out hb); clear hb
  go_wp2_with fail
  refine (ref_Unquote s _ (by have := Hs.out; omega)).mono ?_; rintro e w1 ⟨rfl, hb⟩; replace HW := Lib.hid (Below.after HW.out hb); clear hb
  go_wp2_with fail
  refine (HH.out.canon _ _ (by have := Hs.out; omega) (HH.out.keep HT.out HW.out)).mono ?_; rintro e w1 ⟨rfl, hb⟩; replace HW := Lib.hid (Below.after HW.out hb); clear hb
  go_wp2_with fail
  refine (ref_Canon s _ Hs.out).mono ?_; rintro e w1 ⟨rfl, hb⟩; replace HW := Lib.hid (Below.after HW.out hb); clear hb
  go_wp2_with fail
  go_ret
  exact ⟨by first | rfl | exact ret_true (by simp), HW.out⟩

set_option maxRecDepth 100000 in
set_option maxHeartbeats 4000000 in
theorem quoteNames_walk (H : QSpec T) (s : ByteArray) (w : World) (hT : T w) : Calls Tryd.prog 7 #[.string s] w fun e w' => e = .returned (.bool true) ∧ Below w.heap.size w w' := by
  have HH := Lib.hid H
  have HT := Lib.hid hT
  have HW := Lib.hid (Below.refl w.heap.size w)
  clear H hT
  rcases Nat.lt_or_ge 2000 s.size with hs | hs
  · have gs : (2000 : Int) < s.size := by omega
    clear hs
    go_enter Tryd.func7, Tryd.ntmps7
    go_wp2_with fail
    refine (live_any HH.out _ (HH.out.keep HT.out HW.out)).mono ?_; rintro e w1 ⟨rfl, hb⟩; replace HW := Lib.hid (Below.after HW.out hb); clear hb
    go_wp2_with fail
    refine (live_any HH.out _ (HH.out.keep HT.out HW.out)).mono ?_; rintro e w1 ⟨rfl, hb⟩; replace HW := Lib.hid (Below.after HW.out hb); clear hb
    go_wp2_with fail
    go_ret
    exact ⟨rfl, HW.out⟩
  have gs : ¬ (2000 : Int) < s.size := by omega
  have Hs := Lib.hid hs
  clear hs
  go_enter Tryd.func7, Tryd.ntmps7
  go_wp2_with fail
  refine (live_any HH.out _ (HH.out.keep HT.out HW.out)).mono ?_; rintro e w1 ⟨rfl, hb⟩; replace HW := Lib.hid (Below.after HW.out hb); clear hb
  go_wp2_with fail
  refine (HH.out.unhex _ _ (by have := Hs.out; omega) (HH.out.keep HT.out HW.out)).mono ?_; rintro e w1 ⟨rfl, hb⟩; replace HW := Lib.hid (Below.after HW.out hb); clear hb
  go_wp2_with fail
  refine (ref_Unhex s _ (by have := Hs.out; omega)).mono ?_; rintro e w1 ⟨rfl, hb⟩; replace HW := Lib.hid (Below.after HW.out hb); clear hb
  go_wp2_with fail
  refine (HH.out.name _ _ Hs.out (HH.out.keep HT.out HW.out)).mono ?_; rintro e w1 ⟨rfl, hb⟩; replace HW := Lib.hid (Below.after HW.out hb); clear hb
  go_wp2_with fail
  refine (ref_Name s _ (by have := Hs.out; omega)).mono ?_; rintro e w1 ⟨rfl, hb⟩; replace HW := Lib.hid (Below.after HW.out hb); clear hb
  go_wp2_with fail
  go_ret
  exact ⟨by first | rfl | exact ret_true (by simp), HW.out⟩

theorem back_len (s : ByteArray) : (⟨s.data.toList.toArray⟩ : ByteArray) = s := by simp
theorem back_unquote (H : QSpec T) (s t : ByteArray) (hs : s.size ≤ 2000) (ht : t.size ≤ 2000) (w : World) (h : T w) : Calls Tryd.prog 19 #[.string (⟨(quoteS s.data.toList).toArray⟩ ++ t)] w fun e w' => e = .returned (.tuple #[.string s, .int .i64 ((quoteS s.data.toList).length : Nat), .int .i64 0]) ∧ Below w.heap.size w w' := by
  have e1 : (⟨(quoteS s.data.toList).toArray⟩ ++ t : ByteArray).data.toList = quoteS s.data.toList ++ t.data.toList := by simp
  have h2 := quote_len s.data.toList
  rw [len_bytes] at h2
  have e2 : (⟨(quoteS s.data.toList).toArray⟩ ++ t : ByteArray).size ≤ 10002 := by
    rw [← len_bytes, e1, List.length_append, len_bytes]; omega
  have h1 := H.unquote _ w e2 h
  rw [e1, unquote_quote] at h1
  exact h1
theorem back_unhex (H : QSpec T) (s : ByteArray) (hs : s.size ≤ 2000) (w : World) (h : T w) : Calls Tryd.prog 23 #[.string ⟨(hexS s.data.toList).toArray⟩] w fun e w' => e = .returned (.tuple #[.string s, .int .i64 0]) ∧ Below w.heap.size w w' := by
  have h2 := hex_len s.data.toList
  rw [len_bytes] at h2
  have h1 := H.unhex ⟨(hexS s.data.toList).toArray⟩ w (by show (hexS s.data.toList).toArray.size ≤ 4000; rw [List.size_toArray]; omega) h
  rw [show (ByteArray.data ⟨(hexS s.data.toList).toArray⟩).toList = hexS s.data.toList from rfl, unhex_hex] at h1
  exact h1
theorem back_canon (H : QSpec T) (s : ByteArray) (hs : s.size ≤ 2000) (w : World) (h : T w) : Calls Tryd.prog 21 #[.string ⟨(quoteS s.data.toList).toArray⟩] w fun e w' => e = .returned (.bool true) ∧ Below w.heap.size w w' := by
  have h2 := quote_len s.data.toList
  rw [len_bytes] at h2
  have h1 := H.canon ⟨(quoteS s.data.toList).toArray⟩ w (by show (quoteS s.data.toList).toArray.size ≤ 8002; rw [List.size_toArray]; omega) h
  rw [show (ByteArray.data ⟨(quoteS s.data.toList).toArray⟩).toList = quoteS s.data.toList from rfl, canon_quote] at h1
  exact h1

set_option maxRecDepth 100000 in
set_option maxHeartbeats 4000000 in
theorem quoteBack_walk (H : QSpec T) (s t : ByteArray) (w : World) (hT : T w) : Calls Tryd.prog 8 #[.string s, .string t] w fun e w' => e = .returned (.bool true) ∧ Below w.heap.size w w' := by
  have HH := Lib.hid H
  have HT := Lib.hid hT
  have HW := Lib.hid (Below.refl w.heap.size w)
  clear H hT
  rcases Nat.lt_or_ge 2000 s.size with hs | hs
  · have gs : (2000 : Int) < s.size := by omega
    clear hs
    go_enter Tryd.func8, Tryd.ntmps8
    go_wp2_with fail
    refine (live_any HH.out _ (HH.out.keep HT.out HW.out)).mono ?_; rintro e w1 ⟨rfl, hb⟩; replace HW := Lib.hid (Below.after HW.out hb); clear hb
    go_wp2_with fail
    refine (live_any HH.out _ (HH.out.keep HT.out HW.out)).mono ?_; rintro e w1 ⟨rfl, hb⟩; replace HW := Lib.hid (Below.after HW.out hb); clear hb
    go_wp2_with fail
    go_ret
    exact ⟨rfl, HW.out⟩
  have gs : ¬ (2000 : Int) < s.size := by omega
  rcases Nat.lt_or_ge 2000 t.size with ht | ht
  · have gt : (2000 : Int) < t.size := by omega
    clear ht
    go_enter Tryd.func8, Tryd.ntmps8
    go_wp2_with fail
    refine (live_any HH.out _ (HH.out.keep HT.out HW.out)).mono ?_; rintro e w1 ⟨rfl, hb⟩; replace HW := Lib.hid (Below.after HW.out hb); clear hb
    go_wp2_with fail
    refine (live_any HH.out _ (HH.out.keep HT.out HW.out)).mono ?_; rintro e w1 ⟨rfl, hb⟩; replace HW := Lib.hid (Below.after HW.out hb); clear hb
    go_wp2_with fail
    go_ret
    exact ⟨rfl, HW.out⟩
  have gt : ¬ (2000 : Int) < t.size := by omega
  have Hs := Lib.hid hs
  clear hs
  have Ht := Lib.hid ht
  clear ht
  have hq : ¬ 9223372036854775807 < (quoteS s.data.toList).length + t.size := by
    have h2 := quote_len s.data.toList
    have h3 := Hs.out
    have h4 := Ht.out
    rw [len_bytes] at h2
    omega
  go_enter Tryd.func8, Tryd.ntmps8
  go_wp2_with fail
  refine (live_any HH.out _ (HH.out.keep HT.out HW.out)).mono ?_; rintro e w1 ⟨rfl, hb⟩; replace HW := Lib.hid (Below.after HW.out hb); clear hb
  go_wp2_with fail
  refine (HH.out.quote _ _ Hs.out (HH.out.keep HT.out HW.out)).mono ?_; rintro e w1 ⟨rfl, hb⟩; replace HW := Lib.hid (Below.after HW.out hb); clear hb
  go_wp2_with fail
  refine (back_unquote HH.out s t Hs.out Ht.out _ (HH.out.keep HT.out HW.out)).mono ?_; rintro e w1 ⟨rfl, hb⟩; replace HW := Lib.hid (Below.after HW.out hb); clear hb
  go_wp2_with fail
  refine (HH.out.hex _ _ Hs.out (HH.out.keep HT.out HW.out)).mono ?_; rintro e w1 ⟨rfl, hb⟩; replace HW := Lib.hid (Below.after HW.out hb); clear hb
  go_wp2_with fail
  refine (back_unhex HH.out s Hs.out _ (HH.out.keep HT.out HW.out)).mono ?_; rintro e w1 ⟨rfl, hb⟩; replace HW := Lib.hid (Below.after HW.out hb); clear hb
  go_wp2_with fail
  refine (back_canon HH.out s Hs.out _ (HH.out.keep HT.out HW.out)).mono ?_; rintro e w1 ⟨rfl, hb⟩; replace HW := Lib.hid (Below.after HW.out hb); clear hb
  go_wp2_with fail
  go_ret
  exact ⟨by first | rfl | exact ret_true (by simp), HW.out⟩

theorem apart_unquote (H : QSpec T) (s : ByteArray) (c : Int) (hs : s.size ≤ 2000) (h0 : 0 ≤ c) (hc : c < ((quoteS s.data.toList).length : Nat)) (w : World) (h : T w) : Calls Tryd.prog 19 #[.string ((⟨(quoteS s.data.toList).toArray⟩ : ByteArray).extract 0 c.toNat)] w fun e w' => e = .returned (.tuple #[.string ⟨(unquoteS ((quoteS s.data.toList).take c.toNat)).1.toArray⟩, .int .i64 c, .int .i64 10]) ∧ Below w.heap.size w w' := by
  have e1 : ((⟨(quoteS s.data.toList).toArray⟩ : ByteArray).extract 0 c.toNat).data.toList = (quoteS s.data.toList).take c.toNat := by
    rw [ByteArray.data_extract]; simp
  have h2 := quote_len s.data.toList
  rw [len_bytes] at h2
  have e2 : ((⟨(quoteS s.data.toList).toArray⟩ : ByteArray).extract 0 c.toNat).size ≤ 10002 := by
    rw [← len_bytes, e1, List.length_take]; omega
  have h1 := H.unquote _ w e2 h
  have h3 := unquote_cut s.data.toList c.toNat (by omega)
  rw [e1] at h1
  unfold unqV at h1
  rw [h3] at h1
  have h4 : ((c.toNat : Nat) : Int) = c := by omega
  rw [h4] at h1
  exact h1
theorem apart_eq (a b : ByteArray) : ((quoteS a.data.toList == quoteS b.data.toList) == (a.toList == b.toList)) = true := by
  rw [ByteArray.toList_eq, ByteArray.toList_eq, beq_iff_eq, Bool.eq_iff_iff, beq_iff_eq, beq_iff_eq, quote_inj]

set_option maxRecDepth 100000 in
set_option maxHeartbeats 4000000 in
theorem quoteApart_walk (H : QSpec T) (a b : ByteArray) (cut : Int) (w : World) (hT : T w) : Calls Tryd.prog 9 #[.string a, .string b, .int .i64 cut] w fun e w' => e = .returned (.bool true) ∧ Below w.heap.size w w' := by
  have HH := Lib.hid H
  have HT := Lib.hid hT
  have HW := Lib.hid (Below.refl w.heap.size w)
  clear H hT
  rcases Nat.lt_or_ge 2000 a.size with ha | ha
  · have ga : (2000 : Int) < a.size := by omega
    clear ha
    go_enter Tryd.func9, Tryd.ntmps9
    go_wp2_with fail
    refine (live_any HH.out _ (HH.out.keep HT.out HW.out)).mono ?_; rintro e w1 ⟨rfl, hb⟩; replace HW := Lib.hid (Below.after HW.out hb); clear hb
    go_wp2_with fail
    refine (live_any HH.out _ (HH.out.keep HT.out HW.out)).mono ?_; rintro e w1 ⟨rfl, hb⟩; replace HW := Lib.hid (Below.after HW.out hb); clear hb
    go_wp2_with fail
    go_ret
    exact ⟨rfl, HW.out⟩
  have ga : ¬ (2000 : Int) < a.size := by omega
  rcases Nat.lt_or_ge 2000 b.size with hb | hb
  · have gb : (2000 : Int) < b.size := by omega
    clear hb
    go_enter Tryd.func9, Tryd.ntmps9
    go_wp2_with fail
    refine (live_any HH.out _ (HH.out.keep HT.out HW.out)).mono ?_; rintro e w1 ⟨rfl, hb⟩; replace HW := Lib.hid (Below.after HW.out hb); clear hb
    go_wp2_with fail
    refine (live_any HH.out _ (HH.out.keep HT.out HW.out)).mono ?_; rintro e w1 ⟨rfl, hb⟩; replace HW := Lib.hid (Below.after HW.out hb); clear hb
    go_wp2_with fail
    go_ret
    exact ⟨rfl, HW.out⟩
  have gb : ¬ (2000 : Int) < b.size := by omega
  have Ha := Lib.hid ha
  clear ha
  have Hb := Lib.hid hb
  clear hb
  have heq := apart_eq a b
  go_enter Tryd.func9, Tryd.ntmps9
  go_wp2_with fail
  refine (live_any HH.out _ (HH.out.keep HT.out HW.out)).mono ?_; rintro e w1 ⟨rfl, hb⟩; replace HW := Lib.hid (Below.after HW.out hb); clear hb
  go_wp2_with fail
  refine (HH.out.quote _ _ Ha.out (HH.out.keep HT.out HW.out)).mono ?_; rintro e w1 ⟨rfl, hb⟩; replace HW := Lib.hid (Below.after HW.out hb); clear hb
  go_wp2_with fail
  refine (HH.out.quote _ _ Hb.out (HH.out.keep HT.out HW.out)).mono ?_; rintro e w1 ⟨rfl, hb⟩; replace HW := Lib.hid (Below.after HW.out hb); clear hb
  go_wp2_with fail
  all_goals first
    | (go_ret; exact ⟨by first | rfl | exact ret_true (by simp), HW.out⟩)
    | (refine (apart_unquote HH.out a cut Ha.out (by omega) (by omega) _ (HH.out.keep HT.out HW.out)).mono ?_; rintro e w1 ⟨rfl, hb⟩; replace HW := Lib.hid (Below.after HW.out hb); clear hb
       go_wp2_with fail
       go_ret; exact ⟨by first | rfl | exact ret_true (by simp), HW.out⟩)
end
end Go.Proofs.YtdepgbolabepoaaDoor
