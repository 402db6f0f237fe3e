/- Layer 2: what the package's functions answer, said at once; and the chapter's examples are so. -/
import Derived.Test.YtdepgbolabepoaaDoorRef02Canon
import Derived.Test.YtdepgbolabepoaaDoorLaw02Pure
namespace Go.Proofs.YtdepgbolabepoaaDoor
open Go.RowKit

/-- What the functions of package quote answer, wherever T holds of the world (what they look up is laid). -/
structure QSpec (T : World → Prop) : Prop where
  keep : ∀ {w w' : World}, T w → Below w.heap.size w w' → T w'
  order : ∀ (a b : ByteArray) (w : World), a.size ≤ 2000 → b.size ≤ 2000 → T w → Calls Tryd.prog 11 #[.string a, .string b] w fun e w' => e = .returned (.int .i64 (orderS a.data.toList b.data.toList)) ∧ Drawn w w'
  common : ∀ (a b : ByteArray) (w : World), a.size ≤ 2000 → b.size ≤ 2000 → T w → Calls Tryd.prog 13 #[.string a, .string b] w fun e w' => e = .returned (.int .i64 (commonS a.data.toList b.data.toList : Nat)) ∧ Below w.heap.size w w'
  quote : ∀ (s : ByteArray) (w : World), s.size ≤ 2000 → T w → Calls Tryd.prog 15 #[.string s] w fun e w' => e = .returned (.string ⟨(quoteS s.data.toList).toArray⟩) ∧ Below w.heap.size w w'
  unquote : ∀ (s : ByteArray) (w : World), s.size ≤ 10002 → T w → Calls Tryd.prog 19 #[.string s] w fun e w' => e = .returned (unqV (unquoteS s.data.toList)) ∧ Below w.heap.size w w'
  canon : ∀ (s : ByteArray) (w : World), s.size ≤ 8002 → T w → Calls Tryd.prog 21 #[.string s] w fun e w' => e = .returned (.bool (canonS s.data.toList)) ∧ Below w.heap.size w w'
  name : ∀ (s : ByteArray) (w : World), s.size ≤ 2000 → T w → Calls Tryd.prog 25 #[.string s] w fun e w' => e = .returned (.bool (nameS s.data.toList)) ∧ Below w.heap.size w w'
  hex : ∀ (s : ByteArray) (w : World), s.size ≤ 2000 → T w → Calls Tryd.prog 17 #[.string s] w fun e w' => e = .returned (.string ⟨(hexS s.data.toList).toArray⟩) ∧ Below w.heap.size w w'
  unhex : ∀ (s : ByteArray) (w : World), s.size ≤ 4000 → T w → Calls Tryd.prog 23 #[.string s] w fun e w' => e = .returned (.tuple #[.string ⟨(unhexS s.data.toList).1.toArray⟩, .int .i64 (unhexS s.data.toList).2]) ∧ Below w.heap.size w w'

section
variable {T : World → Prop}
theorem lv_unquote (H : QSpec T) (w : World) (h : T w) : Calls Tryd.prog 19 #[.string ⟨#[34, 97, 92, 120, 52, 49, 92, 110, 34, 33]⟩] w fun e w' => e = .returned (.tuple #[.string ⟨#[97, 65, 10]⟩, .int .i64 9, .int .i64 0]) ∧ Below w.heap.size w w' := by
  have h1 := H.unquote ⟨#[34, 97, 92, 120, 52, 49, 92, 110, 34, 33]⟩ w (by decide +kernel) h
  have e : unquoteS (ByteArray.data ⟨#[34, 97, 92, 120, 52, 49, 92, 110, 34, 33]⟩).toList = ([97, 65, 10], 9, 0) := by decide +kernel
  rw [e] at h1
  exact h1
theorem lv_unhex (H : QSpec T) (w : World) (h : T w) : Calls Tryd.prog 23 #[.string ⟨#[54, 49]⟩] w fun e w' => e = .returned (.tuple #[.string ⟨#[97]⟩, .int .i64 0]) ∧ Below w.heap.size w w' := by
  have h1 := H.unhex ⟨#[54, 49]⟩ w (by decide +kernel) h
  have e : unhexS (ByteArray.data ⟨#[54, 49]⟩).toList = ([97], 0) := by decide +kernel
  rw [e] at h1
  exact h1
theorem lv_quote (H : QSpec T) (w : World) (h : T w) : Calls Tryd.prog 15 #[.string ⟨#[10]⟩] w fun e w' => e = .returned (.string ⟨#[34, 92, 110, 34]⟩) ∧ Below w.heap.size w w' := by
  have h1 := H.quote ⟨#[10]⟩ w (by decide +kernel) h
  have e : quoteS (ByteArray.data ⟨#[10]⟩).toList = [34, 92, 110, 34] := by decide +kernel
  rw [e] at h1
  exact h1
theorem lv_hex (H : QSpec T) (w : World) (h : T w) : Calls Tryd.prog 17 #[.string ⟨#[97]⟩] w fun e w' => e = .returned (.string ⟨#[54, 49]⟩) ∧ Below w.heap.size w w' := by
  have h1 := H.hex ⟨#[97]⟩ w (by decide +kernel) h
  have e : hexS (ByteArray.data ⟨#[97]⟩).toList = [54, 49] := by decide +kernel
  rw [e] at h1
  exact h1
theorem lv_order (H : QSpec T) (w : World) (h : T w) : Calls Tryd.prog 11 #[.string ⟨#[97]⟩, .string ⟨#[97, 98]⟩] w fun e w' => e = .returned (.int .i64 (-1)) ∧ Below w.heap.size w w' := by
  have h1 := H.order ⟨#[97]⟩ ⟨#[97, 98]⟩ w (by decide +kernel) (by decide +kernel) h
  have e : orderS (ByteArray.data ⟨#[97]⟩).toList (ByteArray.data ⟨#[97, 98]⟩).toList = -1 := by decide +kernel
  rw [e] at h1
  exact h1.mono fun _ _ h => ⟨h.1, h.2.below⟩
theorem lv_name (H : QSpec T) (w : World) (h : T w) : Calls Tryd.prog 25 #[.string ⟨#[97, 49]⟩] w fun e w' => e = .returned (.bool true) ∧ Below w.heap.size w w' := by
  have h1 := H.name ⟨#[97, 49]⟩ w (by decide +kernel) h
  have e : nameS (ByteArray.data ⟨#[97, 49]⟩).toList = true := by decide +kernel
  rw [e] at h1
  exact h1
theorem lv_noname (H : QSpec T) (w : World) (h : T w) : Calls Tryd.prog 25 #[.string ⟨#[49, 97]⟩] w fun e w' => e = .returned (.bool false) ∧ Below w.heap.size w w' := by
  have h1 := H.name ⟨#[49, 97]⟩ w (by decide +kernel) h
  have e : nameS (ByteArray.data ⟨#[49, 97]⟩).toList = false := by decide +kernel
  rw [e] at h1
  exact h1
theorem lv_common (H : QSpec T) (w : World) (h : T w) : Calls Tryd.prog 13 #[.string ⟨#[97, 98, 99]⟩, .string ⟨#[97, 98, 100]⟩] w fun e w' => e = .returned (.int .i64 2) ∧ Below w.heap.size w w' := by
  have h1 := H.common ⟨#[97, 98, 99]⟩ ⟨#[97, 98, 100]⟩ w (by decide +kernel) (by decide +kernel) h
  have e : commonS (ByteArray.data ⟨#[97, 98, 99]⟩).toList (ByteArray.data ⟨#[97, 98, 100]⟩).toList = 2 := by decide +kernel
  rw [e] at h1
  exact h1
theorem lv_canon (H : QSpec T) (w : World) (h : T w) : Calls Tryd.prog 21 #[.string ⟨#[34, 120, 34]⟩] w fun e w' => e = .returned (.bool true) ∧ Below w.heap.size w w' := by
  have h1 := H.canon ⟨#[34, 120, 34]⟩ w (by decide +kernel) h
  have e : canonS (ByteArray.data ⟨#[34, 120, 34]⟩).toList = true := by decide +kernel
  rw [e] at h1
  exact h1

set_option maxHeartbeats 2000000 in
theorem live_any (H : QSpec T) (w : World) (hT : T w) : Calls Tryd.prog 10 #[] w fun e w' => e = .returned (.bool true) ∧ Below w.heap.size w w' := by
  have HH := Lib.hid H
  have HT := Lib.hid hT
  have HW := Lib.hid (Below.refl w.heap.size w)
  clear H hT
  go_enter Tryd.func10, Tryd.ntmps10
  go_wp2_with fail
  refine (lv_unquote HH.out _ (HH.out.keep HT.out HW.out)).mono ?_; rintro e w1 ⟨rfl, hb⟩; replace HW := Lib.hid (Below.after HW.out hb); clear hb
  go_wp2_with fail
  refine (lv_unhex HH.out _ (HH.out.keep HT.out HW.out)).mono ?_; rintro e w1 ⟨rfl, hb⟩; replace HW := Lib.hid (Below.after HW.out hb); clear hb
  go_wp2_with fail
  refine (lv_quote HH.out _ (HH.out.keep HT.out HW.out)).mono ?_; rintro e w1 ⟨rfl, hb⟩; replace HW := Lib.hid (Below.after HW.out hb); clear hb
  go_wp2_with fail
  refine (lv_hex HH.out _ (HH.out.keep HT.out HW.out)).mono ?_; rintro e w1 ⟨rfl, hb⟩; replace HW := Lib.hid (Below.after HW.out hb); clear hb
  go_wp2_with fail
  refine (lv_order HH.out _ (HH.out.keep HT.out HW.out)).mono ?_; rintro e w1 ⟨rfl, hb⟩; replace HW := Lib.hid (Below.after HW.out hb); clear hb
  go_wp2_with fail
  refine (lv_name HH.out _ (HH.out.keep HT.out HW.out)).mono ?_; rintro e w1 ⟨rfl, hb⟩; replace HW := Lib.hid (Below.after HW.out hb); clear hb
  go_wp2_with fail
  refine (lv_noname HH.out _ (HH.out.keep HT.out HW.out)).mono ?_; rintro e w1 ⟨rfl, hb⟩; replace HW := Lib.hid (Below.after HW.out hb); clear hb
  go_wp2_with fail
  refine (lv_common HH.out _ (HH.out.keep HT.out HW.out)).mono ?_; rintro e w1 ⟨rfl, hb⟩; replace HW := Lib.hid (Below.after HW.out hb); clear hb
  go_wp2_with fail
  refine (lv_canon HH.out _ (HH.out.keep HT.out HW.out)).mono ?_; rintro e w1 ⟨rfl, hb⟩; replace HW := Lib.hid (Below.after HW.out hb); clear hb
  go_wp2_with fail
  go_ret
  exact ⟨rfl, HW.out⟩
end
end Go.Proofs.YtdepgbolabepoaaDoor
