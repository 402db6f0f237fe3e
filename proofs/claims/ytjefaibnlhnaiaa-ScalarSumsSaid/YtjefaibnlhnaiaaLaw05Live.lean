/- Layer 5's laws: the chapter's examples. -/
import Derived.Test.YtjefaibnlhnaiaaLaw05Spec
namespace Go.Proofs.Ytjefaibnlhnaiaa
open Go.RowKit
set_option maxRecDepth 1000000

theorem unk_ex1 : unkSc [2, 2] = ((0, 0, []), 1, 2) := by decide +kernel
theorem unk_ex2 : unkSc [4, 97, 0, 0] = ((3, 0, [97]), 4, 0) := by decide +kernel
theorem key_ex1 : keySc (3, 0, [97]) = [4, 97, 0, 0] := by decide +kernel
theorem chk_ex : chkSc (9, 0, []) = 3 := by decide +kernel
theorem ord_ex : ordSc (0, 0, []) (3, 0, [97]) = -1 := by decide +kernel
theorem inr_small (n : Int) (h0 : 0 ≤ n) (h1 : n ≤ 1000) : InR n := ⟨by omega, by omega⟩

set_option maxHeartbeats 4000000 in
theorem live5_true {T : World → Prop} (S : SSpec T) (w : World) (ht : T w) : Calls Try.prog 10 #[] w fun e w' => e = .returned (.bool true) ∧ Below w.heap.size w w' := by
  have HT := Lib.hid ht
  have i0 := Lib.hid (inr_small 0 (by decide) (by decide))
  have i1 := Lib.hid (inr_small 1 (by decide) (by decide))
  have i3 := Lib.hid (inr_small 3 (by decide) (by decide))
  have i9 := Lib.hid (inr_small 9 (by decide) (by decide))
  clear ht
  go_enter Try.func10, Try.ntmps10
  go_wp2_with fail
  refine (S.unkey ⟨#[2, 2]⟩ w HT.out (by decide)).mono ?_
  rintro e w1 ⟨rfl, hb⟩
  rw [show (⟨#[2, 2]⟩ : ByteArray).data.toList = [2, 2] from rfl, unk_ex1]
  have B1 := Lib.hid hb
  clear hb
  go_wp2_with fail
  have B1' := Lib.hid (Below.more B1.out (.cells #[.int .i64 0, .int .i64 0, .string ⟨#[]⟩] 23))
  refine (S.unkey ⟨#[4, 97, 0, 0]⟩ _ (S.keep HT.out B1'.out) (by decide)).mono ?_
  rintro e w2 ⟨rfl, hb⟩
  rw [show (⟨#[4, 97, 0, 0]⟩ : ByteArray).data.toList = [4, 97, 0, 0] from rfl, unk_ex2]
  have B2 := Lib.hid (B1'.out.trans (hb.mono B1'.out.size))
  clear hb B1 B1'
  go_wp2_with fail
  obtain ⟨w3, hw3⟩ : ∃ w3, w3 = w2.alloc (.cells #[.int .i64 3, .int .i64 0, .string ⟨#[97]⟩] 23) := ⟨_, rfl⟩
  have B3 : Hid (Below w.heap.size w w3) := by show Below _ _ _; rw [hw3]; exact Below.more B2.out _
  obtain ⟨X, hX⟩ : ∃ X, X = w2.heap.size := ⟨_, rfl⟩
  have K3 : Hid (w3.heap[X]? = some (.cells #[.int .i64 3, .int .i64 0, .string ⟨#[97]⟩] 23 (0, 0))) := by show _ = _; rw [hw3, hX]; exact heap_alloc_new w2 _
  rw [← hw3, ← hX]
  clear hw3 hX B2
  refine (S.key 3 0 ⟨#[97]⟩ w3 (S.keep HT.out B3.out) i3.out i0.out (by decide)).mono ?_
  rintro e w4 ⟨rfl, hb⟩
  rw [show keySc (scT 3 0 ⟨#[97]⟩) = [4, 97, 0, 0] from key_ex1]
  have B4 := Lib.hid (B3.out.trans (hb.mono B3.out.size))
  have K4 := Lib.hid ((hb.block X (Array.getElem?_eq_some_iff.1 K3.out).1).trans K3.out)
  clear hb B3 K3
  go_wp2_with fail
  refine (S.key 1 1 ⟨#[]⟩ w4 (S.keep HT.out B4.out) i1.out i1.out (by decide)).mono ?_
  rintro e w5 ⟨rfl, hb⟩
  rw [show keySc (scT 1 1 ⟨#[]⟩) = [2, 1] from key_true]
  have B5 := Lib.hid (B4.out.trans (hb.mono B4.out.size))
  have hk := (hb.block X (Array.getElem?_eq_some_iff.1 K4.out).1).trans K4.out
  have K5 := Lib.hid hk
  have c0 : w5.cell? ⟨X, 0, none⟩ = some (.int .i64 3) := by simp [World.cell?, hk]
  have c1 : w5.cell? ⟨X, 1, none⟩ = some (.int .i64 0) := by simp [World.cell?, hk]
  have c2 : w5.cell? ⟨X, 2, none⟩ = some (.string ⟨#[97]⟩) := by simp [World.cell?, hk]
  clear hb B4 K4 hk
  go_wp2_with fail
  refine (S.order 0 0 ⟨#[]⟩ 3 0 ⟨#[97]⟩ w5 (S.keep HT.out B5.out) i0.out i0.out i3.out i0.out (by decide) (by decide)).mono ?_
  rintro e w6 ⟨rfl, hb⟩
  rw [show ordSc (scT 0 0 ⟨#[]⟩) (scT 3 0 ⟨#[97]⟩) = -1 from ord_ex]
  have B6 := Lib.hid (B5.out.trans (hb.mono B5.out.size))
  clear hb B5 K5 c0 c1 c2
  go_wp2_with fail
  refine (S.check 9 0 ⟨#[]⟩ w6 (S.keep HT.out B6.out) i9.out i0.out (by decide)).mono ?_
  rintro e w7 ⟨rfl, hb⟩
  rw [show chkSc (scT 9 0 ⟨#[]⟩) = 3 from chk_ex]
  have B7 := Lib.hid (B6.out.trans (hb.mono B6.out.size))
  clear hb B6
  go_wp2_with fail
  go_ret
  exact ⟨rfl, B7.out⟩
end Go.Proofs.Ytjefaibnlhnaiaa
