/- Layer 5's law ScalarBack, over what package scalar's functions answer: the whole. -/
import Derived.Test.YtjefaibnlhnaiaaLaw05Ea
import Derived.Test.YtjefaibnlhnaiaaLaw05Eb
import Derived.Test.YtjefaibnlhnaiaaLaw05Ec
import Derived.Test.YtjefaibnlhnaiaaLaw05Ed
namespace Go.Proofs.Ytjefaibnlhnaiaa
open Go.RowKit
set_option maxRecDepth 1000000
set_option maxHeartbeats 4000000
set_option linter.unusedSimpArgs false

theorem scalarBack_of {T : World → Prop} (S : SSpec T) (k n : Int) (t x : ByteArray) (cut : Int) (hk : InR k) (hn : InR n) (ht : t.size ≤ maxLen) (hxs : x.size ≤ maxLen) (hcut : InR cut) (w : World) (hT : T w) :
    Calls Try.prog 7 #[scV k n t, .string x, .int .i64 cut] w fun e w' => e = .returned (.bool true) ∧ Below w.heap.size w w' := by
  by_cases h2 : t.size ≤ 2000
  case neg =>
    have HT := Lib.hid (fun W (hb : Below w.heap.size w W) => S.keep hT hb)
    have HL := Lib.hid (fun W (hb : Below w.heap.size w W) => live5_true S W (HT.out W hb))
    have HS := Lib.hid (fun W => short_walk k n t W ht)
    have HK := Lib.hid hk
    have HN := Lib.hid hn
    unfold maxLen at hxs
    clear hT hk hn ht
    obtain ⟨X, hX⟩ : ∃ X, X = w.heap.size := ⟨_, rfl⟩
    obtain ⟨w0, hw0⟩ : ∃ w0, w0 = w.alloc (.cells #[.int .i64 k, .int .i64 n, .string t] 23) := ⟨_, rfl⟩
    have B0 : Hid (Below w.heap.size w w0) := by show Below _ _ _; rw [hw0]; exact Below.newly' _ _
    have K0 : Hid (Bx X k n t w0) := by show Bx _ _ _ _ _; rw [hw0, hX]; exact Bx.new k n t w
    have HX := Lib.hid hX
    have HW := Lib.hid hw0
    clear hX hw0
    rw [decide_eq_false h2] at HS
    clear h2 hxs hcut
    go_enter Try.func7, Try.ntmps7
    go_wp2_with fail
    rw [← HW.out, ← HX.out]
    refine (HL.out _ B0.out).mono ?_
    rintro e w1 ⟨rfl, hb⟩
    have B1 := Lib.hid (B0.out.trans (hb.mono B0.out.size))
    have K1 := Lib.hid (K0.out.later hb)
    clear hb B0 K0
    obtain ⟨c0, c1, c2⟩ := K1.out.cells
    go_wp2_with fail
    refine (HS.out _).mono ?_
    rintro e w2 ⟨rfl, hb⟩
    have B2 := Lib.hid (B1.out.trans (hb.mono B1.out.size))
    have K2 := Lib.hid (K1.out.later hb)
    clear hb B1 K1 c0 c1 c2
    go_wp2_with fail
    refine (HL.out _ B2.out).mono ?_
    rintro e w3 ⟨rfl, hb⟩
    have B3 := Lib.hid (B2.out.trans (hb.mono B2.out.size))
    have K3 := Lib.hid (K2.out.later hb)
    clear hb B2 K2
    go_wp2_with fail
    go_ret
    exact ⟨rfl, B3.out⟩
  by_cases hxl : x.size ≤ 2000
  case neg =>
    have HT := Lib.hid (fun W (hb : Below w.heap.size w W) => S.keep hT hb)
    have HL := Lib.hid (fun W (hb : Below w.heap.size w W) => live5_true S W (HT.out W hb))
    have HS := Lib.hid (fun W => short_walk k n t W ht)
    have HK := Lib.hid hk
    have HN := Lib.hid hn
    unfold maxLen at hxs
    clear hT hk hn ht
    obtain ⟨X, hX⟩ : ∃ X, X = w.heap.size := ⟨_, rfl⟩
    obtain ⟨w0, hw0⟩ : ∃ w0, w0 = w.alloc (.cells #[.int .i64 k, .int .i64 n, .string t] 23) := ⟨_, rfl⟩
    have B0 : Hid (Below w.heap.size w w0) := by show Below _ _ _; rw [hw0]; exact Below.newly' _ _
    have K0 : Hid (Bx X k n t w0) := by show Bx _ _ _ _ _; rw [hw0, hX]; exact Bx.new k n t w
    have HX := Lib.hid hX
    have HW := Lib.hid hw0
    clear hX hw0
    have hx : (2000 : Int) < x.size := by omega
    rw [decide_eq_true h2] at HS
    clear h2 hxs hcut hxl
    go_enter Try.func7, Try.ntmps7
    go_wp2_with fail
    rw [← HW.out, ← HX.out]
    refine (HL.out _ B0.out).mono ?_
    rintro e w1 ⟨rfl, hb⟩
    have B1 := Lib.hid (B0.out.trans (hb.mono B0.out.size))
    have K1 := Lib.hid (K0.out.later hb)
    clear hb B0 K0
    obtain ⟨c0, c1, c2⟩ := K1.out.cells
    go_wp2_with fail
    refine (HS.out _).mono ?_
    rintro e w2 ⟨rfl, hb⟩
    have B2 := Lib.hid (B1.out.trans (hb.mono B1.out.size))
    have K2 := Lib.hid (K1.out.later hb)
    clear hb B1 K1 c0 c1 c2
    go_wp2_with fail
    refine (HL.out _ B2.out).mono ?_
    rintro e w3 ⟨rfl, hb⟩
    have B3 := Lib.hid (B2.out.trans (hb.mono B2.out.size))
    have K3 := Lib.hid (K2.out.later hb)
    clear hb B2 K2
    go_wp2_with fail
    go_ret
    exact ⟨rfl, B3.out⟩
  by_cases hcs : chkSc (scT k n t) = 0
  case neg => exact back_bad S k n t x cut hk hn ht w hT h2 hxl hcs
  by_cases hneg : cut < 0
  · exact back_neg S k n t x cut hk hn ht w hT h2 hxl hcs hneg
  by_cases hbig : ((keySc (scT k n t)).length : Int) ≤ cut
  · exact back_big S k n t x cut hk hn ht hcut w hT h2 hxl hcs hneg hbig
  · exact back_cut S k n t x cut hk hn ht hcut w hT h2 hxl hcs hneg hbig
end Go.Proofs.Ytjefaibnlhnaiaa
