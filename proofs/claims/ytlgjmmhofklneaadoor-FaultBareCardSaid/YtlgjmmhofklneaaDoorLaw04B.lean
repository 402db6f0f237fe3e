/- Layer 4's law FaultBare. -/
import Derived.Test.YtlgjmmhofklneaaDoorLaw04Live
namespace Go.Proofs.YtlgjmmhofklneaaDoor
open Go.RowKit
set_option maxRecDepth 1000000
set_option maxHeartbeats 4000000

theorem faultBare_walk (n m : Int) (hn : InR n) (hm : InR m) (w : World) (hg : ET w) (ht : Tab w) :
    Calls Tryd.prog 8 #[.int .i64 n, .int .i64 m] w fun e w' => e = .returned (.bool true) ∧ Below w.heap.size w w' := by
  have HG := Lib.hid hg
  have HT := Lib.hid ht
  have HL := Lib.hid (live_true w hg ht)
  have HN := Lib.hid hn
  have HM := Lib.hid hm
  clear hg ht hn hm
  go_enter Tryd.func8, Tryd.ntmps8
  go_wp2_with fail
  refine HL.out.mono ?_
  rintro e w1 ⟨rfl, hb⟩
  have B1 := Lib.hid hb
  clear hb
  obtain ⟨wf, hwf⟩ : ∃ wf, wf = w1.alloc (.cells #[.int .i64 n, .nilIface] 49) := ⟨_, rfl⟩
  have BF : Hid (Below w.heap.size w wf) := by show Below _ _ _; rw [hwf]; exact Below.more B1.out _
  have c0 : wf.cell? ⟨w1.heap.size, 0, none⟩ = some (.int .i64 n) := by rw [hwf]; simp
  have c1 : wf.cell? ⟨w1.heap.size, 1, none⟩ = some .nilIface := by rw [hwf]; simp
  have hlt : w1.heap.size < wf.heap.size := by rw [hwf]; simp
  have CF := Lib.hid (Ch.bare (B := wf.heap.size) w1.heap.size n hlt HN.out c0 c1)
  have U1 := Lib.hid c1
  have HLT := Lib.hid hlt
  have HWF := Lib.hid hwf
  clear c0 c1 hlt hwf
  go_wp2_with fail
  rw [← HWF.out]
  refine (fault_In _ _ _ m wf CF.out (Nat.le_refl _) HM.out).mono ?_
  rintro e w2 ⟨b2, rfl, _, _, _, hch, hb⟩
  have C2 := Lib.hid hch
  have F2 := Lib.hid hb
  clear hb hch CF
  go_wp2_with fail
  refine (fault_Code _ _ _ _ (HG.out.below (BF.out.trans (F2.out.mono BF.out.size))) C2.out (Nat.le_refl _)).mono ?_
  rintro e w3 ⟨rfl, hb⟩
  have C3 := Lib.hid (C2.out.later hb hb.size)
  have F3 := Lib.hid (F2.out.trans (hb.mono F2.out.size))
  clear hb C2 F2
  rw [show codeS none = 19 from rfl]
  go_wp2_with fail
  refine (fault_Has _ _ _ 19 _ C3.out (Nat.le_refl _)).mono ?_
  rintro e w4 ⟨rfl, hb⟩
  have C4 := Lib.hid (C3.out.later hb hb.size)
  have F4 := Lib.hid (F3.out.trans (hb.mono F3.out.size))
  clear hb C3 F3
  rw [show ((none : Option Int) == some 19) = false from rfl]
  go_wp2_with fail
  refine (fault_Where _ _ _ _ (HG.out.below (BF.out.trans (F4.out.mono BF.out.size))) C4.out (Nat.le_refl _) (by simp)).mono ?_
  rintro e w5 ⟨v, rfl, hi, hb⟩
  have HI := Lib.hid (hi.reads C4.out.range.1)
  have C5 := Lib.hid (C4.out.later hb hb.size)
  have F5 := Lib.hid (F4.out.trans (hb.mono F4.out.size))
  clear hi hb C4 F4
  go_wp2_with fail
  refine (ref_Same _ _ _ _ _ (HI.out.later (Below.newly' _ _)) (ints_two w5 m n HM.out HN.out)).mono ?_
  rintro e w6 ⟨rfl, hb⟩
  have F6 := Lib.hid ((Below.more F5.out _).trans (hb.mono (Below.more F5.out _).size))
  have C6 := Lib.hid (C5.out.later (B' := w6.heap.size) ((Below.newly' w5 (.cells #[.int .i64 m, .int .i64 n] 3)).trans (hb.mono (by simp))) (by have := hb.size; simp at this; omega))
  clear hb HI F5 C5
  rw [show decide ([m, n] = [m, n]) = true by simp]
  go_wp2_with fail
  refine (fault_Last_nil _ (HG.out.below (BF.out.trans (F6.out.mono BF.out.size)))).mono ?_
  rintro e w7 ⟨rfl, hb⟩
  have C7 := Lib.hid (C6.out.later hb hb.size)
  have F7 := Lib.hid (F6.out.trans (hb.mono F6.out.size))
  clear hb C6 F6
  go_wp2_with fail
  refine (fault_Text _ _ _ _ (HG.out.below (BF.out.trans (F7.out.mono BF.out.size))) (HT.out.below (BF.out.trans (F7.out.mono BF.out.size))) C7.out (Nat.le_refl _) (by simp)).mono ?_
  rintro e w8 ⟨rfl, hb⟩
  have F8 := Lib.hid (F7.out.trans (hb.mono F7.out.size))
  clear hb C7 F7
  rw [show codeS none = 19 from rfl]
  go_wp2_with fail
  refine (ref_Text false 0 _ _ 2 [m, n] _ (by exact ⟨by decide, by decide⟩) (.inr (by simp)) rfl (by simp) (ints_two w8 m n HM.out HN.out)).mono ?_
  rintro e w9 ⟨rfl, hb⟩
  have F9 := Lib.hid ((Below.more F8.out _).trans (hb.mono (Below.more F8.out _).size))
  clear hb F8
  rw [show askedS false 0 [m, n] = 19 from rfl]
  go_wp2_with fail
  refine (fUnwrap w1.heap.size .nilIface _ ((F9.out.cell (p := ⟨w1.heap.size, 1, none⟩) HLT.out).trans U1.out)).mono ?_
  rintro e w10 ⟨rfl, rfl⟩
  go_wp2_with fail
  refine (fUnwrap_nil _).mono ?_
  rintro e w11 ⟨rfl, rfl⟩
  go_wp2_with fail
  refine (fault_Where_nil _ (HG.out.below (BF.out.trans (F9.out.mono BF.out.size)))).mono ?_
  rintro e w12 ⟨v, rfl, hi, hb⟩
  obtain ⟨a12, cap12, rfl⟩ := hi.len
  have F12 := Lib.hid (F9.out.trans (hb.mono F9.out.size))
  clear hi hb F9
  go_wp2_with fail
  refine (fault_Code_nil _).mono ?_
  rintro e w13 ⟨rfl, rfl⟩
  go_wp2_with fail
  refine (fault_Has_nil 0 _).mono ?_
  rintro e w14 ⟨rfl, hb⟩
  have F14 := Lib.hid (F12.out.trans (hb.mono F12.out.size))
  clear hb F12
  go_wp2_with fail
  go_ret
  exact ⟨rfl, BF.out.trans (F14.out.mono BF.out.size)⟩
end Go.Proofs.YtlgjmmhofklneaaDoor
