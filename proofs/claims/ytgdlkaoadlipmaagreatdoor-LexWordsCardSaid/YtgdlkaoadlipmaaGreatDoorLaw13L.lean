/- The examples of chapter 13. (written by tools/gen13/law13.py) -/
import Derived.Test.YtgdlkaoadlipmaaGreatDoorLex
import Derived.Handy
import Derived.Deep.Cut
namespace Go.Proofs.YtgdlkaoadlipmaaGreatDoor
open Go.RowKit
set_option maxRecDepth 1000000
set_option linter.unusedSimpArgs false

theorem tkl_cell {w : World} {v : Value} {l : List Tok} (h : TkL 25 w v l) (h0 : 0 < l.length) : ∃ g c, v = .slice (some ⟨g, 0, none⟩) l.length c ∧ ∀ j (hj : j < l.length), w.rangeAt g (j * 5) (tokC l[j]).toList := by
  obtain ⟨a, c, h1, _, h3⟩ := h
  obtain ⟨g, cs, fr, rfl, h5, h6⟩ := h3 h0
  refine ⟨g, c, h1, fun j hj k u hu => cell_in h5 (h6 j hj k u ?_)⟩
  rw [← Array.getElem?_toList]; exact hu
set_option maxHeartbeats 2000000 in
theorem lw_live13 (w : World) (hT : T13 w) : Calls Tryz.prog 4 #[] w fun e w' => e = .returned (.bool true) ∧ Below w.heap.size w w' := by
  have ha : allS [97, 32, 60, 61, 32, 45, 49] = ([⟨2, 0, 1, 0, [97]⟩, ⟨1, 2, 4, 0, [60, 61]⟩, ⟨3, 5, 7, -1, []⟩], 0, 0) := by kernel_rfl
  have hn : nextS [45] 0 = (⟨0, 0, 0, 0, []⟩, 0, 2) := by kernel_rfl
  have h1 := fun W (hb : Below w.heap.size w W) => lx_All ⟨#[97, 32, 60, 61, 32, 45, 49]⟩ W (hT.below hb) (by decide)
  have h2 := fun W (hb : Below w.heap.size w W) => lx_Next ⟨#[45]⟩ 0 W (hT.below hb) (by decide) (by decide)
  simp only [ha] at h1
  simp only [hn] at h2
  have HAL : Hid (∀ W, Below w.heap.size w W → Calls Tryz.prog 12 #[.string ⟨#[97, 32, 60, 61, 32, 45, 49]⟩] W fun e w' => ∃ v E, e = .returned (.tuple #[v, E]) ∧ TkL 25 w' v [⟨2, 0, 1, 0, [97]⟩, ⟨1, 2, 4, 0, [60, 61]⟩, ⟨3, 5, 7, -1, []⟩] ∧ ErrV w' E 0 0 ∧ Below W.heap.size W w') := h1
  have HNX : Hid (∀ W, Below w.heap.size w W → Calls Tryz.prog 13 #[.string ⟨#[45]⟩, .int .i64 0] W fun e w' => ∃ E, e = .returned (.tuple #[.agg (tokC ⟨0, 0, 0, 0, []⟩), E]) ∧ ErrV w' E 2 0 ∧ Below W.heap.size W w') := h2
  have HBL : Hid (∀ W, Below w.heap.size w W → Calls Tryz.prog 5 #[.int .u8 9] W fun e w' => e = .returned (.bool true) ∧ Below W.heap.size W w') := fun W _ => lx_Blank 9 W
  have HT := Lib.hid hT
  have HW : Hid (Below w.heap.size w w) := Below.refl _ _
  clear h1 h2 ha hn hT
  go_enter Tryz.func4, Tryz.ntmps4
  go_upto_region 2 with (go_at_call 12; (with_reducible refine (HAL.out _ HW.out).mono ?_); rintro r V ⟨v, E, rfl, hv, hE, hb⟩; have HV := Lib.hid hv; have HE := Lib.hid hE; replace HW := Lib.hid (HW.out.trans (hb.mono HW.out.size)); clear hb hv hE)
  obtain ⟨-, rfl⟩ : (0 : Int) = 0 ∧ E = .nilIface := HE.out.elim id fun h => absurd rfl h.1
  go_upto_region 3 with (first
    | (go_at_call 13; (with_reducible refine (HNX.out _ HW.out).mono ?_); rintro r V2 ⟨E2, rfl, hE2, hb⟩; have HE2 := Lib.hid hE2; have HV2 := Lib.hid (HV.out.later hb); replace HW := Lib.hid (HW.out.trans (hb.mono HW.out.size)); clear hb hE2)
    | (refine st_agg rfl 25 _ _ rfl V2.heap.size (tokC ⟨0, 0, 0, 0, []⟩) rfl rfl 25 (tokC ⟨0, 0, 0, 0, []⟩) (heap_alloc_last _ _) tok_size rfl (by simp [Value.oneCell', tokC]) ?_; intro w8 h8 k8))
  have hb8 : Below V2.heap.size V2 w8 := (Below.newly' _ _).trans (k8.below (Nat.le_refl _))
  have hv8 := HV2.out.later hb8
  replace HW := Lib.hid (HW.out.trans (hb8.mono HW.out.size))
  have HAT := Lib.hid (fun W (hb : Below w8.heap.size w8 W) => lw_At E2 2 0 W ((HE2.out.later hb8).later hb) ((HT.out.below HW.out).below hb).et)
  have HB8 : Hid (Below w8.heap.size w8 w8) := Below.refl _ _
  obtain ⟨g, c, rfl, hr⟩ := tkl_cell hv8 (by decide)
  have r0 := hr 0 (by decide) 0 (.int .i64 2) rfl
  have r1 := hr 1 (by decide) 4 (.string ⟨#[60, 61]⟩) rfl
  have r2 := hr 2 (by decide) 3 (.int .i64 (-1)) rfl
  simp only [List.length_cons, List.length_nil, Nat.reduceAdd, Nat.reduceMul] at r0 r1 r2 ⊢
  clear hr hv8 hb8 k8 h8 HE HV HV2 HE2
  go_wp2_with (first
    | (go_at_call 14; (with_reducible refine (HAT.out _ HB8.out).mono ?_); rintro r V5 ⟨rfl, hb⟩; replace HW := Lib.hid (HW.out.trans (hb.mono HW.out.size)); clear hb)
    | (go_at_call 5; (with_reducible refine (HBL.out _ HW.out).mono ?_); rintro r V6 ⟨rfl, hb⟩; replace HW := Lib.hid (HW.out.trans (hb.mono HW.out.size)); clear hb))
  go_ret
  exact ⟨rfl, HW.out⟩
end Go.Proofs.YtgdlkaoadlipmaaGreatDoor
