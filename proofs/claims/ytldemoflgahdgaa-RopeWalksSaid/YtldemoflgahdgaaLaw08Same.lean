/- Layer 8's laws: has a rope just these things; the chapter's examples. (written by tools/gen08/live8.py) -/
import Derived.Test.YtldemoflgahdgaaLaw08Spec
namespace Go.Proofs.Ytldemoflgahdgaa
open Go.RowKit
set_option maxRecDepth 1000000
set_option linter.unusedSimpArgs false

set_option maxHeartbeats 4000000 in
theorem same8 {S : Nat → Prop} (c : Array Value) (v : Value) (l : List Int) (w : World) (hv : RL w c l) (hl : Lst S w v l) (hn : l.length ≤ 50000) : Calls Try.prog 13 #[.agg c, v] w fun e w' => e = .returned (.bool true) ∧ Below w.heap.size w w' := by
  have hn6 : (l.length : Int) ≤ 50000 := by omega
  have HN := Lib.hid hn
  have HS := Lib.hid hv.size
  have HV := Lib.hid hv
  have HL := Lib.hid hl
  obtain ⟨w1, hw1⟩ : ∃ w1, w.alloc (.cells c 35) = w1 := ⟨_, rfl⟩
  have hb1 : Below w.heap.size w w1 := by rw [← hw1]; exact Below.newly' _ _
  have HX1 : Hid (w1.heap[w.heap.size]? = some (.cells c 35 (0, 0))) := by show _ = _; rw [← hw1]; exact heap_alloc_last _ _
  have HB1 := Lib.hid hb1
  have HLEN := Lib.hid (fun w' (h : Below w.heap.size w w') => rp_Len w' (RL.later hv h))
  have HLIST := Lib.hid (fun w' (h : Below w.heap.size w w') => rp_List w' c l (RL.later hv h) (by omega))
  obtain ⟨a, cp, rfl, _⟩ := hl.shape
  obtain ⟨N, hN⟩ : ∃ N, N = l.length := ⟨_, rfl⟩
  rw [← hN] at HLEN HL hn6 ⊢
  have HNN := Lib.hid hN
  clear hv hl hn hb1 hN
  go_enter Try.func13, Try.ntmps13
  go_upto_region 1 with fail
  clear hw1
  go_upto_region 4 with (first
    | (refine ld_if (by rfl) 35 _ rfl w.heap.size rfl 35 _ _ _ HX1.out Try.underlying35 rfl (by rw [HS.out]; exact rope_size) ?_)
    | (go_at_call 21; with_reducible refine (HLEN.out w1 HB1.out).mono ?_; rintro e w2 ⟨rfl, hw2⟩; have hb : Below w1.heap.size w1 w2 := (by rw [hw2]; exact Below.newly' _ _); have HX2 := Lib.hid ((hb.block _ (Array.getElem?_eq_some_iff.1 HX1.out).1).trans HX1.out); have HB2 := Lib.hid (HB1.out.trans (hb.mono HB1.out.size)); clear hb hw2)
    | (refine ld_if (by rfl) 35 _ rfl w.heap.size rfl 35 _ _ _ HX2.out Try.underlying35 rfl (by rw [HS.out]; exact rope_size) ?_)
    | (go_at_call 19; with_reducible refine (HLIST.out w2 HB2.out).mono ?_; rintro e w5 ⟨v5, rfl, hi5, hb⟩; have HX5 := Lib.hid ((hb.block _ (Array.getElem?_eq_some_iff.1 HX2.out).1).trans HX2.out); have HB5 := Lib.hid (HB2.out.trans (hb.mono HB2.out.size)); have hsame := ref_Same _ _ l w5 hi5.lst (HL.out.later HB5.out) (by have := HN.out; omega); have HSM := Lib.hid hsame; clear hb hi5 hsame)
    | (go_at_call 20; with_reducible refine HSM.out.mono ?_; rintro e w6 ⟨rfl, hb⟩; have HX6 := Lib.hid ((hb.block _ (Array.getElem?_eq_some_iff.1 HX5.out).1).trans HX5.out); have HB6 := Lib.hid (HB5.out.trans (hb.mono HB5.out.size)); clear hb))
  obtain ⟨w7, hw7⟩ : ∃ w7, w7 = w6.alloc (.cells #[.int .i64 (-1), .int .i64 0, .int .i64 7, .int .i64 8, .int .i64 15, .int .i64 16, .int .i64 ((N : Int) / 2), .int .i64 ((N : Int) - 1), .int .i64 (N : Int)] 3) := ⟨_, rfl⟩
  have hx7 : w7.heap[w6.heap.size]? = some (.cells #[.int .i64 (-1), .int .i64 0, .int .i64 7, .int .i64 8, .int .i64 15, .int .i64 16, .int .i64 ((N : Int) / 2), .int .i64 ((N : Int) - 1), .int .i64 (N : Int)] 3 (0, 0)) := by rw [hw7]; exact heap_alloc_last _ _
  have hb7 : Below w.heap.size w w7 := by rw [hw7]; exact HB6.out.alloc HB6.out.size _
  have HX7 : Hid (w7.heap[w.heap.size]? = some (.cells c 35 (0, 0))) := by show _ = _; rw [hw7]; exact ((Below.newly' w6 _).block _ (Array.getElem?_eq_some_iff.1 HX6.out).1).trans HX6.out
  have HB7 := Lib.hid hb7
  have HC7 : Hid (∀ k : Nat, k < 9 → ∃ z : Int, w7.cell? ⟨w6.heap.size, k, none⟩ = some (.int .i64 z)) := by
    intro k hk
    rcases (show k = 0 ∨ k = 1 ∨ k = 2 ∨ k = 3 ∨ k = 4 ∨ k = 5 ∨ k = 6 ∨ k = 7 ∨ k = 8 by omega) with rfl | rfl | rfl | rfl | rfl | rfl | rfl | rfl | rfl <;> exact ⟨_, cell_in hx7 rfl⟩
  have HBL : Hid (w6.heap.size < w7.heap.size) := (Array.getElem?_eq_some_iff.1 hx7).1
  rw [← hw7]
  obtain ⟨B, hB⟩ : ∃ B, B = w6.heap.size := ⟨_, rfl⟩
  rw [← hB] at HC7 HBL ⊢
  clear hw7 hx7 hb7 hB
  go_loopw [33] (fun i wl => ∃ k : Nat, k ≤ 9 ∧ i = .int .i64 (k : Int) ∧ Below w7.heap.size w7 wl) (fun i _ => 9 - (intOf i).toNat)
  case atStart => exact ⟨0, by omega, rfl, Below.refl _ _⟩
  case round =>
    obtain ⟨k, hk, rfl, hb⟩ := hrel
    have HW := Lib.hid hb
    have HWW := Lib.hid (HB7.out.trans (hb.mono HB7.out.size))
    by_cases hlt : k < 9
    · obtain ⟨z, hz⟩ := HC7.out k hlt
      have hcell := (hb.cell (p := ⟨B, k, none⟩) HBL.out).trans hz
      have HX8 := Lib.hid ((hb.block _ (Array.getElem?_eq_some_iff.1 HX7.out).1).trans HX7.out)
      have hlt' : (k : Int) < 9 := by omega
      have hk0 : 0 ≤ (k : Int) := by omega
      have HG := Lib.hid (rp_Get wr (RL.later HV.out HWW.out) z (by have := HN.out; omega))
      have HG2 := Lib.hid (fun w' (h : Below w.heap.size w w') => ref_Get7 _ l z w' (HL.out.later h))
      obtain ⟨⟨y, q⟩, hyq⟩ : ∃ p, p = getF (fun j => l.getD j 0) l.length z := ⟨_, rfl⟩
      rw [← hyq] at HG HG2
      simp only at HG HG2
      clear hb hz hyq hlt
      go_wp2_with (first
        | (refine ld_if (by rfl) 35 _ rfl w.heap.size rfl 35 _ _ _ HX8.out Try.underlying35 rfl (by rw [HS.out]; exact rope_size) ?_)
        | (go_at_call 11; with_reducible refine HG.out.mono ?_; rintro e w9 ⟨rfl, hb⟩; have HW9 := Lib.hid (HW.out.trans (hb.mono HW.out.size)); have HWW9 := Lib.hid (HWW.out.trans (hb.mono HWW.out.size)); clear hb)
        | (go_at_call 12; with_reducible refine (HG2.out _ HWW9.out).mono ?_; rintro e w10 ⟨rfl, hw10⟩; obtain rfl := hw10.symm))
      go_roundw
      case rel => exact ⟨k + 1, by omega, by simp, HW9.out⟩
      case measure => simp [intOf]; omega
    · have hlt' : ¬ (k : Int) < 9 := by omega
      go_wp2_with fail
      go_ret
      exact ⟨rfl, HWW.out⟩
end Go.Proofs.Ytldemoflgahdgaa
