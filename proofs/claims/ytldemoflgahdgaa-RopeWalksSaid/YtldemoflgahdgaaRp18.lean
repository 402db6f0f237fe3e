/- Package rope: Get. -/
import Derived.Test.YtldemoflgahdgaaRp16
namespace Go.Proofs.Ytldemoflgahdgaa
open Go.RowKit
set_option maxRecDepth 1000000
set_option linter.unusedSimpArgs false

/-- How high the node in that block is. -/
def hgt (w : World) (N : Nat) : Nat := match w.cell? ⟨N, 1, none⟩ with | some (.int _ x) => x.toNat | _ => 0
theorem hgt_of {w : World} {N h : Nat} {p : Kid} {T : TypeId} {fr : Nat × Nat} (hN : w.heap[N]? = some (.cells (kidc h p).toArray T fr)) : hgt w N = h + 1 := by
  unfold hgt
  rw [cell_in (j := 1) (v := .int .i64 ((h + 1 : Nat) : Int)) hN rfl]
  simp
theorem getD_mid {A B C : List Int} {r : Nat} (hr : r < B.length) : (A ++ B ++ C).getD (A.length + r) 0 = B.getD r 0 := by
  rw [List.getD_eq_getElem?_getD, List.getD_eq_getElem?_getD, List.getElem?_append_left (by rw [List.length_append]; omega), List.getElem?_append_right (by omega), Nat.add_sub_cancel_left]
set_option maxHeartbeats 4000000 in
theorem rp_Get_in {S : Nat → Prop} {c : Array Value} {l : List Int} (W : World) (h : RootR S W c l) (i : Nat) (hi : i < l.length) (hN : l.length ≤ 200000) :
    Calls Try.prog 11 #[.agg c, .int .i64 (i : Int)] W fun e W' => e = .returned (.tuple #[.int .i64 (l.getD i 0), .bool true]) ∧ Below W.heap.size W W' := by
  obtain ⟨w1, hw1⟩ : ∃ w1, W.alloc (.cells c 35) = w1 := ⟨_, rfl⟩
  obtain ⟨hb1, hx1, hs1⟩ := box_new hw1
  have HX1 := Lib.hid hx1
  have HB1 := Lib.hid hb1
  have HS1 := Lib.hid hs1
  have HS := Lib.hid h.size
  have HONE := Lib.hid h.one
  have HH := Lib.hid (rp_has w1 (h.later hb1) (i : Int))
  rw [show decide (0 ≤ (i : Int) ∧ (i : Int) < l.length) = true by simp; omega] at HH
  have HR : Hid (∃ hh p, c = (kidc hh p).toArray ∧ NodeR (fun g => g < W.heap.size) W hh p ∧ i < p.l.length ∧ p.l.getD i 0 = l.getD i 0 ∧ p.l.length ≤ 200000) := by
    rcases h.old with ⟨rfl, rfl⟩ | ⟨hh, p, e1, rfl, h3, h4⟩
    · simp at hi
    · exact ⟨hh, p, e1, h3.weak fun g hg => hg.2, hi, rfl, hN⟩
  obtain ⟨v, hv⟩ : ∃ v, v = l.getD i 0 := ⟨_, rfl⟩
  rw [← hv] at HR ⊢
  clear hb1 hx1 hs1 h hi hN hv
  go_enter Try.func11, Try.ntmps11
  go_upto_region 1 with fail
  clear hw1
  go_wp2_with (first
    | (refine ld_if rfl 35 _ rfl W.heap.size rfl 35 _ _ _ HX1.out Try.underlying35 rfl (by rw [HS.out]; exact rope_size) ?_)
    | (go_at_call 28
       refine HH.out.mono ?_
       rintro e w3 ⟨rfl, hb3⟩
       have HX3 := Lib.hid ((hb3.block W.heap.size (by have := HS1.out; omega)).trans HX1.out)
       have HB3 := Lib.hid (HB1.out.trans (hb3.mono HB1.out.size))
       clear hb3)
    | (refine ld_if rfl 33 _ rfl W.heap.size rfl 35 _ _ _ HX3.out Try.underlying33 rfl (by rw [HS.out]; exact rnode_size) ?_)
    | (refine st_agg rfl 33 _ _ rfl w3.heap.size c rfl rfl 33 _ (heap_alloc_last _ _) (by rw [HS.out]; exact rnode_size) (by rw [HS.out]; rfl) HONE.out ?_; intro w4 h4 k4; have HN4 := Lib.hid h4; have HK4 : Hid (Below w3.heap.size w3 w4) := (Below.newly' _ _).trans (k4.below (Nat.le_refl _)); clear h4 k4))
  obtain ⟨N, hNN⟩ : ∃ N, N = w3.heap.size := ⟨_, rfl⟩
  have HNW : Hid (W.heap.size ≤ N) := by show _ ≤ _; rw [hNN]; exact HB3.out.size
  have HB4 := Lib.hid (HB3.out.trans (HK4.out.mono HB3.out.size))
  rw [← hNN] at HN4 ⊢
  clear hNN HK4
  obtain ⟨hh, p, rfl, hp, hip, hpv, hpl⟩ := HR.out
  simp only [Act.put]
  go_loopw [1] (fun iv wr => ∃ (hh : Nat) (p : Kid) (r : Nat), iv = .int .i64 (r : Int) ∧ Hid (wr.heap[N]? = some (.cells (kidc hh p).toArray 33 (0, 0))) ∧ Hid (NodeR (fun g => g < W.heap.size) wr hh p ∧ r < p.l.length ∧ p.l.getD r 0 = v ∧ p.l.length ≤ 200000) ∧ Hid (Below W.heap.size W wr)) (fun _ wr => hgt wr N)
  case atStart => exact ⟨hh, p, i, rfl, HN4, ⟨hp.low HB4.out, hip, hpv, hpl⟩, HB4⟩
  case round =>
    clear HR hp hip hpv hpl HN4 HB4 HX3 HB3 HB1 HX1 HS1 HH HS HONE
    obtain ⟨hh, q, r, rfl, HN, HP, HB⟩ := hrel
    obtain ⟨hq, hrq, hqv, hql⟩ := HP.out
    cases hh with
    | zero =>
      obtain ⟨hqa, hqk, hq1, hq16, hqh⟩ := hq
      obtain ⟨g, cp, cur, fr, hqb, hcap, hS, hg, hcs⟩ := hqh.pos hq1
      have ca2 : wr.cell? ⟨N, 2, none⟩ = some (.slice none 0 0) := by rw [← hqa]; exact cell_in HN.out rfl
      have ca3 : wr.cell? ⟨N, 3, none⟩ = some (.slice (some ⟨g, 0, none⟩) q.k cp) := by rw [← hqb]; exact cell_in HN.out rfl
      have cv : wr.cell? ⟨g, r, none⟩ = some (.int .i64 v) := by
        refine cell_in hg (hcs r _ ?_)
        rw [iv, List.getElem?_map, List.getElem?_eq_getElem hrq, ← hqv, List.getD_eq_getElem?_getD, List.getElem?_eq_getElem hrq]
        rfl
      obtain ⟨n, hn⟩ : ∃ n, n = q.k := ⟨_, rfl⟩
      rw [← hn] at ca3
      have hrn : r < n := by omega
      have hri : (r : Int) < (n : Int) := by omega
      have hnil := nodes_none'
      clear hqa hqk hq1 hq16 hqh hqb hcap hS hg hcs hrq hqv hql hn HP HN
      go_wp2_with fail
      go_ret2
      exact ⟨rfl, HB.out⟩
    | succ h' =>
      obtain ⟨hqb, hk1, hk16, ks, hhd, hkl, hl, hks⟩ := hq
      obtain ⟨n, hn⟩ : ∃ n, n = q.k := ⟨_, rfl⟩
      rw [← hn] at hk1 hk16 hhd hkl
      have HWAY := Lib.hid (rp_way wr h' n r q ks hhd hkl hk1 hk16 (by rw [← hl]; omega) (by rw [← hl]; omega))
      obtain ⟨g, cp, cur, fr, hqa, hcap, hS, hg, hcs⟩ := hhd.pos hk1
      have ca2 : wr.cell? ⟨N, 2, none⟩ = some (.slice (some ⟨g, 0, none⟩) n cp) := by rw [← hqa]; exact cell_in HN.out rfl
      have HRG : Hid (∀ k (hk : k < ks.length), wr.rangeAt g (k * 4) (kidc h' ks[k])) := fun k hk => en_range (h := h') hg hcs hk
      have HKS := Lib.hid hks
      have HL := Lib.hid (And.intro hl (And.intro hkl (And.intro hrq (And.intro hqv hql))))
      have hnil := fun w => nodes_some' ⟨g, 0, none⟩ n cp w
      have hn16 : (n : Int) ≤ 16 := by omega
      have HLT : Hid (N < wr.heap.size) := (Array.getElem?_eq_some_iff.1 HN.out).1
      clear hqb hk1 hk16 hhd hkl hl hks hqa hcap hS hg hcs hrq hqv hql hn HP
      go_upto_region 8 with (first
        | (refine ld_if rfl 33 _ rfl N rfl 33 _ _ _ HN.out Try.underlying33 rfl rnode_size ?_)
        | (go_at_call 29; refine HWAY.out.mono ?_; rintro e w5 ⟨k, s, rfl, hwy, hb5⟩; have HWYY := Lib.hid hwy; have HB5 := Lib.hid hb5; clear hwy hb5))
      obtain ⟨hkk, hir, hr1, hr2⟩ := HWYY.out
      obtain ⟨hl, hkl, hrq, hqv, hql⟩ := HL.out
      have hrl := hr2 (by rw [← hl]; exact hrq)
      have hb5 := HB5.out
      have ca5 : w5.cell? ⟨N, 2, none⟩ = some (.slice (some ⟨g, 0, none⟩) n cp) := (hb5.cell (p := ⟨N, 2, none⟩) HLT.out).trans ca2
      have HRG5 : Hid (w5.rangeAt g (k * 4) (kidc h' ks[k])) := range_later (HRG.out k hkk) hb5
      have HN5 := Lib.hid ((hb5.block N HLT.out).trans HN.out)
      have HBB5 := Lib.hid (HB.out.trans (hb5.mono HB.out.size))
      have HQ5 : Hid (NodeR (fun g => g < W.heap.size) w5 h' ks[k] ∧ s < ks[k].l.length ∧ ks[k].l.getD s 0 = v ∧ ks[k].l.length ≤ 200000) := by
        refine ⟨((HKS.out _ (List.getElem_mem hkk)).2.old.later hb5).weak fun g hg => hg.1, hrl, ?_, ?_⟩
        · rw [← hqv, hl, cat_split hkk, hir, getD_mid hrl]
        · have h1 := congrArg List.length (cat_split hkk)
          rw [List.length_append, List.length_append, ← hl] at h1
          omega
      obtain ⟨y, hy⟩ : ∃ y, y = ks[k] := ⟨_, rfl⟩
      rw [← hy] at HRG5 HQ5
      have hkn : (k : Int) < (n : Int) := by omega
      have hkn' : k < n := by omega
      clear hkk hir hr1 hr2 hl hkl hrq hqv hql hrl hb5 hy ca2 HWYY HL HKS HRG HB5 HWAY
      go_wp2_with (first
        | (refine wpList_load_mid rfl 33 _ rfl g (k * 4) rfl (kidc h' y) _ HRG5.out Try.underlying33 rfl rnode_size ?_)
        | (refine st_agg rfl 33 _ _ rfl N (kidc h' y).toArray rfl rfl 33 _ HN5.out rnode_size rfl (kid_one h' y) ?_; intro w6 h6 k6; have HN6 := Lib.hid h6; have HK6 := Lib.hid k6; clear h6 k6))
      (try simp only [Act.put, List.setIfInBounds_toArray, List.set_cons_zero, List.set_cons_succ])
      go_roundw
      case rel =>
        refine ⟨h', y, s, rfl, HN6, ⟨?_, HQ5.out.2⟩, ?_⟩
        · exact HQ5.out.1.kept HK6.out.by_ (fun X e => by cases e; intro h; have := HNW.out; omega)
        · exact HBB5.out.trans (HK6.out.below HNW.out)
      case measure =>
        rw [hgt_of HN6.out, hgt_of HN.out]
        omega
set_option maxHeartbeats 1000000 in
theorem rp_Get_out {S : Nat → Prop} {c : Array Value} {l : List Int} (W : World) (h : RootR S W c l) (i : Int) (hi : ¬ (0 ≤ i ∧ i < l.length)) :
    Calls Try.prog 11 #[.agg c, .int .i64 i] W fun e W' => e = .returned (.tuple #[.int .i64 0, .bool false]) ∧ Below W.heap.size W W' := by
  obtain ⟨w1, hw1⟩ : ∃ w1, W.alloc (.cells c 35) = w1 := ⟨_, rfl⟩
  obtain ⟨hb1, hx1, hs1⟩ := box_new hw1
  have HX1 := Lib.hid hx1
  have HB1 := Lib.hid hb1
  have HS := Lib.hid h.size
  have HH := Lib.hid (rp_has w1 (h.later hb1) i)
  rw [show decide (0 ≤ i ∧ i < l.length) = false by simpa using hi] at HH
  clear hb1 hx1 hs1 h hi
  go_enter Try.func11, Try.ntmps11
  go_upto_region 1 with fail
  clear hw1
  go_wp2_with (first
    | (refine ld_if rfl 35 _ rfl W.heap.size rfl 35 _ _ _ HX1.out Try.underlying35 rfl (by rw [HS.out]; exact rope_size) ?_)
    | (go_at_call 28
       refine HH.out.mono ?_
       rintro e w3 ⟨rfl, hb3⟩
       have HB3 := Lib.hid (HB1.out.trans (hb3.mono HB1.out.size))
       clear hb3))
  go_ret2
  exact ⟨rfl, HB3.out⟩
theorem rp_Get {S : Nat → Prop} {c : Array Value} {l : List Int} (W : World) (h : RootR S W c l) (i : Int) (hN : l.length ≤ 200000) :
    Calls Try.prog 11 #[.agg c, .int .i64 i] W fun e W' => e = .returned (.tuple #[.int .i64 (getF (fun j => l.getD j 0) l.length i).1, .bool (getF (fun j => l.getD j 0) l.length i).2]) ∧ Below W.heap.size W W' := by
  by_cases hi : 0 ≤ i ∧ i < l.length
  · obtain ⟨j, rfl⟩ : ∃ j : Nat, i = (j : Int) := ⟨i.toNat, by omega⟩
    rw [show getF (fun j => l.getD j 0) l.length (j : Int) = (l.getD j 0, true) by simp only [getF, if_pos hi, Int.toNat_natCast]]
    exact rp_Get_in W h j (by omega) hN
  · rw [show getF (fun j => l.getD j 0) l.length i = (0, false) by simp only [getF, if_neg hi]]
    exact rp_Get_out W h i hi
end Go.Proofs.Ytldemoflgahdgaa
