/- Layer 9: the document's own maps: keys that rise, and what each has: Words, At. -/
import Derived.Test.YtnnlfgfgfegjkaaDoorPkM
import Derived.Test.YtnnlfgfgfegjkaaDoorPkC
import Derived.Test.YtnnlfgfgfegjkaaDoorPkB
import Derived.Test.YtnnlfgfgfegjkaaDoorPkG
namespace Go.Proofs.YtnnlfgfgfegjkaaDoor
open Go.RowKit
set_option maxRecDepth 1000000
set_option linter.unusedSimpArgs false

/-- These cells are the document's map. -/
def RefM (w : World) (c : Array Value) (L : List Ent) : Prop := ∃ kv xv, c = #[kv, xv] ∧ LsS w kv (keysE L) ∧ LsI w xv (valsE L)
section
variable {w w' : World} {c : Array Value} {L : List Ent}
theorem RefM.later (h : RefM w c L) (hb : Below w.heap.size w w') : RefM w' c L := by
  obtain ⟨kv, xv, h1, h2, h3⟩ := h
  exact ⟨kv, xv, h1, h2.later hb, h3.later hb⟩
theorem RefM.but {X : Nat} {cs : Array Value} {T : TypeId} {fr : Nat × Nat} (h : RefM w c L) (k : Only X w w') (hX : w.heap[X]? = some (.cells cs T fr)) (h1 : T ≠ 9) (h2 : T ≠ 3) : RefM w' c L := by
  obtain ⟨kv, xv, e, h3, h4⟩ := h
  exact ⟨kv, xv, e, h3.but k hX h1, h4.but k hX h2⟩
theorem RefM.kept {row : Option Nat} (h : RefM w c L) (hg : w.grownBy w' row) (h1 : ∀ X, row = some X → ∀ cs fr, w.heap[X]? ≠ some (.cells cs 9 fr)) (h2 : ∀ X, row = some X → ∀ cs fr, w.heap[X]? ≠ some (.cells cs 3 fr)) : RefM w' c L := by
  obtain ⟨kv, xv, e, h3, h4⟩ := h
  exact ⟨kv, xv, e, h3.kept hg h1, h4.kept hg h2⟩
theorem RefM.zero (w : World) : RefM w #[.slice none 0 0, .slice none 0 0] [] := ⟨_, _, rfl, LsG.nil _ _ _, LsG.nil _ _ _⟩
theorem RefM.size (h : RefM w c L) : c.size = 2 := by
  obtain ⟨_, _, rfl, _⟩ := h
  rfl
theorem RefM.one (h : RefM w c L) : c.all (·.oneCell') = true := by
  obtain ⟨_, _, rfl, h1, h2⟩ := h
  obtain ⟨_, _, rfl, _⟩ := h1.shape
  obtain ⟨_, _, rfl, _⟩ := h2.shape
  simp [Value.oneCell']
theorem RefM.shape (h : RefM w c L) : ∃ a1 c1 a2 c2, c = #[.slice a1 L.length c1, .slice a2 L.length c2] := by
  obtain ⟨_, _, rfl, h1, h2⟩ := h
  obtain ⟨a1, c1, rfl, _⟩ := h1.shape
  obtain ⟨a2, c2, rfl, _⟩ := h2.shape
  rw [keysE_len, valsE_len]
  exact ⟨a1, c1, a2, c2, rfl⟩
end
theorem refm_size : (Tryd.prog.info? 40).map (·.size) = some 2 := by kernel_rfl
/-- No key is long. -/
def Short (L : List Ent) : Prop := ∀ e ∈ L, e.1.size ≤ 200
theorem short_nil : Short [] := fun e h => by cases h
theorem drawn_to {w w' : World} (h : Drawn w w') : Below w.heap.size w w' := by
  obtain ⟨n, rfl⟩ := h
  exact Below.drewMany (Below.refl _ _) n
set_option maxHeartbeats 2000000 in
theorem ref_Words9 {S S' : Nat → Prop} (va vb : Value) (ks : List ByteArray) (w : World) (ha : CutS S w va ks) (hb : CutS S' w vb ks) (hn : ks.length ≤ 1000000) :
    Calls Tryd.prog 55 #[va, vb] w fun e w' => e = .returned (.bool true) ∧ Below w.heap.size w w' := by
  have HA := Lib.hid ha
  have HB := Lib.hid hb
  obtain ⟨a1, c1, rfl, _⟩ := ha.shape
  obtain ⟨a2, c2, rfl, _⟩ := hb.shape
  obtain ⟨N, hN⟩ : ∃ N, N = ks.length := ⟨_, rfl⟩
  rw [← hN]
  have HN := Lib.hid hN
  have hn6 : (N : Int) ≤ 1000000 := by omega
  clear ha hb hN hn
  go_enter Tryd.func55, Tryd.ntmps55
  go_wp2_with fail
  go_loopw [13] (fun i wl => ∃ k : Nat, i = .int .i64 (k : Int) ∧ k ≤ N ∧ Hid (Below w.heap.size w wl)) (fun i _ => N - (intOf i).toNat)
  case atStart => exact ⟨0, rfl, Nat.zero_le _, Below.refl _ _⟩
  case round =>
    obtain ⟨k, rfl, hk, HBK⟩ := hrel
    by_cases hlt : k < N
    · have hlt' : (k : Int) < N := by omega
      have hkl : k < ks.length := by rw [← HN.out]; exact hlt
      obtain ⟨g1, o1, d1, e1, _, hc1⟩ := (HA.out.later HBK.out).cell hkl
      obtain ⟨g2, o2, d2, e2, _, hc2⟩ := (HB.out.later HBK.out).cell hkl
      simp only [Value.slice.injEq] at e1 e2
      obtain ⟨rfl, _, rfl⟩ := e1
      obtain ⟨rfl, _, rfl⟩ := e2
      obtain ⟨s, hs⟩ : ∃ s, s = ks[k] := ⟨_, rfl⟩
      rw [← hs] at hc1 hc2
      have HLT := Lib.hid hlt
      clear hs hkl
      have HC : Hid (wr.cell? ⟨g1, o1 + k, none⟩ = some (.string s) ∧ wr.cell? ⟨g2, o2 + k, none⟩ = some (.string s)) := ⟨hc1, hc2⟩
      go_upto_region 6 with fail
      go_quiet (fail)
      go_wp2_with fail
      go_roundw
      case rel => exact ⟨k + 1, by simp, by have := HLT.out; omega, Below.drewMany HBK.out _⟩
      case measure => have := HLT.out; simp [intOf]; omega
    · obtain rfl : k = N := by omega
      go_wp2_with fail
      go_ret
      exact ⟨rfl, HBK.out⟩
theorem bel_lt {L : List Ent} (hL : Rise L) (k : ByteArray) {j : Nat} (h : j < (belE L k).length) : ∃ hj : j < L.length, kb L[j].1 < kb k := by
  have e := cut_take hL k
  have hle : (belE L k).length ≤ L.length := List.length_filter_le _ _
  refine ⟨by omega, ?_⟩
  have h1 : (L.take (belE L k).length)[j]? = some L[j] := by rw [List.getElem?_take_of_lt h, List.getElem?_eq_getElem (by omega)]
  rw [e] at h1
  have := (List.mem_filter.1 (List.mem_of_getElem? h1)).2
  simpa using this
theorem bel_at {L : List Ent} (hL : Rise L) (k : ByteArray) (h : (belE L k).length < L.length) : ¬ kb (L[(belE L k).length]).1 < kb k ∧ ((L[(belE L k).length]).1 = k ↔ (getE L k).isSome = true) := by
  refine ⟨fun hlt => ?_, (at_place hL k).1 _ (List.getElem?_eq_getElem h)⟩
  have e := cut_drop hL k
  have h1 : (L.drop (belE L k).length)[0]? = some L[(belE L k).length] := by rw [List.getElem?_drop, Nat.add_zero, List.getElem?_eq_getElem h]
  rw [e] at h1
  have hm : L[(belE L k).length] ∈ atE L k ++ abvE L k := List.mem_of_getElem? h1
  rcases List.mem_append.1 hm with hm | hm
  · unfold atE at hm
    cases hg : getE L k with
    | none => rw [hg] at hm; cases hm
    | some x =>
      rw [hg, List.mem_singleton] at hm
      rw [hm] at hlt
      exact lt_irrefl_l _ hlt
  · have := (List.mem_filter.1 hm).2
    exact lt_asym hlt (by simpa using this)
set_option maxHeartbeats 2000000 in
theorem ref_At9 (w : World) (c : Array Value) (L : List Ent) (k : ByteArray) (h : RefM w c L) (hL : Rise L) (hS : Short L) (hn : L.length ≤ 100000) :
    Calls Tryd.prog 71 #[.agg c, .string k] w fun e w' => e = .returned (.tuple #[.int .i64 ((belE L k).length : Nat), .bool (getE L k).isSome]) ∧ Below w.heap.size w w' := by
  obtain ⟨kv, xv, rfl, hk, hx⟩ := h
  have HK := Lib.hid hk
  obtain ⟨a1, c1, rfl, _⟩ := hk.shape
  obtain ⟨a2, c2, rfl, _⟩ := hx.shape
  rw [keysE_len, valsE_len]
  obtain ⟨N, hN⟩ : ∃ N, N = L.length := ⟨_, rfl⟩
  obtain ⟨M, hM⟩ : ∃ M, M = (belE L k).length := ⟨_, rfl⟩
  have hMN : M ≤ N := by rw [hN, hM]; exact List.length_filter_le _ _
  obtain ⟨w1, hw1⟩ : ∃ w1, w.alloc (.cells #[.slice a1 N c1, .slice a2 N c2] 40) = w1 := ⟨_, rfl⟩
  have hb1 : Below w.heap.size w w1 := by rw [← hw1]; exact Below.newly' _ _
  have hx1 : w1.heap[w.heap.size]? = some (.cells #[.slice a1 N c1, .slice a2 N c2] 40 (0, 0)) := by rw [← hw1]; exact heap_alloc_last _ _
  have c0 : w1.cell? ⟨w.heap.size, 0, none⟩ = some (.slice a1 N c1) := cell_in hx1 rfl
  rw [← hN, ← hM]
  have HBL := Lib.hid (fun j (hj : j < M) => bel_lt hL k (j := j) (by rw [← hM]; exact hj))
  have HBA := Lib.hid (fun (h : (belE L k).length < L.length) => bel_at hL k h)
  have HSH := Lib.hid hS
  have HNM := Lib.hid (And.intro hN hM)
  have HB1 := Lib.hid hb1
  have HX1 := Lib.hid hx1
  obtain ⟨q, hq⟩ : ∃ q, q = (getE L k).isSome := ⟨_, rfl⟩
  have HQ := Lib.hid hq
  rw [← hq]
  have hn6 : (N : Int) ≤ 100000 := by omega
  have HQF : Hid (M = N → q = false) := by
    intro e
    rw [hq]
    cases hg : getE L k with
    | none => rfl
    | some x =>
      obtain ⟨e', h1, _⟩ := (at_place hL k).2 (by rw [hg]; rfl)
      rw [← hM, e, hN, List.getElem?_eq_none (Nat.le_refl _)] at h1
      cases h1
  clear hk hx hL hS hb1 hx1 hq hN hM
  go_enter Tryd.func71, Tryd.ntmps71
  go_wp2_with fail
  clear hw1
  go_loopw [11] (fun i wl => ∃ j : Nat, i = .int .i64 (j : Int) ∧ j ≤ M ∧ Hid (Below w1.heap.size w1 wl)) (fun i _ => M - (intOf i).toNat)
  case atStart => exact ⟨0, rfl, Nat.zero_le _, Below.refl _ _⟩
  case round =>
    obtain ⟨j, rfl, hj, HBJ⟩ := hrel
    have HWJ := Lib.hid (HB1.out.trans (HBJ.out.mono HB1.out.size))
    have hx0 : wr.cell? ⟨w.heap.size, 0, none⟩ = some (.slice a1 N c1) := (HBJ.out.cell (p := ⟨w.heap.size, 0, none⟩) (Array.getElem?_eq_some_iff.1 HX1.out).1).trans (cell_in HX1.out rfl)
    by_cases hlt : j < N
    · have hlt' : (j : Int) < N := by omega
      have hjL : j < L.length := by rw [← HNM.out.1]; exact hlt
      obtain ⟨g1, d1, e1, hc1⟩ := (HK.out.later HWJ.out).cell (j := j) (by rw [keysE_len]; exact hjL)
      simp only [Value.slice.injEq] at e1
      obtain ⟨rfl, hdrop, rfl⟩ := e1
      clear hdrop
      have hkj : (keysE L)[j]'(by rw [keysE_len]; exact hjL) = L[j].1 := by unfold keysE; rw [List.getElem_map]
      rw [hkj] at hc1
      have hsz := HSH.out _ (List.getElem_mem hjL)
      have hord := ref_Order L[j].1 k
      have hcf := cft_neg k L[j]
      unfold cftK kb at hcf
      by_cases hjM : j < M
      · obtain ⟨_, hlk⟩ := HBL.out j hjM
        have hneg : decide (orderS L[j].1.data.toList k.data.toList < 0) = true := by rw [hcf]; exact decide_eq_true hlk
        obtain ⟨ky, hky⟩ : ∃ ky, ky = L[j].1 := ⟨_, rfl⟩
        rw [← hky] at hc1 hord hneg hsz
        obtain ⟨od, hod⟩ : ∃ od, od = orderS ky.data.toList k.data.toList := ⟨_, rfl⟩
        rw [← hod] at hord hneg
        have hng : od < 0 := by simpa using hneg
        have HORD := Lib.hid (fun W => hord W (by unfold maxLen; omega))
        have HJM := Lib.hid hjM
        clear hord hneg hcf hod hky hkj hlk hsz hjL hjM
        go_wp2_with (go_at_call 53; (with_reducible refine (HORD.out _).mono ?_); rintro e w3 ⟨rfl, hd3⟩; have HB3 := Lib.hid (HBJ.out.trans ((drawn_to hd3).mono HBJ.out.size)); clear hd3)
        go_roundw
        case rel => exact ⟨j + 1, by simp, by have := HJM.out; omega, HB3⟩
        case measure => have := HJM.out; simp [intOf]; omega
      · obtain rfl : j = M := by omega
        have hba := HBA.out (by have h := HNM.out; rw [← h.1, ← h.2]; exact hlt)
        simp only [← HNM.out.2] at hba
        have hneg : decide (orderS L[j].1.data.toList k.data.toList < 0) = false := by rw [hcf]; exact decide_eq_false hba.1
        have hqb : (L[j].1.toList == k.toList) = q := by
          rw [HQ.out]
          cases hg : (getE L k).isSome with
          | true => rw [hba.2.2 hg]; simp
          | false =>
            refine beq_eq_false_iff_ne.2 fun h => ?_
            have : L[j].1 = k := kb_inj (by rw [ByteArray.toList_eq, ByteArray.toList_eq] at h; exact h)
            rw [hba.2.1 this] at hg
            cases hg
        obtain ⟨ky, hky⟩ : ∃ ky, ky = L[j].1 := ⟨_, rfl⟩
        rw [← hky] at hc1 hord hneg hsz hqb
        obtain ⟨od, hod⟩ : ∃ od, od = orderS ky.data.toList k.data.toList := ⟨_, rfl⟩
        rw [← hod] at hord hneg
        have hng : 0 ≤ od := by simpa using hneg
        have HORD := Lib.hid (fun W => hord W (by unfold maxLen; omega))
        clear hord hneg hcf hod hky hkj hsz hjL hba
        go_wp2_with (go_at_call 53; (with_reducible refine (HORD.out _).mono ?_); rintro e w3 ⟨rfl, hd3⟩; have HB3 := Lib.hid (HBJ.out.trans ((drawn_to hd3).mono HBJ.out.size)); clear hd3)
        go_ret2
        exact ⟨rfl, HB1.out.trans (HB3.out.mono HB1.out.size)⟩
    · obtain rfl : j = M := by omega
      have hjN : j = N := by omega
      have hqf := HQF.out hjN
      subst hqf
      subst hjN
      go_wp2_with fail
      go_ret2
      exact ⟨rfl, HWJ.out⟩
end Go.Proofs.YtnnlfgfgfegjkaaDoor
