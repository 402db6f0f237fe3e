/- Lists of changes that are read; Turned and Apply, of package dict and of the document; the law's plain. (written by tools/gen10/dc4.py) -/
import Derived.Test.YtnnlfgfgfegjkaaDoorDc3
import Derived.Test.YtnnlfgfgfegjkaaDoorPkA
namespace Go.Proofs.YtnnlfgfgfegjkaaDoor
open Go.RowKit
set_option maxRecDepth 1000000
set_option linter.unusedSimpArgs false

/-- v is a list that reads as these changes: nil, or at the head of a block of the type T. -/
def ChL (T : TypeId) (w : World) (v : Value) (l : List Chg) : Prop := ∃ (a : Option Addr) (c : Nat), v = .slice a l.length c ∧ l.length ≤ maxLen ∧
  (0 < l.length → ∃ (g : Nat) (cs : Array Value) (fr : Nat × Nat), a = some ⟨g, 0, none⟩ ∧ w.heap[g]? = some (.cells cs T fr) ∧ ∀ j (h : j < l.length) (k : Nat) (u : Value), (chgC l[j])[k]? = some u → cs[j * 5 + k]? = some u)
section
variable {T : TypeId} {w w' : World} {v : Value} {l : List Chg}
theorem ChL.kept {row : Option Nat} (h : ChL T w v l) (hg : w.grownBy w' row) (hT : ∀ X, row = some X → ∀ cs fr, w.heap[X]? ≠ some (.cells cs T fr)) : ChL T w' v l := by
  obtain ⟨a, c, h1, h2, h3⟩ := h
  refine ⟨a, c, h1, h2, fun h0 => ?_⟩
  obtain ⟨g, cs, fr, h4, h5, h6⟩ := h3 h0
  exact ⟨g, cs, fr, h4, (hg.block g (Array.getElem?_eq_some_iff.1 h5).1 (fun e => hT g e.symm cs fr h5)).trans h5, h6⟩
theorem ChL.later (h : ChL T w v l) (hb : Below w.heap.size w w') : ChL T w' v l := h.kept (row := none) ⟨hb.os, hb.tape, hb.output, hb.size, fun k hk _ => hb.block k hk⟩ (fun X e => by cases e)
theorem ChL.but {X : Nat} {cs : Array Value} {U : TypeId} {fr : Nat × Nat} (h : ChL T w v l) (k : Only X w w') (hX : w.heap[X]? = some (.cells cs U fr)) (hT : U ≠ T) : ChL T w' v l := h.kept k.by_ (fun Y e cs' fr' h' => by
  cases e
  rw [hX] at h'
  simp only [Option.some.injEq, Obj.cells.injEq] at h'
  exact hT h'.2.1)
theorem ChL.shape (h : ChL T w v l) : ∃ a c, v = .slice a l.length c ∧ l.length ≤ maxLen := by
  obtain ⟨a, c, h1, h2, _⟩ := h
  exact ⟨a, c, h1, h2⟩
theorem ChL.row (h : ChL T w v l) {j : Nat} (hj : j < l.length) : ∃ g c, v = .slice (some ⟨g, 0, none⟩) l.length c ∧ w.rangeAt g (j * 5) (chgC l[j]).toList := by
  obtain ⟨a, c, h1, _, h3⟩ := h
  obtain ⟨g, cs, fr, rfl, h5, h6⟩ := h3 (by omega)
  refine ⟨g, c, h1, fun k u hu => cell_in h5 (h6 j hj k u ?_)⟩
  rw [← Array.getElem?_toList]
  exact hu
theorem ChL.nil (T : TypeId) (w : World) : ChL T w (.slice none 0 0) [] := ⟨none, 0, rfl, Nat.zero_le _, fun h => absurd h (by simp)⟩
theorem RowsOwn.chl {B : Nat} (h : RowsOwn B T 5 v (l.map chgC) w) : ChL T w v l := by
  have hr := h
  obtain ⟨⟨_, h2⟩, _, _⟩ := h
  rw [List.length_map] at h2
  rcases h2 with ⟨rfl, h0⟩ | ⟨g, cap, cur, fz, rfl, _, hg, _, h3, h4, _, _⟩
  · exact ⟨none, 0, by rw [h0], by omega, fun h => by omega⟩
  · refine ⟨_, cap, rfl, by omega, fun _ => ⟨g, cur, fz, rfl, hg, fun j hj k u hu => ?_⟩⟩
    have h := hr.read rfl (i := j) (c := chgC l[j]) (by rw [List.getElem?_map, List.getElem?_eq_getElem hj]; rfl) k u (by rw [Array.getElem?_toList]; exact hu)
    rw [cell_of_row w g _ cur T fz hg] at h
    exact h
/-- An empty list that is there. -/
theorem rows_empty {B g : Nat} (hB : B ≤ g) (hw : B ≤ w.heap.size) (hg : w.heap[g]? = some (.cells #[] T (0, 0))) : RowsOwn B T 5 (.slice (some ⟨g, 0, none⟩) 0 0) ((([] : List Chg)).map chgC) w :=
  ⟨⟨rfl, .inr ⟨g, 0, #[], (0, 0), rfl, hB, hg, Nat.le_refl _, Nat.le_refl _, by decide, rfl, rfl⟩⟩, hw, fun c hc => by cases hc⟩
end
/-- 'make([]T, 0, n)' of structs. -/
theorem rows_make {ops : Array Oper} {rest : List Oper} {o : Oper} {a : Act} {Q : Exit → Act → World → Prop} {w : World} (hgd : o.guard = none) (t e : TypeId) (l c : Operand) (hop : o.op = .makeSlice t l c)
    {B s by_ : Nat} {z : Value} (hu : Tryd.prog.underlying t = some (.slice e)) (hi : (Tryd.prog.info? e).map (fun i => (i.zero, i.size, i.bytes)) = some (some z, s, by_)) (kl kc : IntKind) (C : Int) (n : Nat) (hl : a.eval l = .int kl 0) (hc : a.eval c = .int kc C) (hC : C = (n : Int)) (hn : n ≤ 10000000) (hby : by_ ≤ 1000000) (hB : B ≤ w.heap.size)
    (h : ∀ w', RowsOwn B e s (.slice (some ⟨w.heap.size, 0, none⟩) 0 n) [] w' → Below w.heap.size w w' → wpList Tryd.prog ops Q rest (a.put o.dst (.slice (some ⟨w.heap.size, 0, none⟩) 0 n)) w') : wpList Tryd.prog ops Q (o :: rest) a w :=
  wpList_plain hgd fun _ hK => by
    obtain ⟨i, hi0, hz, h1, h2⟩ := info_parts hi
    have hb1 : by_ * n ≤ 1000000 * 10000000 := Nat.mul_le_mul hby hn
    obtain ⟨w', hrun, r1, r2⟩ := run_make_own (P := Tryd.prog) w B t e i z s hu hi0 hz h1 kl kc n (by rw [h2]; omega) (by unfold maxLen; omega) hB
    subst hC
    unfold Oper.wp
    simp [execOp, hop, hl, hc, hrun, Result.andThen]
    have hb : Below w.heap.size w w' := (Below.refl _ _).grown r2 (Nat.le_refl _) (fun k hk => by cases hk)
    exact hK _ _ (h w' ⟨World.ownsRowF_of r1, Nat.le_trans hB hb.size, fun c hc => by cases hc⟩ hb)
theorem chgC_size (c : Chg) : (chgC c).size = 5 := rfl
theorem chg1_size : (Tryd.prog.info? 73).map (·.size) = some 5 := by kernel_rfl
theorem ld_chg1 {ops : Array Oper} {rest : List Oper} {o : Oper} {a : Act} {w : World} {Q : Exit → Act → World → Prop} (hwd : Region.wanted o (yielded ops a.tmps) = true) (y : Operand) (ho : o.op = .load 73 y)
    (b k : Nat) (hx : a.eval y = .pointer (some ⟨b, k, none⟩)) (x : Chg) (hR : w.rangeAt b k (chgC x).toList)
    (h : wpList Tryd.prog ops Q rest (a.put o.dst (.agg (chgC x))) w) : wpList Tryd.prog ops Q (o :: rest) a w :=
  wpList_step fun _ hK => by
    rw [if_pos hwd]
    exact wp_load_mid 73 y ho b k hx _ _ hR Tryd.underlying73 rfl chg1_size (hK _ _ h)
theorem chg2_size : (Tryd.prog.info? 74).map (·.size) = some 5 := by kernel_rfl
theorem ld_chg2 {ops : Array Oper} {rest : List Oper} {o : Oper} {a : Act} {w : World} {Q : Exit → Act → World → Prop} (hwd : Region.wanted o (yielded ops a.tmps) = true) (y : Operand) (ho : o.op = .load 74 y)
    (b k : Nat) (hx : a.eval y = .pointer (some ⟨b, k, none⟩)) (x : Chg) (hR : w.rangeAt b k (chgC x).toList)
    (h : wpList Tryd.prog ops Q rest (a.put o.dst (.agg (chgC x))) w) : wpList Tryd.prog ops Q (o :: rest) a w :=
  wpList_step fun _ hK => by
    rw [if_pos hwd]
    exact wp_load_mid 74 y ho b k hx _ _ hR Tryd.underlying74 rfl chg2_size (hK _ _ h)
set_option maxHeartbeats 4000000 in
theorem dc_Turned (w : World) (v : Value) (l : List Chg) (h : ChL 73 w v l) (hn : l.length ≤ 100000) :
    Calls Tryd.prog 39 #[v] w fun r w' => ∃ v', r = .returned v' ∧ RowsOwn w.heap.size 73 5 v' ((l.map turnC).map chgC) w' ∧ Below w.heap.size w w' := by
  have HL := Lib.hid h
  obtain ⟨a, cp, rfl, hmax⟩ := h.shape
  obtain ⟨N, hN⟩ : ∃ N, N = l.length := ⟨_, rfl⟩
  have hN4 : (N : Int) ≤ 100000 := by omega
  have HN : Hid (N ≤ 10000000) := by show _ ≤ _; omega
  have HNL : Hid (N = l.length ∧ N ≤ 100000) := ⟨hN, by omega⟩
  rw [← hN] at HL ⊢
  clear h hn hmax hN
  go_enter Tryd.func39, Tryd.ntmps39
  go_wp2_with (refine rows_make (B := w.heap.size) (by_ := 40) (z := .agg chgZ) rfl 59 73 _ _ rfl Tryd.underlying59 rfl .i64 .i64 _ N rfl rfl rfl HN.out (by decide) (Nat.le_refl _) ?_; intro w1 h1 hb1; have HRO := Lib.hid h1; have HB := Lib.hid hb1; clear h1 hb1)
  go_loopw [3, 11] (fun v3 i wl => ∃ j : Nat, i = .int .i64 (j : Int) ∧ j ≤ N ∧ Hid (RowsOwn w.heap.size 73 5 v3 (((l.take j).map turnC).map chgC) wl) ∧ Hid (Below w.heap.size w wl)) (fun _ i _ => N - (intOf i).toNat)
  case atStart => exact ⟨0, rfl, Nat.zero_le _, HRO, HB⟩
  case round =>
    clear HRO HB
    obtain ⟨j, rfl, hj, HRO, HB⟩ := hrel
    by_cases hlt : j < N
    · have hlt' : (j : Int) < N := by omega
      have hjL : j < l.length := by rw [← HNL.out.1]; exact hlt
      obtain ⟨g, cp', e1, hrow⟩ := (HL.out.later HB.out).row hjL
      simp only [Value.slice.injEq] at e1
      obtain ⟨rfl, hdr, rfl⟩ := e1
      clear hdr
      have HTK := Lib.hid (List.take_succ_eq_append_getElem hjL)
      have HLT := Lib.hid hlt
      have HROW := Lib.hid hrow
      have HLEN : Hid ((((l.take j).map turnC).map chgC).length ≤ 100000) := by show _ ≤ _; rw [List.length_map, List.length_map, List.length_take]; have := HNL.out; omega
      obtain ⟨⟨c1, c2, c3, c4, c5⟩, hc⟩ : ∃ c, c = l[j] := ⟨_, rfl⟩
      rw [← hc] at HROW HTK
      clear hc hrow hjL hlt
      go_upto_region 5 with (refine ld_chg1 (by rfl) _ rfl g (j * 5) rfl (c1, c2, c3, c4, c5) HROW.out ?_)
      obtain ⟨w5, hw5⟩ : ∃ w5, wr.alloc (.cells (chgC (c1, c2, c3, c4, c5)) 73) = w5 := ⟨_, rfl⟩
      obtain ⟨hb5, hx5, hs5⟩ := new_below hw5
      have q0 : w5.cell? ⟨wr.heap.size, 0, none⟩ = some (.string c1) := cell_in hx5 rfl
      have q1 : w5.cell? ⟨wr.heap.size, 1, none⟩ = some (.bool c2) := cell_in hx5 rfl
      have q2 : w5.cell? ⟨wr.heap.size, 2, none⟩ = some (.bool c3) := cell_in hx5 rfl
      have q3 : w5.cell? ⟨wr.heap.size, 3, none⟩ = some (.int .i64 c4) := cell_in hx5 rfl
      have q4 : w5.cell? ⟨wr.heap.size, 4, none⟩ = some (.int .i64 c5) := cell_in hx5 rfl
      replace HRO := Lib.hid (HRO.out.later hb5)
      replace HB := Lib.hid (HB.out.trans (hb5.mono HB.out.size))
      clear hb5 hx5 hs5
      rw [hw5]
      clear hw5
      go_wp2_with (first
        | (refine bs_list rfl 59 73 _ rfl (chgC (c1, c3, c2, c5, c4)) 5 (.agg chgZ) rfl rfl (by decide) (by decide) Tryd.underlying59 rfl ?_; intro w6 h6 hb6 hs6; replace HRO := Lib.hid (HRO.out.later hb6); replace HB := Lib.hid (HB.out.trans (hb6.mono HB.out.size)); have HG6 := Lib.hid h6; clear h6 hb6 hs6)
        | (refine rows_list rfl (z := .agg chgZ) (by_ := 40) 59 73 _ _ rfl rfl HRO.out w5.heap.size rfl HG6.out rfl (chgC_one _) Tryd.underlying59 rfl rfl (by decide) HLEN.out (by decide) ?_; intro v7 w7 hr7 hg7; replace HB := Lib.hid (HB.out.trans (HRO.out.below hg7 (Nat.le_refl _) HB.out.size)); have HR7 := Lib.hid hr7; clear hr7 hg7))
      go_roundw
      case rel =>
        refine ⟨j + 1, by simp, by have := HLT.out; omega, ?_, HB⟩
        show RowsOwn _ _ _ _ _ _
        rw [HTK.out, List.map_append, List.map_append]
        exact HR7.out
      case measure => have := HLT.out; simp [intOf]; omega
    · obtain rfl : j = N := by omega
      rw [HNL.out.1, List.take_length] at HRO
      go_wp2_with fail
      go_ret
      exact ⟨_, rfl, HRO.out, HB.out⟩
set_option maxHeartbeats 4000000 in
theorem rf_Turned (w : World) (v : Value) (l : List Chg) (h : ChL 74 w v l) (hn : l.length ≤ 100000) :
    Calls Tryd.prog 40 #[v] w fun r w' => ∃ v', r = .returned v' ∧ RowsOwn w.heap.size 74 5 v' ((l.map turnC).map chgC) w' ∧ Below w.heap.size w w' := by
  have HL := Lib.hid h
  obtain ⟨a, cp, rfl, hmax⟩ := h.shape
  obtain ⟨N, hN⟩ : ∃ N, N = l.length := ⟨_, rfl⟩
  have hN4 : (N : Int) ≤ 100000 := by omega
  have HN : Hid (N ≤ 10000000) := by show _ ≤ _; omega
  have HNL : Hid (N = l.length ∧ N ≤ 100000) := ⟨hN, by omega⟩
  rw [← hN] at HL ⊢
  clear h hn hmax hN
  go_enter Tryd.func40, Tryd.ntmps40
  go_upto_region 2 with fail
  have HRO : Hid (RowsOwn w.heap.size 74 5 (.slice (some ⟨w.heap.size, 0, none⟩) 0 0) ((([] : List Chg)).map chgC) (w.alloc (.cells #[] 74))) := rows_empty (Nat.le_refl _) (by simp) (heap_alloc_last w _)
  have HB : Hid (Below w.heap.size w (w.alloc (.cells #[] 74))) := Below.newly' _ _
  go_wp2_with fail
  go_loopw [3, 9] (fun v3 i wl => ∃ j : Nat, i = .int .i64 (j : Int) ∧ j ≤ N ∧ Hid (RowsOwn w.heap.size 74 5 v3 (((l.take j).map turnC).map chgC) wl) ∧ Hid (Below w.heap.size w wl)) (fun _ i _ => N - (intOf i).toNat)
  case atStart => exact ⟨0, rfl, Nat.zero_le _, HRO, HB⟩
  case round =>
    clear HRO HB
    obtain ⟨j, rfl, hj, HRO, HB⟩ := hrel
    by_cases hlt : j < N
    · have hlt' : (j : Int) < N := by omega
      have hjL : j < l.length := by rw [← HNL.out.1]; exact hlt
      obtain ⟨g, cp', e1, hrow⟩ := (HL.out.later HB.out).row hjL
      simp only [Value.slice.injEq] at e1
      obtain ⟨rfl, hdr, rfl⟩ := e1
      clear hdr
      have HTK := Lib.hid (List.take_succ_eq_append_getElem hjL)
      have HLT := Lib.hid hlt
      have HROW := Lib.hid hrow
      have HLEN : Hid ((((l.take j).map turnC).map chgC).length ≤ 100000) := by show _ ≤ _; rw [List.length_map, List.length_map, List.length_take]; have := HNL.out; omega
      obtain ⟨⟨c1, c2, c3, c4, c5⟩, hc⟩ : ∃ c, c = l[j] := ⟨_, rfl⟩
      rw [← hc] at HROW HTK
      clear hc hrow hjL hlt
      go_upto_region 5 with (refine ld_chg2 (by rfl) _ rfl g (j * 5) rfl (c1, c2, c3, c4, c5) HROW.out ?_)
      obtain ⟨w5, hw5⟩ : ∃ w5, wr.alloc (.cells (chgC (c1, c2, c3, c4, c5)) 74) = w5 := ⟨_, rfl⟩
      obtain ⟨hb5, hx5, hs5⟩ := new_below hw5
      have q0 : w5.cell? ⟨wr.heap.size, 0, none⟩ = some (.string c1) := cell_in hx5 rfl
      have q1 : w5.cell? ⟨wr.heap.size, 1, none⟩ = some (.bool c2) := cell_in hx5 rfl
      have q2 : w5.cell? ⟨wr.heap.size, 2, none⟩ = some (.bool c3) := cell_in hx5 rfl
      have q3 : w5.cell? ⟨wr.heap.size, 3, none⟩ = some (.int .i64 c4) := cell_in hx5 rfl
      have q4 : w5.cell? ⟨wr.heap.size, 4, none⟩ = some (.int .i64 c5) := cell_in hx5 rfl
      replace HRO := Lib.hid (HRO.out.later hb5)
      replace HB := Lib.hid (HB.out.trans (hb5.mono HB.out.size))
      clear hb5 hx5 hs5
      rw [hw5]
      clear hw5
      go_wp2_with (first
        | (refine bs_list rfl 64 74 _ rfl (chgC (c1, c3, c2, c5, c4)) 5 (.agg chgZ) rfl rfl (by decide) (by decide) Tryd.underlying64 rfl ?_; intro w6 h6 hb6 hs6; replace HRO := Lib.hid (HRO.out.later hb6); replace HB := Lib.hid (HB.out.trans (hb6.mono HB.out.size)); have HG6 := Lib.hid h6; clear h6 hb6 hs6)
        | (refine rows_list rfl (z := .agg chgZ) (by_ := 40) 64 74 _ _ rfl rfl HRO.out w5.heap.size rfl HG6.out rfl (chgC_one _) Tryd.underlying64 rfl rfl (by decide) HLEN.out (by decide) ?_; intro v7 w7 hr7 hg7; replace HB := Lib.hid (HB.out.trans (HRO.out.below hg7 (Nat.le_refl _) HB.out.size)); have HR7 := Lib.hid hr7; clear hr7 hg7))
      go_roundw
      case rel =>
        refine ⟨j + 1, by simp, by have := HLT.out; omega, ?_, HB⟩
        show RowsOwn _ _ _ _ _ _
        rw [HTK.out, List.map_append, List.map_append]
        exact HR7.out
      case measure => have := HLT.out; simp [intOf]; omega
    · obtain rfl : j = N := by omega
      rw [HNL.out.1, List.take_length] at HRO
      go_wp2_with fail
      go_ret
      exact ⟨_, rfl, HRO.out, HB.out⟩
set_option maxHeartbeats 4000000 in
theorem pl_plain (w : World) (v : Value) (l : List Chg) (h : ChL 73 w v l) (hn : l.length ≤ 100000) :
    Calls Tryd.prog 37 #[v] w fun r w' => ∃ v', r = .returned v' ∧ RowsOwn w.heap.size 74 5 v' ((l.map id).map chgC) w' ∧ Below w.heap.size w w' := by
  have HL := Lib.hid h
  obtain ⟨a, cp, rfl, hmax⟩ := h.shape
  obtain ⟨N, hN⟩ : ∃ N, N = l.length := ⟨_, rfl⟩
  have hN4 : (N : Int) ≤ 100000 := by omega
  have HN : Hid (N ≤ 10000000) := by show _ ≤ _; omega
  have HNL : Hid (N = l.length ∧ N ≤ 100000) := ⟨hN, by omega⟩
  rw [← hN] at HL ⊢
  clear h hn hmax hN
  go_enter Tryd.func37, Tryd.ntmps37
  go_upto_region 2 with fail
  have HRO : Hid (RowsOwn w.heap.size 74 5 (.slice (some ⟨w.heap.size, 0, none⟩) 0 0) ((([] : List Chg)).map chgC) (w.alloc (.cells #[] 74))) := rows_empty (Nat.le_refl _) (by simp) (heap_alloc_last w _)
  have HB : Hid (Below w.heap.size w (w.alloc (.cells #[] 74))) := Below.newly' _ _
  go_wp2_with fail
  go_loopw [3, 9] (fun v3 i wl => ∃ j : Nat, i = .int .i64 (j : Int) ∧ j ≤ N ∧ Hid (RowsOwn w.heap.size 74 5 v3 (((l.take j).map id).map chgC) wl) ∧ Hid (Below w.heap.size w wl)) (fun _ i _ => N - (intOf i).toNat)
  case atStart => exact ⟨0, rfl, Nat.zero_le _, HRO, HB⟩
  case round =>
    clear HRO HB
    obtain ⟨j, rfl, hj, HRO, HB⟩ := hrel
    by_cases hlt : j < N
    · have hlt' : (j : Int) < N := by omega
      have hjL : j < l.length := by rw [← HNL.out.1]; exact hlt
      obtain ⟨g, cp', e1, hrow⟩ := (HL.out.later HB.out).row hjL
      simp only [Value.slice.injEq] at e1
      obtain ⟨rfl, hdr, rfl⟩ := e1
      clear hdr
      have HTK := Lib.hid (List.take_succ_eq_append_getElem hjL)
      have HLT := Lib.hid hlt
      have HROW := Lib.hid hrow
      have HLEN : Hid ((((l.take j).map id).map chgC).length ≤ 100000) := by show _ ≤ _; rw [List.length_map, List.length_map, List.length_take]; have := HNL.out; omega
      obtain ⟨⟨c1, c2, c3, c4, c5⟩, hc⟩ : ∃ c, c = l[j] := ⟨_, rfl⟩
      rw [← hc] at HROW HTK
      clear hc hrow hjL hlt
      go_upto_region 5 with (refine ld_chg1 (by rfl) _ rfl g (j * 5) rfl (c1, c2, c3, c4, c5) HROW.out ?_)
      obtain ⟨w5, hw5⟩ : ∃ w5, wr.alloc (.cells (chgC (c1, c2, c3, c4, c5)) 73) = w5 := ⟨_, rfl⟩
      obtain ⟨hb5, hx5, hs5⟩ := new_below hw5
      have q0 : w5.cell? ⟨wr.heap.size, 0, none⟩ = some (.string c1) := cell_in hx5 rfl
      have q1 : w5.cell? ⟨wr.heap.size, 1, none⟩ = some (.bool c2) := cell_in hx5 rfl
      have q2 : w5.cell? ⟨wr.heap.size, 2, none⟩ = some (.bool c3) := cell_in hx5 rfl
      have q3 : w5.cell? ⟨wr.heap.size, 3, none⟩ = some (.int .i64 c4) := cell_in hx5 rfl
      have q4 : w5.cell? ⟨wr.heap.size, 4, none⟩ = some (.int .i64 c5) := cell_in hx5 rfl
      replace HRO := Lib.hid (HRO.out.later hb5)
      replace HB := Lib.hid (HB.out.trans (hb5.mono HB.out.size))
      clear hb5 hx5 hs5
      rw [hw5]
      clear hw5
      go_wp2_with (first
        | (refine bs_list rfl 64 74 _ rfl (chgC (c1, c2, c3, c4, c5)) 5 (.agg chgZ) rfl rfl (by decide) (by decide) Tryd.underlying64 rfl ?_; intro w6 h6 hb6 hs6; replace HRO := Lib.hid (HRO.out.later hb6); replace HB := Lib.hid (HB.out.trans (hb6.mono HB.out.size)); have HG6 := Lib.hid h6; clear h6 hb6 hs6)
        | (refine rows_list rfl (z := .agg chgZ) (by_ := 40) 64 74 _ _ rfl rfl HRO.out w5.heap.size rfl HG6.out rfl (chgC_one _) Tryd.underlying64 rfl rfl (by decide) HLEN.out (by decide) ?_; intro v7 w7 hr7 hg7; replace HB := Lib.hid (HB.out.trans (HRO.out.below hg7 (Nat.le_refl _) HB.out.size)); have HR7 := Lib.hid hr7; clear hr7 hg7))
      go_roundw
      case rel =>
        refine ⟨j + 1, by simp, by have := HLT.out; omega, ?_, HB⟩
        show RowsOwn _ _ _ _ _ _
        rw [HTK.out, List.map_append, List.map_append]
        exact HR7.out
      case measure => have := HLT.out; simp [intOf]; omega
    · obtain rfl : j = N := by omega
      rw [HNL.out.1, List.take_length] at HRO
      go_wp2_with fail
      go_ret
      exact ⟨_, rfl, HRO.out, HB.out⟩
set_option maxHeartbeats 4000000 in
theorem dc_Apply (w : World) (s : Nat) (hss : s < 18446744073709551616) (n : Int) (L : List Ent) (c : Array Value) (v : Value) (l : List Chg) (h : ML w s n L c) (hL : Rise L) (hn : L.length + l.length ≤ 40000) (hv : ChL 73 w v l) (hK : ∀ x ∈ l, x.1.size ≤ 200) (hT : Tab6 w) :
    Calls Tryd.prog 41 #[.agg c, v] w fun r w' => ∃ c', r = .returned (.agg c') ∧ ML w' s n (appsE L l) c' ∧ Below w.heap.size w w' := by
  obtain ⟨w0, hw0⟩ : ∃ w0, (w.alloc (.cells c 36)).alloc (.cells mapZ 36) = w0 := ⟨_, rfl⟩
  obtain ⟨hb0, hx, hr, hs0⟩ := two_newG hw0
  obtain ⟨a, cp, hva, _⟩ := hv.shape
  obtain ⟨N, hN⟩ : ∃ N, N = l.length := ⟨_, rfl⟩
  have HL0 := Lib.hid hv
  rw [← hN] at hva
  subst hva
  have HNL : Hid (N = l.length ∧ L.length + N ≤ 40000) := ⟨hN, by omega⟩
  have HRL := Lib.hid hL
  have HTB := Lib.hid (fun W (hb : Below w.heap.size w W) => hT.below hb)
  have HKS := Lib.hid hK
  clear hT hK
  have HM : Hid (MB w0 s n (appsE L (l.take 0)) w.heap.size) := by
    show MB _ _ _ _ _
    rw [List.take_zero]
    exact ⟨c, hx, h.later hb0⟩
  have HL : Hid (ChL 73 w0 (.slice a N cp) l) := HL0.out.later hb0
  have HR := Lib.hid hr
  have HB := Lib.hid hb0
  have hn4 : (N : Int) ≤ 40000 := by omega
  clear h hL hn hv hb0 hx hr hs0 hN HL0
  go_enter Tryd.func41, Tryd.ntmps41
  go_upto_region 1 with fail
  clear hw0
  go_wp2_with fail
  go_loopw [9] (fun i wl => ∃ j : Nat, i = .int .i64 (j : Int) ∧ j ≤ N ∧ Hid (MB wl s n (appsE L (l.take j)) w.heap.size) ∧ Hid (ChL 73 wl (.slice a N cp) l) ∧ Hid (wl.heap[w.heap.size + 1]? = some (.cells mapZ 36 (0, 0))) ∧ Hid (Below w.heap.size w wl)) (fun i _ => N - (intOf i).toNat)
  case atStart => exact ⟨0, rfl, Nat.zero_le _, HM, HL, HR, HB⟩
  case round =>
    clear HM HL HR HB
    obtain ⟨j, rfl, hj, HM, HL, HR, HB⟩ := hrel
    by_cases hlt : j < N
    · have hlt' : (j : Int) < N := by omega
      have hjL : j < l.length := by rw [← HNL.out.1]; exact hlt
      obtain ⟨g, cp', e1, hrow⟩ := HL.out.row hjL
      simp only [Value.slice.injEq] at e1
      obtain ⟨rfl, hdr, rfl⟩ := e1
      clear hdr
      have HEA := Lib.hid (apps_take L hjL)
      have HLT := Lib.hid hlt
      have HROW := Lib.hid hrow
      have HRI := Lib.hid (apps_rise HRL.out (l.take j))
      have HLN : Hid ((appsE L (l.take j)).length ≤ 40000) := by show _ ≤ _; have := apps_len HRL.out (l.take j); rw [List.length_take] at this; have := HNL.out; omega
      have HKL := Lib.hid (HKS.out _ (List.getElem_mem hjL))
      skip
      obtain ⟨D, hD⟩ : ∃ D, D = appsE L (l.take j) := ⟨_, rfl⟩
      obtain ⟨⟨c1, c2, c3, c4, c5⟩, hc⟩ : ∃ c, c = l[j] := ⟨_, rfl⟩
      rw [← hc] at HROW HEA HKL
      rw [← hD] at HEA HRI HLN HM
      clear hc hrow hjL hlt hD
      go_upto_region 4 with (refine ld_chg1 (by rfl) _ rfl g (j * 5) rfl (c1, c2, c3, c4, c5) HROW.out ?_)
      obtain ⟨w5, hw5⟩ : ∃ w5, wr.alloc (.cells (chgC (c1, c2, c3, c4, c5)) 73) = w5 := ⟨_, rfl⟩
      obtain ⟨hb5, hx5, hs5⟩ := new_below hw5
      have q0 : w5.cell? ⟨wr.heap.size, 0, none⟩ = some (.string c1) := cell_in hx5 rfl
      have q2 : w5.cell? ⟨wr.heap.size, 2, none⟩ = some (.bool c3) := cell_in hx5 rfl
      have q4 : w5.cell? ⟨wr.heap.size, 4, none⟩ = some (.int .i64 c5) := cell_in hx5 rfl
      replace HM := Lib.hid (HM.out.later hb5)
      replace HR := Lib.hid ((hb5.block _ (Array.getElem?_eq_some_iff.1 HR.out).1).trans HR.out)
      replace HL := Lib.hid (HL.out.later hb5)
      replace HB := Lib.hid (HB.out.trans (hb5.mono HB.out.size))
      clear hb5 hx5 hs5
      rw [hw5]
      clear hw5
      obtain ⟨cm, hXm, hmm⟩ := HM.out
      have HXM := Lib.hid hXm
      have HZM := Lib.hid hmm.size
      have HST := Lib.hid (ml_Set w5 s hss n D cm c1 c5 (by have h : c1.size ≤ 200 := HKL.out; omega) hmm HRI.out (by have := HLN.out; omega) (HTB.out _ HB.out))
      have HCT := Lib.hid (ml_Cut w5 s hss n D cm c1 (by have h : c1.size ≤ 200 := HKL.out; omega) hmm HRI.out (by have := HLN.out; omega) (HTB.out _ HB.out))
      clear hXm hmm
      cases c3 with
      | true =>
        have HE2 : Hid (appC D (c1, c2, true, c4, c5) = insE D c1 c5) := rfl
        go_wp2_with (first
          | (refine ld_if (by rfl) 36 _ rfl w.heap.size rfl 36 cm _ _ HXM.out Tryd.underlying36 rfl (by rw [HZM.out]; exact map_size) ?_)
          | (go_at_call 49; (with_reducible refine HST.out.mono ?_); rintro r w3 ⟨c9, rfl, hm3, hb⟩; replace HR := Lib.hid ((hb.block _ (Array.getElem?_eq_some_iff.1 HR.out).1).trans HR.out); replace HXM := Lib.hid ((hb.block _ (Array.getElem?_eq_some_iff.1 HXM.out).1).trans HXM.out); replace HL := Lib.hid (HL.out.later hb); replace HB := Lib.hid (HB.out.trans (hb.mono HB.out.size)); have HM3 := Lib.hid hm3; have HZ3 := Lib.hid hm3.size; clear hm3 hb)
          | (refine st_agg rfl 36 _ _ rfl w.heap.size c9 rfl rfl 36 _ HXM.out (by rw [HZ3.out]; exact map_size) (by rw [HZM.out, HZ3.out]) HM3.out.one ?_; intro w4 h4 k4; replace HR := Lib.hid (k4.other HR.out (by omega)); replace HL := Lib.hid (HL.out.but k4 HXM.out (by decide)); replace HB := Lib.hid (HB.out.trans (k4.below (by omega))); replace HM : Hid (MB w4 s n (appsE L (l.take (j + 1))) w.heap.size) := by (rw [HEA.out, HE2.out]; exact MB.wrote h4 k4 HXM.out HM3.out)))
        go_roundw
        case rel => exact ⟨j + 1, by simp, by have := HLT.out; omega, HM, HL, HR, HB⟩
        case measure => have := HLT.out; simp [intOf]; omega
      | false =>
        have HE2 : Hid (appC D (c1, c2, false, c4, c5) = delE D c1) := rfl
        go_wp2_with (first
          | (refine ld_if (by rfl) 36 _ rfl w.heap.size rfl 36 cm _ _ HXM.out Tryd.underlying36 rfl (by rw [HZM.out]; exact map_size) ?_)
          | (go_at_call 66; (with_reducible refine HCT.out.mono ?_); rintro r w3 ⟨c9, rfl, hm3, hb⟩; replace HR := Lib.hid ((hb.block _ (Array.getElem?_eq_some_iff.1 HR.out).1).trans HR.out); replace HXM := Lib.hid ((hb.block _ (Array.getElem?_eq_some_iff.1 HXM.out).1).trans HXM.out); replace HL := Lib.hid (HL.out.later hb); replace HB := Lib.hid (HB.out.trans (hb.mono HB.out.size)); have HM3 := Lib.hid hm3; have HZ3 := Lib.hid hm3.size; clear hm3 hb)
          | (refine st_agg rfl 36 _ _ rfl w.heap.size c9 rfl rfl 36 _ HXM.out (by rw [HZ3.out]; exact map_size) (by rw [HZM.out, HZ3.out]) HM3.out.one ?_; intro w4 h4 k4; replace HR := Lib.hid (k4.other HR.out (by omega)); replace HL := Lib.hid (HL.out.but k4 HXM.out (by decide)); replace HB := Lib.hid (HB.out.trans (k4.below (by omega))); replace HM : Hid (MB w4 s n (appsE L (l.take (j + 1))) w.heap.size) := by (rw [HEA.out, HE2.out]; exact MB.wrote h4 k4 HXM.out HM3.out)))
        go_roundw
        case rel => exact ⟨j + 1, by simp, by have := HLT.out; omega, HM, HL, HR, HB⟩
        case measure => have := HLT.out; simp [intOf]; omega
    · obtain rfl : j = N := by omega
      rw [HNL.out.1, List.take_length] at HM
      obtain ⟨cm, hXm, hmm⟩ := HM.out
      have HXM := Lib.hid hXm
      have HMM := Lib.hid hmm
      have HZM := Lib.hid hmm.size
      clear hXm hmm
      go_wp2_with (first
        | (refine ld_if (by rfl) 36 _ rfl w.heap.size rfl 36 cm _ _ HXM.out Tryd.underlying36 rfl (by rw [HZM.out]; exact map_size) ?_)
        | (refine st_agg rfl 36 _ _ rfl (w.heap.size + 1) cm rfl rfl 36 _ HR.out (by rw [HZM.out]; exact map_size) (by rw [HZM.out]; rfl) HMM.out.one ?_; intro w4 h4 k4))
      exact bodyPost_ret (results_cell_row rfl _ _ (w.heap.size + 1) 36 _ (0, 0) _ rfl h4 Tryd.underlying36 rfl (by rw [HZM.out]; exact map_size)) rfl ⟨cm, rfl, HMM.out.but k4 HR.out (by decide), HB.out.trans (k4.below (by omega))⟩
abbrev refZ : Array Value := #[.slice none 0 0, .slice none 0 0]
theorem short_app {L : List Ent} (h : Short L) {c : Chg} (hc : c.1.size ≤ 200) : Short (appC L c) := by
  unfold appC
  split
  · exact short_ins h hc _
  · exact short_del h _
theorem short_apps {L : List Ent} (h : Short L) {l : List Chg} (hl : ∀ c ∈ l, c.1.size ≤ 200) : ∀ j, Short (appsE L (l.take j)) := by
  intro j
  induction j with
  | zero => rw [List.take_zero]; exact h
  | succ j ih =>
    by_cases hj : j < l.length
    · rw [apps_take L hj]
      exact short_app ih (hl _ (List.getElem_mem hj))
    · rw [List.take_of_length_le (by omega)] at ih ⊢
      exact ih
set_option maxHeartbeats 4000000 in
theorem rf_Apply (w : World) (L : List Ent) (c : Array Value) (v : Value) (l : List Chg) (h : RefM w c L) (hL : Rise L) (hn : L.length + l.length ≤ 40000) (hv : ChL 74 w v l) (hS : Short L) (hK : ∀ x ∈ l, x.1.size ≤ 200) :
    Calls Tryd.prog 42 #[.agg c, v] w fun r w' => ∃ c', r = .returned (.agg c') ∧ RefM w' c' (appsE L l) ∧ Below w.heap.size w w' := by
  obtain ⟨w0, hw0⟩ : ∃ w0, (w.alloc (.cells c 40)).alloc (.cells refZ 40) = w0 := ⟨_, rfl⟩
  obtain ⟨hb0, hx, hr, hs0⟩ := two_newG hw0
  obtain ⟨a, cp, hva, _⟩ := hv.shape
  obtain ⟨N, hN⟩ : ∃ N, N = l.length := ⟨_, rfl⟩
  have HL0 := Lib.hid hv
  rw [← hN] at hva
  subst hva
  have HNL : Hid (N = l.length ∧ L.length + N ≤ 40000) := ⟨hN, by omega⟩
  have HRL := Lib.hid hL
  have HSS := Lib.hid (short_apps hS hK)
  have HKS := Lib.hid hK
  clear hS hK
  have HM : Hid (RB w0 (appsE L (l.take 0)) w.heap.size) := by
    show RB _ _ _
    rw [List.take_zero]
    exact ⟨c, hx, h.later hb0⟩
  have HL : Hid (ChL 74 w0 (.slice a N cp) l) := HL0.out.later hb0
  have HR := Lib.hid hr
  have HB := Lib.hid hb0
  have hn4 : (N : Int) ≤ 40000 := by omega
  clear h hL hn hv hb0 hx hr hs0 hN HL0
  go_enter Tryd.func42, Tryd.ntmps42
  go_upto_region 1 with fail
  clear hw0
  go_wp2_with fail
  go_loopw [9] (fun i wl => ∃ j : Nat, i = .int .i64 (j : Int) ∧ j ≤ N ∧ Hid (RB wl (appsE L (l.take j)) w.heap.size) ∧ Hid (ChL 74 wl (.slice a N cp) l) ∧ Hid (wl.heap[w.heap.size + 1]? = some (.cells refZ 40 (0, 0))) ∧ Hid (Below w.heap.size w wl)) (fun i _ => N - (intOf i).toNat)
  case atStart => exact ⟨0, rfl, Nat.zero_le _, HM, HL, HR, HB⟩
  case round =>
    clear HM HL HR HB
    obtain ⟨j, rfl, hj, HM, HL, HR, HB⟩ := hrel
    by_cases hlt : j < N
    · have hlt' : (j : Int) < N := by omega
      have hjL : j < l.length := by rw [← HNL.out.1]; exact hlt
      obtain ⟨g, cp', e1, hrow⟩ := HL.out.row hjL
      simp only [Value.slice.injEq] at e1
      obtain ⟨rfl, hdr, rfl⟩ := e1
      clear hdr
      have HEA := Lib.hid (apps_take L hjL)
      have HLT := Lib.hid hlt
      have HROW := Lib.hid hrow
      have HRI := Lib.hid (apps_rise HRL.out (l.take j))
      have HLN : Hid ((appsE L (l.take j)).length ≤ 40000) := by show _ ≤ _; have := apps_len HRL.out (l.take j); rw [List.length_take] at this; have := HNL.out; omega
      have HKL := Lib.hid (HKS.out _ (List.getElem_mem hjL))
      have HSH := Lib.hid (HSS.out j)
      obtain ⟨D, hD⟩ : ∃ D, D = appsE L (l.take j) := ⟨_, rfl⟩
      obtain ⟨⟨c1, c2, c3, c4, c5⟩, hc⟩ : ∃ c, c = l[j] := ⟨_, rfl⟩
      rw [← hc] at HROW HEA HKL
      rw [← hD] at HEA HRI HLN HM HSH
      clear hc hrow hjL hlt hD
      go_upto_region 4 with (refine ld_chg2 (by rfl) _ rfl g (j * 5) rfl (c1, c2, c3, c4, c5) HROW.out ?_)
      obtain ⟨w5, hw5⟩ : ∃ w5, wr.alloc (.cells (chgC (c1, c2, c3, c4, c5)) 74) = w5 := ⟨_, rfl⟩
      obtain ⟨hb5, hx5, hs5⟩ := new_below hw5
      have q0 : w5.cell? ⟨wr.heap.size, 0, none⟩ = some (.string c1) := cell_in hx5 rfl
      have q2 : w5.cell? ⟨wr.heap.size, 2, none⟩ = some (.bool c3) := cell_in hx5 rfl
      have q4 : w5.cell? ⟨wr.heap.size, 4, none⟩ = some (.int .i64 c5) := cell_in hx5 rfl
      replace HM := Lib.hid (HM.out.later hb5)
      replace HR := Lib.hid ((hb5.block _ (Array.getElem?_eq_some_iff.1 HR.out).1).trans HR.out)
      replace HL := Lib.hid (HL.out.later hb5)
      replace HB := Lib.hid (HB.out.trans (hb5.mono HB.out.size))
      clear hb5 hx5 hs5
      rw [hw5]
      clear hw5
      obtain ⟨cm, hXm, hmm⟩ := HM.out
      have HXM := Lib.hid hXm
      have HZM := Lib.hid hmm.size
      have HST := Lib.hid (ref_Set9 w5 cm D c1 c5 hmm HRI.out HSH.out (by have := HLN.out; omega))
      have HCT := Lib.hid (ref_Cut9 w5 cm D c1 hmm (by have := HLN.out; omega))
      clear hXm hmm
      cases c3 with
      | true =>
        have HE2 : Hid (appC D (c1, c2, true, c4, c5) = insE D c1 c5) := rfl
        go_wp2_with (first
          | (refine ld_if (by rfl) 40 _ rfl w.heap.size rfl 40 cm _ _ HXM.out Tryd.underlying40 rfl (by rw [HZM.out]; exact refm_size) ?_)
          | (go_at_call 50; (with_reducible refine HST.out.mono ?_); rintro r w3 ⟨c9, rfl, hm3, hb⟩; replace HR := Lib.hid ((hb.block _ (Array.getElem?_eq_some_iff.1 HR.out).1).trans HR.out); replace HXM := Lib.hid ((hb.block _ (Array.getElem?_eq_some_iff.1 HXM.out).1).trans HXM.out); replace HL := Lib.hid (HL.out.later hb); replace HB := Lib.hid (HB.out.trans (hb.mono HB.out.size)); have HM3 := Lib.hid hm3; have HZ3 := Lib.hid hm3.size; clear hm3 hb)
          | (refine st_agg rfl 40 _ _ rfl w.heap.size c9 rfl rfl 40 _ HXM.out (by rw [HZ3.out]; exact refm_size) (by rw [HZM.out, HZ3.out]) HM3.out.one ?_; intro w4 h4 k4; replace HR := Lib.hid (k4.other HR.out (by omega)); replace HL := Lib.hid (HL.out.but k4 HXM.out (by decide)); replace HB := Lib.hid (HB.out.trans (k4.below (by omega))); replace HM : Hid (RB w4 (appsE L (l.take (j + 1))) w.heap.size) := by (rw [HEA.out, HE2.out]; exact RB.wrote h4 k4 HXM.out HM3.out)))
        go_roundw
        case rel => exact ⟨j + 1, by simp, by have := HLT.out; omega, HM, HL, HR, HB⟩
        case measure => have := HLT.out; simp [intOf]; omega
      | false =>
        have HE2 : Hid (appC D (c1, c2, false, c4, c5) = delE D c1) := rfl
        go_wp2_with (first
          | (refine ld_if (by rfl) 40 _ rfl w.heap.size rfl 40 cm _ _ HXM.out Tryd.underlying40 rfl (by rw [HZM.out]; exact refm_size) ?_)
          | (go_at_call 67; (with_reducible refine HCT.out.mono ?_); rintro r w3 ⟨c9, rfl, hm3, hb⟩; replace HR := Lib.hid ((hb.block _ (Array.getElem?_eq_some_iff.1 HR.out).1).trans HR.out); replace HXM := Lib.hid ((hb.block _ (Array.getElem?_eq_some_iff.1 HXM.out).1).trans HXM.out); replace HL := Lib.hid (HL.out.later hb); replace HB := Lib.hid (HB.out.trans (hb.mono HB.out.size)); have HM3 := Lib.hid hm3; have HZ3 := Lib.hid hm3.size; clear hm3 hb)
          | (refine st_agg rfl 40 _ _ rfl w.heap.size c9 rfl rfl 40 _ HXM.out (by rw [HZ3.out]; exact refm_size) (by rw [HZM.out, HZ3.out]) HM3.out.one ?_; intro w4 h4 k4; replace HR := Lib.hid (k4.other HR.out (by omega)); replace HL := Lib.hid (HL.out.but k4 HXM.out (by decide)); replace HB := Lib.hid (HB.out.trans (k4.below (by omega))); replace HM : Hid (RB w4 (appsE L (l.take (j + 1))) w.heap.size) := by (rw [HEA.out, HE2.out]; exact RB.wrote h4 k4 HXM.out HM3.out)))
        go_roundw
        case rel => exact ⟨j + 1, by simp, by have := HLT.out; omega, HM, HL, HR, HB⟩
        case measure => have := HLT.out; simp [intOf]; omega
    · obtain rfl : j = N := by omega
      rw [HNL.out.1, List.take_length] at HM
      obtain ⟨cm, hXm, hmm⟩ := HM.out
      have HXM := Lib.hid hXm
      have HMM := Lib.hid hmm
      have HZM := Lib.hid hmm.size
      clear hXm hmm
      go_wp2_with (first
        | (refine ld_if (by rfl) 40 _ rfl w.heap.size rfl 40 cm _ _ HXM.out Tryd.underlying40 rfl (by rw [HZM.out]; exact refm_size) ?_)
        | (refine st_agg rfl 40 _ _ rfl (w.heap.size + 1) cm rfl rfl 40 _ HR.out (by rw [HZM.out]; exact refm_size) (by rw [HZM.out]; rfl) HMM.out.one ?_; intro w4 h4 k4))
      exact bodyPost_ret (results_cell_row rfl _ _ (w.heap.size + 1) 40 _ (0, 0) _ rfl h4 Tryd.underlying40 rfl (by rw [HZM.out]; exact refm_size)) rfl ⟨cm, rfl, HMM.out.but k4 HR.out (by decide) (by decide), HB.out.trans (k4.below (by omega))⟩
end Go.Proofs.YtnnlfgfgfegjkaaDoor
