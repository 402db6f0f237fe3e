/- Texts put together: Hm5 Hm6 Hm7. -/
import Derived.Test.YtnnlfgfgfegjkaaDoorPkG

/- Package hamt: with, at the lists. (written by tools/gen09/with5.py) -/
namespace Go.Proofs.YtnnlfgfgfegjkaaDoor
open Go.RowKit
set_option maxRecDepth 1000000
set_option linter.unusedSimpArgs false

theorem ep_elem (w : World) : (sizeOf (Tryd.prog.elem 32)).run Tryd.prog w = .ok 1 w := by
  have e : Tryd.prog.elem 32 = 106 := by kernel_rfl
  rw [e]
  obtain ⟨i, hi, _, h1, _⟩ := info_parts eptr_info
  simp [sizeOf, typeInfo, hi, h1]
theorem ep_under : Tryd.prog.underlying 32 = some (.slice (Tryd.prog.elem 32)) := by kernel_rfl
/-- What with gives of a node: a node with the key. -/
def WithOk (hs : ByteArray → Nat) (f : Nat) : Prop := ∀ (S : Nat → Prop) (w : World) (L : List Ent) (c : Array Value) (b : Nat) (k : ByteArray) (x : Int), NodeAt hs S f w L c → Rise L → L.length ≤ 50000 → EntAt hs S w b (k, x) → Tab6 w →
    Calls Tryd.prog 70 #[.agg c, .int .i64 ((13 - f : Nat) : Int), pv (some b)] w fun r w' => ∃ c', r = .returned (.agg c') ∧ NodeAt hs (fun g => S g ∨ w.heap.size ≤ g) f w' (insE L k x) c' ∧ Below w.heap.size w w'
/-- What place's with gives: a place with the key. -/
def PWithOk (hs : ByteArray → Nat) (f : Nat) : Prop := ∀ (S : Nat → Prop) (w : World) (L : List Ent) (p : Option Pl) (b : Nat) (k : ByteArray) (x : Int), PlAt hs S w (NodeAt hs S f w) L p → Rise L → L.length ≤ 50000 → EntAt hs S w b (k, x) → Tab6 w →
    Calls Tryd.prog 85 #[.agg (plc (p.getD (none, none))), .int .i64 ((13 - f : Nat) : Int), pv (some b)] w fun r w' => ∃ p', r = .returned (.agg (plc p')) ∧ PlAt hs (fun g => S g ∨ w.heap.size ≤ g) w' (NodeAt hs (fun g => S g ∨ w.heap.size ≤ g) f w') (insE L k x) (some p') ∧ Below w.heap.size w w'
theorem en_lit {W : World} {g b : Nat} (h : W.heap[g]? = some (.cells #[.pointer (some ⟨b, 0, none⟩)] 106 (0, 0))) : CutAt (fun _ => True) W 1 (.slice (some ⟨g, 0, none⟩) 1 1) (en enE [b]) 1 :=
  ⟨_, 1, rfl, Nat.le_refl _, rfl, .inr ⟨g, 0, rfl, trivial, (Array.getElem?_eq_some_iff.1 h).1, fun j u hu => by
    rw [Nat.zero_add]
    refine cell_in h ?_
    simpa [en, enE, pv] using hu⟩⟩
/-- A list of keys that has just been laid, in pairs. -/
theorem list_node {hs : ByteArray → Nat} {S : Nat → Prop} {w w' : World} {v : Value} {qs : List (Nat × Ent)} (h0 : 0 < qs.length) (h : w'.ownsRow w.heap.size 106 1 v qs.length (en enE (qs.map (·.1)))) (he : ∀ q ∈ qs, EntAt hs S w' q.1 q.2) :
    NodeAt hs (fun g => S g ∨ w.heap.size ≤ g) 0 w' (qs.map (·.2)) #[.int .u32 0, .slice none 0 0, v] := by
  refine ⟨v, qs, rfl, ?_, rfl, fun q hq => (he q hq).weak fun _ h => .inl h⟩
  have hz := ownsRow_headZ h h0
  rw [List.length_map]
  obtain ⟨h1, h2⟩ := hz
  refine ⟨h1, h2.imp_right ?_⟩
  rintro ⟨a1, g, c, cur, a2, a3, a4, a5, a6⟩
  exact ⟨a1, g, c, cur, a2, a3, .inr a4, a5, a6⟩
theorem cc_three (w : World) (B : Nat) (v1 v2 v3 : Value) (p1 p2 p3 : List Nat) (h1 : w.cell? ⟨B, 0, none⟩ = some v1) (h2 : w.cell? ⟨B, 1, none⟩ = some v2) (h3 : w.cell? ⟨B, 2, none⟩ = some v3)
    (c1 : CutAt (fun _ => True) w 1 v1 (en enE p1) p1.length) (c2 : CutAt (fun _ => True) w 1 v2 (en enE p2) p2.length) (c3 : CutAt (fun _ => True) w 1 v3 (en enE p3) p3.length) (hN : (p1 ++ (p2 ++ p3)).length ≤ 100000) (h0 : 0 < (p1 ++ (p2 ++ p3)).length) :
    Calls Tryd.prog 83 #[.slice (some ⟨B, 0, none⟩) 3 3] w fun e w' => ∃ g c, e = .returned (.slice (some ⟨g, 0, none⟩) (p1 ++ (p2 ++ p3)).length c) ∧ w'.ownsRow w.heap.size 106 1 (.slice (some ⟨g, 0, none⟩) (p1 ++ (p2 ++ p3)).length c) (p1 ++ (p2 ++ p3)).length (en enE (p1 ++ (p2 ++ p3))) ∧ Below w.heap.size w w' := by
  have e : catE [(v1, p1), (v2, p2), (v3, p3)] 3 = p1 ++ (p2 ++ p3) := by simp [catE]
  have h := cc_ep enE_one w (S := fun _ => True) B [(v1, p1), (v2, p2), (v3, p3)] (fun k hk => by
    match k, hk with
    | 0, _ => exact h1
    | 1, _ => exact h2
    | 2, _ => exact h3) (fun q hq => by
    simp only [List.mem_cons, List.not_mem_nil, or_false] at hq
    rcases hq with rfl | rfl | rfl
    · exact c1
    · exact c2
    · exact c3) (by show (catE _ 3).length ≤ _; rw [e]; exact hN) (by simp)
  refine h.mono ?_
  rintro r w' ⟨v, rfl, ho, hb⟩
  change World.ownsRow _ _ _ _ v (catE _ 3).length (en enE (catE _ 3)) at ho
  rw [e] at ho
  have ho' := ho
  obtain ⟨_, ⟨_, hz⟩ | ⟨g, cap, cur, rfl, _⟩⟩ := ho'
  · omega
  · exact ⟨g, cap, rfl, ho, hb⟩
theorem cc_two (w : World) (B : Nat) (v1 v2 : Value) (p1 p2 : List Nat) (h1 : w.cell? ⟨B, 0, none⟩ = some v1) (h2 : w.cell? ⟨B, 1, none⟩ = some v2)
    (c1 : CutAt (fun _ => True) w 1 v1 (en enE p1) p1.length) (c2 : CutAt (fun _ => True) w 1 v2 (en enE p2) p2.length) (hN : (p1 ++ p2).length ≤ 100000) (h0 : 0 < (p1 ++ p2).length) :
    Calls Tryd.prog 83 #[.slice (some ⟨B, 0, none⟩) 2 2] w fun e w' => ∃ g c, e = .returned (.slice (some ⟨g, 0, none⟩) (p1 ++ p2).length c) ∧ w'.ownsRow w.heap.size 106 1 (.slice (some ⟨g, 0, none⟩) (p1 ++ p2).length c) (p1 ++ p2).length (en enE (p1 ++ p2)) ∧ Below w.heap.size w w' := by
  have e : catE [(v1, p1), (v2, p2)] 2 = p1 ++ p2 := by simp [catE]
  have h := cc_ep enE_one w (S := fun _ => True) B [(v1, p1), (v2, p2)] (fun k hk => by
    match k, hk with
    | 0, _ => exact h1
    | 1, _ => exact h2) (fun q hq => by
    simp only [List.mem_cons, List.not_mem_nil, or_false] at hq
    rcases hq with rfl | rfl
    · exact c1
    · exact c2) (by show (catE _ 2).length ≤ _; rw [e]; exact hN) (by simp)
  refine h.mono ?_
  rintro r w' ⟨v, rfl, ho, hb⟩
  change World.ownsRow _ _ _ _ v (catE _ 2).length (en enE (catE _ 2)) at ho
  rw [e] at ho
  have ho' := ho
  obtain ⟨_, ⟨_, hz⟩ | ⟨g, cap, cur, rfl, _⟩⟩ := ho'
  · omega
  · exact ⟨g, cap, rfl, ho, hb⟩
theorem CutAt.all {S : Nat → Prop} {W : World} {s n : Nat} {v : Value} {cs : List Value} (h : CutAt S W s v cs n) : CutAt (fun _ => True) W s v cs n := h.weak fun _ _ => trivial
theorem ins_pairs {L : List Ent} {k : ByteArray} {x : Int} {qs rest : List (Nat × Ent)} {N b : Nat} (h1 : (qs.take N).map (·.2) = belE L k) (h2 : rest.map (·.2) = abvE L k) : (qs.take N ++ ((b, (k, x)) :: rest)).map (·.2) = insE L k x := by
  rw [List.map_append, List.map_cons, h1, h2]
  rfl
set_option maxHeartbeats 4000000 in
theorem hm_with_0 (hs : ByteArray → Nat) : WithOk hs 0 := by
  intro S w L c b k x h hL hn he hT
  have hh := h
  obtain ⟨v, qs, rfl, h2, hq, h4⟩ := h
  rw [show (((13 - 0 : Nat) : Nat) : Int) = 13 from rfl]
  have hlq : L.length = qs.length := by rw [hq, List.length_map]
  rw [hlq] at h2
  obtain ⟨va, vc, rfl, hvc⟩ := h2.head.shape
  obtain ⟨w1, hw1⟩ : ∃ w1, (w.alloc (.cells #[.int .u32 0, .slice none 0 0, .slice va qs.length vc] 34)).alloc (.cells #[.int .u32 0, .slice none 0 0, .slice none 0 0] 34) = w1 := ⟨_, rfl⟩
  obtain ⟨hb1, hx1, hy1, hs1⟩ := two_newG hw1
  have HX1 := Lib.hid hx1
  have HY1 := Lib.hid hy1
  have HB1 := Lib.hid hb1
  have HS1 := Lib.hid hs1
  have HE := Lib.hid he
  have HSE := Lib.hid (fun W (hb : Below w.heap.size w W) => hm_search W L _ k (hh.later hb) hL (by omega))
  obtain ⟨N, hN⟩ : ∃ N, N = (belE L k).length := ⟨_, rfl⟩
  rw [← hN] at HSE
  -- where the list is cut
  have hNq : N ≤ qs.length := by rw [hN, ← hlq]; exact List.length_filter_le _ _
  have hbel : (qs.take N).map (·.2) = belE L k := by rw [List.map_take, ← hq, hN]; exact cut_take hL k
  have hdrp : (qs.drop N).map (·.2) = atE L k ++ abvE L k := by rw [List.map_drop, ← hq, hN]; exact cut_drop hL k
  obtain ⟨a1, c1, hs1a, hr1⟩ := cut_h (P := Tryd.prog) 32 ep_under ep_elem h2.head.cut hNq
  obtain ⟨a3, c3, hs3, hr3⟩ := cut_l (P := Tryd.prog) 32 ep_under ep_elem h2.head.cut hNq
  rw [en_take enE_len] at hs1a
  rw [en_drop enE_len] at hs3
  have HC1 := Lib.hid hs1a
  have HC3 := Lib.hid hs3
  have HH4 := Lib.hid h4
  have HBEL := Lib.hid hbel
  have HDRP := Lib.hid hdrp
  have HLQ := Lib.hid (And.intro hlq hn)
  have HNQ := Lib.hid hNq
  have HHQ := Lib.hid hq
  obtain ⟨is, his⟩ : ∃ is, is = (getE L k).isSome := ⟨_, rfl⟩
  rw [← his] at HSE
  have HIS := Lib.hid his
  have cb0 : w.cell? ⟨b, 0, none⟩ = some (.string k) := by
    obtain ⟨_, fr, h⟩ := he
    exact cell_in h rfl
  have HCB := Lib.hid cb0
  have HBL := Lib.hid he.lt
  clear hh h2 hq h4 hx1 hy1 hb1 hs1 he hL hn hlq hNq hbel hdrp hs1a hs3 his cb0 hN hT
  unfold pv
  go_enter Tryd.func70, Tryd.ntmps70
  go_upto_region 2 with fail
  clear hw1
  have HKS : Hid (∀ V, Below w1.heap.size w1 V → (V.heap[w.heap.size]? = some (.cells #[.int .u32 0, .slice none 0 0, .slice va qs.length vc] 34 (0, 0)) ∧ V.cell? ⟨b, 0, none⟩ = some (.string k))) := fun V hV =>
    ⟨(hV.block _ (by have := HS1.out; omega)).trans HX1.out, ((HB1.out.trans (hV.mono HB1.out.size)).cell (p := ⟨b, 0, none⟩) HBL.out).trans HCB.out⟩
  have HW : Hid (Below w1.heap.size w1 w1.drew) := drawn_below w1
  refine wp_region_T (S := (fun V => V.heap[w.heap.size]? = some (.cells #[.int .u32 0, .slice none 0 0, .slice va qs.length vc] 34 (0, 0)) ∧ V.cell? ⟨b, 0, none⟩ = some (.string k))) [] (by kernel_rfl) (by exact HKS.out _ HW.out) (fun hHeld => ?_)
  refine wpAnyT_take (i := 0) (oi := ⟨some 16, _, _, _, _, _⟩) (v := _) rfl (by kernel_rfl) (by kernel_rfl) (by kernel_rfl) (by kernel_rfl) (fun _ _ _ h => h) (yieldsIf_load_row (by rfl) 34 _ rfl w.heap.size rfl #[.int .u32 0, .slice none 0 0, .slice va qs.length vc] 34 (0, 0) _ (fun w hw => hw.1) Tryd.underlying34 rfl (by exact nd_size)) (by assumption) ?_
  (try simp only [Act.put, List.setIfInBounds_toArray, List.set_cons_zero, List.set_cons_succ])
  refine wpAnyT_take (i := 1) (oi := ⟨some 17, _, _, _, _, _⟩) (v := ?vg1_1) rfl (by kernel_rfl) (by kernel_rfl) (by kernel_rfl) (by kernel_rfl) (fun _ _ _ h => h) (Or.inl ⟨by rfl, ?hg1_1⟩) (by assumption) ?rg1_1
  case hg1_1 => (intro w hSw; (try dsimp only at hSw); first | (go_simp; done) | (go_simp; with_reducible rfl))
  (try simp only [Act.put, List.setIfInBounds_toArray, List.set_cons_zero, List.set_cons_succ])
  refine wpAnyT_take (i := 2) (oi := ⟨some 18, _, _, _, _, _⟩) (v := ?vg1_2) rfl (by kernel_rfl) (by kernel_rfl) (by kernel_rfl) (by kernel_rfl) (fun _ _ _ h => h) (Or.inl ⟨by rfl, ?hg1_2⟩) (by assumption) ?rg1_2
  case hg1_2 => (intro w hSw; (try dsimp only at hSw); first | (go_simp; done) | (go_simp; with_reducible rfl))
  (try simp only [Act.put, List.setIfInBounds_toArray, List.set_cons_zero, List.set_cons_succ])
  refine wpAnyT_take (i := 3) (oi := ⟨some 19, _, _, _, _, _⟩) (v := ?vg1_3) rfl (by kernel_rfl) (by kernel_rfl) (by kernel_rfl) (by kernel_rfl) (fun _ _ _ h => h) (Or.inl ⟨by rfl, ?hg1_3⟩) (by assumption) ?rg1_3
  case hg1_3 => (intro w hSw; (try dsimp only at hSw); first | (go_simp; done) | (go_simp; with_reducible rfl))
  (try simp only [Act.put, List.setIfInBounds_toArray, List.set_cons_zero, List.set_cons_succ])
  refine wpAnyT_take (i := 4) (oi := ⟨some 20, _, _, _, _, _⟩) (v := ?vg1_4) rfl (by kernel_rfl) (by kernel_rfl) (by kernel_rfl) (by kernel_rfl) (fun _ _ _ h => h) (Or.inl ⟨by rfl, ?hg1_4⟩) (by assumption) ?rg1_4
  case hg1_4 => (intro w hSw; (try dsimp only at hSw); first | (go_simp; done) | (go_simp; with_reducible rfl))
  (try simp only [Act.put, List.setIfInBounds_toArray, List.set_cons_zero, List.set_cons_succ])
  refine wpAnyT_one (i := 5) (o := ⟨some 21, _, _, _, _, _⟩) (by kernel_rfl) rfl (fun K hK => ?_)
  go_simp
  go_at_call 78
  refine (HSE.out _ (HB1.out.trans (HW.out.mono HB1.out.size))).mono ?_
  rintro r w2 ⟨rfl, hb⟩
  replace HW := Lib.hid (HW.out.trans (hb.mono HW.out.size))
  clear hb
  dsimp only
  refine hK.out _ _ (by exact HKS.out _ HW.out) (fun hHeld => ?_)
  clear hK K
  (try simp only [Act.put, List.setIfInBounds_toArray, List.set_cons_zero, List.set_cons_succ])
  refine wpAnyT_take (i := 6) (oi := ⟨some 15, _, _, _, _, _⟩) (v := ?vg1_6) rfl (by kernel_rfl) (by kernel_rfl) (by kernel_rfl) (by kernel_rfl) (fun _ _ _ h => h) (Or.inl ⟨by rfl, ?hg1_6⟩) (by assumption) ?rg1_6
  case hg1_6 => (intro w hSw; (try dsimp only at hSw); first | (go_simp; done) | (go_simp; with_reducible rfl))
  (try simp only [Act.put, List.setIfInBounds_toArray, List.set_cons_zero, List.set_cons_succ])
  refine wpAnyT_take (i := 7) (oi := ⟨some 22, _, _, _, _, _⟩) (v := ?vg1_7) rfl (by kernel_rfl) (by kernel_rfl) (by kernel_rfl) (by kernel_rfl) (fun _ _ _ h => h) (Or.inl ⟨by rfl, ?hg1_7⟩) (by assumption) ?rg1_7
  case hg1_7 => (intro w hSw; (try dsimp only at hSw); first | (go_simp; done) | (go_simp; with_reducible rfl))
  (try simp only [Act.put, List.setIfInBounds_toArray, List.set_cons_zero, List.set_cons_succ])
  refine wpAnyT_take (i := 8) (oi := ⟨some 23, _, _, _, _, _⟩) (v := ?vg1_8) rfl (by kernel_rfl) (by kernel_rfl) (by kernel_rfl) (by kernel_rfl) (fun _ _ _ h => h) (Or.inl ⟨by rfl, ?hg1_8⟩) (by assumption) ?rg1_8
  case hg1_8 => (intro w hSw; (try dsimp only at hSw); first | (go_simp; done) | (go_simp; with_reducible rfl))
  (try simp only [Act.put, List.setIfInBounds_toArray, List.set_cons_zero, List.set_cons_succ])
  refine wpAnyT_take (i := 9) (oi := ⟨some 7, _, _, _, _, _⟩) (v := ?vg1_9) rfl (by kernel_rfl) (by kernel_rfl) (by kernel_rfl) (by kernel_rfl) (fun _ _ _ h => h) (Or.inl ⟨by rfl, ?hg1_9⟩) (by assumption) ?rg1_9
  case hg1_9 => (intro w hSw; (try dsimp only at hSw); first | (go_simp; done) | (go_simp; with_reducible rfl))
  (try simp only [Act.put, List.setIfInBounds_toArray, List.set_cons_zero, List.set_cons_succ])
  refine wpAnyT_take (i := 10) (oi := ⟨some 8, _, _, _, _, _⟩) (v := ?vg1_10) rfl (by kernel_rfl) (by kernel_rfl) (by kernel_rfl) (by kernel_rfl) (fun _ _ _ h => h) (Or.inl ⟨by rfl, ?hg1_10⟩) (by assumption) ?rg1_10
  case hg1_10 => (intro w hSw; (try dsimp only at hSw); first | (go_simp; done) | (go_simp; with_reducible rfl))
  (try simp only [Act.put, List.setIfInBounds_toArray, List.set_cons_zero, List.set_cons_succ])
  refine wpAnyT_done (by kernel_rfl) ?_ _
  have HXW := Lib.hid (HKS.out _ HW.out).1
  have HYW := Lib.hid ((HW.out.block _ (by have := HS1.out; omega)).trans HY1.out)
  have cx2 : w2.cell? ⟨w.heap.size, 2, none⟩ = some (.slice va qs.length vc) := cell_in HXW.out rfl
  have HBW := Lib.hid (HB1.out.trans (HW.out.mono HB1.out.size))
  have HSW : Hid (w.heap.size + 2 ≤ w2.heap.size) := by show _ ≤ _; have := HW.out.size; have := HS1.out; omega
  clear HKS HW hHeld
  cases is with
  | false =>
    have HREST : Hid ((qs.drop N).map (·.2) = abvE L k) := by
      show _ = _
      rw [HDRP.out, at_none (by simpa using HIS.out.symm), List.nil_append]
    have HQ1 : Hid ((qs.map (·.1)).take N = (qs.take N).map (·.1)) := List.map_take.symm
    have HQ3 : Hid ((qs.map (·.1)).drop N = (qs.drop N).map (·.1)) := List.map_drop.symm
    have HT : Hid ((qs.take N ++ ((b, (k, x)) :: (qs.drop N))).length ≤ 60000 ∧ ((qs.take N).map (·.1)).length = N ∧ ((qs.drop N).map (·.1)).length = qs.length - N) := by
      show _ ∧ _ ∧ _
      have h1 := HNQ.out
      have h2 := HLQ.out
      refine ⟨?_, ?_, ?_⟩
      · simp
        omega
      · simp
        omega
      · simp
        try omega
    go_wp2_with fail
    obtain ⟨W3, hW3⟩ : ∃ W3, (w2.alloc (.cells #[.pointer (some ⟨b, 0, none⟩)] 106)).alloc (.cells #[.slice a1 N c1, .slice (some ⟨w2.heap.size, 0, none⟩) 1 1, .slice a3 (qs.length - N) c3] 32) = W3 := ⟨_, rfl⟩
    obtain ⟨hb3, hx3, hy3, hs3⟩ := two_newG hW3
    rw [hW3]
    refine (cc_three W3 (w2.heap.size + 1) (.slice a1 N c1) (.slice (some ⟨w2.heap.size, 0, none⟩) 1 1) (.slice a3 (qs.length - N) c3) ((qs.take N).map (·.1)) [b] ((qs.drop N).map (·.1)) (cell_in hy3 rfl) (cell_in hy3 rfl) (cell_in hy3 rfl) (by rw [HT.out.2.1, ← HQ1.out]; exact ((HC1.out.later HBW.out).later hb3).all) (en_lit hx3) (by rw [HT.out.2.2]; exact (by rw [← HQ3.out]; exact ((HC3.out.later HBW.out).later hb3).all)) (by have := HT.out.1; simp at this ⊢; omega) (by rw [List.length_append, List.length_append, List.length_singleton]; omega)).mono ?_
    rintro r w5 ⟨g5, c5, hr, ho5, hb5⟩
    obtain ⟨n5, hn5⟩ : ∃ n5, n5 = ((qs.take N).map (·.1) ++ ([b] ++ (qs.drop N).map (·.1))).length := ⟨_, rfl⟩
    rw [← hn5] at hr ho5
    subst hr
    have HN5 := Lib.hid hn5
    have HO5 := Lib.hid ho5
    have HB5 := Lib.hid (HBW.out.trans ((hb3.trans (hb5.mono (by omega))).mono HBW.out.size))
    have HY5 := Lib.hid ((hb5.block _ (by have := HSW.out; omega)).trans ((hb3.block _ (by have := HSW.out; omega)).trans HYW.out))
    have HW3 : Hid (w.heap.size + 2 ≤ W3.heap.size) := (by show _ ≤ _; have := HSW.out; omega)
    clear hb3 hx3 hy3 hs3 hW3 ho5 hb5 hn5
    go_wp2_with (refine st_agg rfl 34 _ _ rfl (w.heap.size + 1) #[.int .u32 0, .slice none 0 0, .slice (some ⟨g5, 0, none⟩) n5 c5] rfl rfl 34 _ HY5.out nd_size rfl (by simp [Value.oneCell']) ?_; intro w6 h6 k6)
    refine bodyPost_ret (results_cell_row rfl _ _ (w.heap.size + 1) 34 _ (0, 0) _ rfl h6 Tryd.underlying34 rfl nd_size) rfl ⟨_, rfl, ?_, HB5.out.trans (k6.below (by omega))⟩
    have ho6 := HO5.out
    have e : (qs.take N).map (·.1) ++ ([b] ++ (qs.drop N).map (·.1)) = (qs.take N ++ ((b, (k, x)) :: (qs.drop N))).map (·.1) := by rw [List.map_append, List.map_cons]; rfl
    have hn5 := HN5.out
    rw [e, List.length_map] at hn5
    rw [e, hn5] at ho6
    rw [hn5]
    rw [← ins_pairs (b := b) (x := x) HBEL.out HREST.out]
    have hnode := list_node (hs := hs) (S := fun g => S g ∧ g < w.heap.size) (w := W3) (w' := w5) (by rw [List.length_append, List.length_cons]; omega) ho6 (fun q hq => by
      rcases List.mem_append.1 hq with hq | hq
      · exact (HH4.out q (List.mem_of_mem_take hq)).old.later HB5.out
      · rcases List.mem_cons.1 hq with rfl | hq
        · exact HE.out.old.later HB5.out
        · exact (HH4.out q (List.mem_of_mem_drop hq)).old.later HB5.out)
    have hW3 := HW3.out
    exact (hnode.kp (Kp.only k6 (fun h => by omega))).weak fun g hg => by
      rcases hg with hg | hg
      · exact .inl hg.1
      · exact .inr (by omega)
  | true =>
    have hlt : N + 1 ≤ qs.length := by
      have h1 := congrArg List.length HDRP.out
      obtain ⟨y, hy⟩ := Option.isSome_iff_exists.1 HIS.out.symm
      rw [at_some hy] at h1
      simp at h1
      omega
    obtain ⟨a4, c4, hs4, hr4⟩ := cut_l (P := Tryd.prog) 32 ep_under ep_elem HC3.out (lo := 1) (by omega)
    rw [en_drop enE_len, List.drop_drop] at hs4
    have hr4' : ∀ w, (Instr.slice 32 (.slice a3 (qs.length - N) c3) (some (.int .i64 1)) none none).run Tryd.prog w = .ok (.slice a4 (qs.length - N - 1) c4) w := hr4
    have HC4 := Lib.hid hs4
    have HREST : Hid ((qs.drop (N + 1)).map (·.2) = abvE L k) := by
      show _ = _
      obtain ⟨y, hy⟩ := Option.isSome_iff_exists.1 HIS.out.symm
      have h1 := HDRP.out
      rw [at_some hy] at h1
      rw [← List.drop_drop, List.map_drop, h1]
      rfl
    have HQ1 : Hid ((qs.map (·.1)).take N = (qs.take N).map (·.1)) := List.map_take.symm
    have HQ3 : Hid ((qs.map (·.1)).drop (N + 1) = (qs.drop (N + 1)).map (·.1)) := List.map_drop.symm
    have HLTT := Lib.hid hlt
    clear hs4 hr4 hlt
    have HT : Hid ((qs.take N ++ ((b, (k, x)) :: (qs.drop (N + 1)))).length ≤ 60000 ∧ ((qs.take N).map (·.1)).length = N ∧ ((qs.drop (N + 1)).map (·.1)).length = qs.length - N - 1) := by
      show _ ∧ _ ∧ _
      have h1 := HNQ.out
      have h3 := HLTT.out
      have h2 := HLQ.out
      refine ⟨?_, ?_, ?_⟩
      · simp
        omega
      · simp
        omega
      · simp
        try omega
    go_wp2_with fail
    obtain ⟨W3, hW3⟩ : ∃ W3, (w2.alloc (.cells #[.pointer (some ⟨b, 0, none⟩)] 106)).alloc (.cells #[.slice a1 N c1, .slice (some ⟨w2.heap.size, 0, none⟩) 1 1, .slice a4 (qs.length - N - 1) c4] 32) = W3 := ⟨_, rfl⟩
    obtain ⟨hb3, hx3, hy3, hs3⟩ := two_newG hW3
    rw [hW3]
    refine (cc_three W3 (w2.heap.size + 1) (.slice a1 N c1) (.slice (some ⟨w2.heap.size, 0, none⟩) 1 1) (.slice a4 (qs.length - N - 1) c4) ((qs.take N).map (·.1)) [b] ((qs.drop (N + 1)).map (·.1)) (cell_in hy3 rfl) (cell_in hy3 rfl) (cell_in hy3 rfl) (by rw [HT.out.2.1, ← HQ1.out]; exact ((HC1.out.later HBW.out).later hb3).all) (en_lit hx3) (by rw [HT.out.2.2]; exact (by rw [← HQ3.out]; exact ((HC4.out.later HBW.out).later hb3).all)) (by have := HT.out.1; simp at this ⊢; omega) (by rw [List.length_append, List.length_append, List.length_singleton]; omega)).mono ?_
    rintro r w5 ⟨g5, c5, hr, ho5, hb5⟩
    obtain ⟨n5, hn5⟩ : ∃ n5, n5 = ((qs.take N).map (·.1) ++ ([b] ++ (qs.drop (N + 1)).map (·.1))).length := ⟨_, rfl⟩
    rw [← hn5] at hr ho5
    subst hr
    have HN5 := Lib.hid hn5
    have HO5 := Lib.hid ho5
    have HB5 := Lib.hid (HBW.out.trans ((hb3.trans (hb5.mono (by omega))).mono HBW.out.size))
    have HY5 := Lib.hid ((hb5.block _ (by have := HSW.out; omega)).trans ((hb3.block _ (by have := HSW.out; omega)).trans HYW.out))
    have HW3 : Hid (w.heap.size + 2 ≤ W3.heap.size) := (by show _ ≤ _; have := HSW.out; omega)
    clear hb3 hx3 hy3 hs3 hW3 ho5 hb5 hn5
    go_wp2_with (refine st_agg rfl 34 _ _ rfl (w.heap.size + 1) #[.int .u32 0, .slice none 0 0, .slice (some ⟨g5, 0, none⟩) n5 c5] rfl rfl 34 _ HY5.out nd_size rfl (by simp [Value.oneCell']) ?_; intro w6 h6 k6)
    refine bodyPost_ret (results_cell_row rfl _ _ (w.heap.size + 1) 34 _ (0, 0) _ rfl h6 Tryd.underlying34 rfl nd_size) rfl ⟨_, rfl, ?_, HB5.out.trans (k6.below (by omega))⟩
    have ho6 := HO5.out
    have e : (qs.take N).map (·.1) ++ ([b] ++ (qs.drop (N + 1)).map (·.1)) = (qs.take N ++ ((b, (k, x)) :: (qs.drop (N + 1)))).map (·.1) := by rw [List.map_append, List.map_cons]; rfl
    have hn5 := HN5.out
    rw [e, List.length_map] at hn5
    rw [e, hn5] at ho6
    rw [hn5]
    rw [← ins_pairs (b := b) (x := x) HBEL.out HREST.out]
    have hnode := list_node (hs := hs) (S := fun g => S g ∧ g < w.heap.size) (w := W3) (w' := w5) (by rw [List.length_append, List.length_cons]; omega) ho6 (fun q hq => by
      rcases List.mem_append.1 hq with hq | hq
      · exact (HH4.out q (List.mem_of_mem_take hq)).old.later HB5.out
      · rcases List.mem_cons.1 hq with rfl | hq
        · exact HE.out.old.later HB5.out
        · exact (HH4.out q (List.mem_of_mem_drop hq)).old.later HB5.out)
    have hW3 := HW3.out
    exact (hnode.kp (Kp.only k6 (fun h => by omega))).weak fun g hg => by
      rcases hg with hg | hg
      · exact .inl hg.1
      · exact .inr (by omega)
end Go.Proofs.YtnnlfgfgfegjkaaDoor

/- Package hamt: a place's with. -/
namespace Go.Proofs.YtnnlfgfgfegjkaaDoor
open Go.RowKit
set_option maxRecDepth 1000000
set_option linter.unusedSimpArgs false

theorem ins_nil (k : ByteArray) (x : Int) : insE [] k x = [(k, x)] := rfl
theorem ins_same1 (e : Ent) (x : Int) : insE [e] e.1 x = [(e.1, x)] := by
  simp [insE, belE, abvE, lt_irrefl_l]
theorem ins_other1 {e : Ent} {k : ByteArray} (x : Int) (h : e.1 ≠ k) : ∃ a b, insE [e] k x = [a, b] := by
  rcases tri e.1 k with h1 | h1 | h1
  · exact ⟨e, (k, x), by simp [insE, belE, abvE, h1, lt_asym h1]⟩
  · exact absurd h1 h
  · exact ⟨(k, x), e, by simp [insE, belE, abvE, h1, lt_asym h1]⟩
theorem ins_twice {e : Ent} {k : ByteArray} (x : Int) : insE (insE [] e.1 e.2) k x = insE [e] k x := rfl
theorem ins_long {a b : Ent} {M : List Ent} (k : ByteArray) (x : Int) (h : Rise (a :: b :: M)) : ∃ c d N, insE (a :: b :: M) k x = c :: d :: N := by
  have hl := len_ins h k x
  have h2 : 2 ≤ (insE (a :: b :: M) k x).length := by
    rw [hl]
    split <;> simp
  match insE (a :: b :: M) k x, h2 with
  | [], h => simp at h
  | [_], h => simp at h
  | c :: d :: N, _ => exact ⟨c, d, N, rfl⟩
theorem ins_ne (L : List Ent) (k : ByteArray) (x : Int) : insE L k x ≠ [] := by
  unfold insE
  simp
theorem rise_one (e : Ent) : Rise [e] := Rise.one e
set_option maxHeartbeats 4000000 in
theorem hm_pwith (hs : ByteArray → Nat) (f : Nat) (hW : WithOk hs f) : PWithOk hs f := by
  intro S w L p b k x h hL hn he hT
  obtain ⟨lv, hlv⟩ : ∃ lv : Nat, lv = 13 - f := ⟨_, rfl⟩
  unfold WithOk at hW
  simp only [← hlv] at hW ⊢
  have HWI := Lib.hid hW
  have HPLC := Lib.hid (hm_place hs f)
  obtain ⟨pp, hpp⟩ : ∃ pp, pp = p.getD (none, none) := ⟨_, rfl⟩
  rw [← hpp]
  obtain ⟨w1, hw1⟩ : ∃ w1, (w.alloc (.cells (plc pp) 117)).alloc (.cells #[.pointer none, .pointer none] 117) = w1 := ⟨_, rfl⟩
  obtain ⟨hb1, hx1, hy1, hs1⟩ := two_newG hw1
  have HX1 := Lib.hid hx1
  have HY1 := Lib.hid hy1
  have HB1 := Lib.hid hb1
  have HS1 := Lib.hid hs1
  have HE := Lib.hid he
  have HTT := Lib.hid hT
  clear hlv hW
  rcases L with _ | ⟨e, _ | ⟨e2, M⟩⟩
  · have hp : p = none := h
    rw [hp] at hpp
    obtain rfl : pp = (none, none) := hpp
    clear hp
    have ca0 : w1.cell? ⟨w.heap.size, 0, none⟩ = some (.pointer none) := cell_in hx1 rfl
    have ca1 : w1.cell? ⟨w.heap.size, 1, none⟩ = some (.pointer none) := cell_in hx1 rfl
    clear hL hn he hx1 hy1 hb1 hs1 hT h
    unfold pv
    go_enter Tryd.func85, Tryd.ntmps85
    go_upto_region 3 with fail
    clear hw1
    go_quiet (fail)
    obtain ⟨w2, hw2⟩ : ∃ w2, w2 = w1.drewN nq := ⟨_, rfl⟩
    have HY2 : Hid (w2.heap[w.heap.size + 1]? = some (.cells #[.pointer none, .pointer none] 117 (0, 0))) := by show _ = _; rw [hw2]; exact HY1.out
    have HB2 : Hid (Below w.heap.size w w2) := by show Below _ _ _; rw [hw2]; exact Below.drewMany HB1.out _
    rw [← hw2]
    clear hw2 ca0 ca1
    go_wp2_with (refine st_agg rfl 117 _ _ rfl (w.heap.size + 1) (plc (some b, none)) rfl rfl 117 _ HY2.out pl_size rfl (plc_one (some b, none)) ?_; intro w6 h6 k6)
    exact bodyPost_ret (results_cell_row rfl _ _ (w.heap.size + 1) 117 _ (0, 0) _ rfl h6 Tryd.underlying117 rfl pl_size) rfl ⟨(some b, none), rfl, ⟨b, rfl, (HE.out.later (HB2.out.trans (k6.below (by omega)))).weak fun _ h => .inl h⟩, HB2.out.trans (k6.below (by omega))⟩
  · obtain ⟨b', hp, he'⟩ := h
    rw [hp] at hpp
    obtain rfl : pp = (some b', none) := hpp
    clear hp
    have ca0 : w1.cell? ⟨w.heap.size, 0, none⟩ = some (.pointer (some ⟨b', 0, none⟩)) := cell_in hx1 rfl
    have ca1 : w1.cell? ⟨w.heap.size, 1, none⟩ = some (.pointer none) := cell_in hx1 rfl
    have ck : w1.cell? ⟨b, 0, none⟩ = some (.string k) := by
      obtain ⟨_, fr, h⟩ := he.later hb1
      exact cell_in h rfl
    have ck' : w1.cell? ⟨b', 0, none⟩ = some (.string e.1) := by
      obtain ⟨_, fr, h⟩ := he'.later hb1
      exact cell_in h rfl
    have HE' := Lib.hid he'
    have HHN := Lib.hid (And.intro hL hn)
    clear he he' hx1 hy1 hb1 hs1 hT hL hn
    by_cases hk : e.1 = k
    · have hkk : (e.1.toList == k.toList) = true := by rw [hk]; simp
      have HKK := Lib.hid hk
      clear hk
      unfold pv
      go_enter Tryd.func85, Tryd.ntmps85
      go_upto_region 3 with fail
      clear hw1
      go_quiet (fail)
      obtain ⟨w2, hw2⟩ : ∃ w2, w2 = w1.drewN nq := ⟨_, rfl⟩
      have HY2 : Hid (w2.heap[w.heap.size + 1]? = some (.cells #[.pointer none, .pointer none] 117 (0, 0))) := by show _ = _; rw [hw2]; exact HY1.out
      have HB2 : Hid (Below w.heap.size w w2) := by show Below _ _ _; rw [hw2]; exact Below.drewMany HB1.out _
      rw [← hw2]
      clear hw2 ca0 ca1 ck ck'
      go_wp2_with (refine st_agg rfl 117 _ _ rfl (w.heap.size + 1) (plc (some b, none)) rfl rfl 117 _ HY2.out pl_size rfl (plc_one (some b, none)) ?_; intro w6 h6 k6)
      refine bodyPost_ret (results_cell_row rfl _ _ (w.heap.size + 1) 117 _ (0, 0) _ rfl h6 Tryd.underlying117 rfl pl_size) rfl ⟨(some b, none), rfl, ?_, HB2.out.trans (k6.below (by omega))⟩
      have hkk := HKK.out
      subst hkk
      rw [ins_same1]
      exact ⟨b, rfl, (HE.out.later (HB2.out.trans (k6.below (by omega)))).weak fun _ h => .inl h⟩
    · have hkk : (e.1.toList == k.toList) = false := beq_eq_false_iff_ne.2 fun h => hk (kb_inj (by rw [ByteArray.toList_eq, ByteArray.toList_eq] at h; exact h))
      have HKK := Lib.hid hk
      clear hk
      unfold pv
      go_enter Tryd.func85, Tryd.ntmps85
      go_upto_region 3 with fail
      clear hw1
      go_quiet (fail)
      obtain ⟨w2, hw2⟩ : ∃ w2, w2 = w1.drewN nq := ⟨_, rfl⟩
      have HY2 : Hid (w2.heap[w.heap.size + 1]? = some (.cells #[.pointer none, .pointer none] 117 (0, 0))) := by show _ = _; rw [hw2]; exact HY1.out
      have HB2 : Hid (Below w.heap.size w w2) := by show Below _ _ _; rw [hw2]; exact Below.drewMany HB1.out _
      have hsz2 : Hid (w.heap.size + 2 ≤ w2.heap.size) := by show _ ≤ _; rw [hw2]; exact Nat.le_of_eq HS1.out.symm
      have cb0 : w2.cell? ⟨w.heap.size, 0, none⟩ = some (.pointer (some ⟨b', 0, none⟩)) := by rw [hw2]; exact ca0
      rw [← hw2]
      have HA := Lib.hid (HWI.out (fun g => S g ∧ g < w.heap.size) w2 [] zeroN b' e.1 e.2 (NodeAt.zero _ _ _ _) Rise.nil (by simp) (HE'.out.old.later HB2.out) (HTT.out.below HB2.out))
      unfold zeroN pv at HA
      clear hw2 ca0 ca1 ck ck'
      go_wp2_with (first
        | (go_at_call 70; (with_reducible refine HA.out.mono ?_); rintro r w3 ⟨c3, rfl, hn3, hb3⟩; have HB3 := Lib.hid (HB2.out.trans (hb3.mono HB2.out.size)); have HC := Lib.hid (HWI.out _ w3 _ c3 b k x hn3 (Rise.nil.ins _ _) (by rw [ins_nil]; simp) ((HE.out.old.later HB3.out).weak (S' := fun g => (S g ∧ g < w.heap.size) ∨ w2.heap.size ≤ g) (fun _ h => .inl h)) (HTT.out.below HB3.out)); unfold pv at HC; have HY3 := Lib.hid ((hb3.block _ (by have := hsz2.out; omega)).trans HY2.out); have HL3 := Lib.hid hb3.size; clear hn3 hb3)
        | (go_at_call 70; (with_reducible refine HC.out.mono ?_); rintro r w4 ⟨c4, rfl, hn4, hb4⟩; have HB4 := Lib.hid (HB3.out.trans (hb4.mono HB3.out.size)); have HD := Lib.hid (HPLC.out _ w4 _ c4 hn4 (ins_ne _ _ _) (HTT.out.below HB4.out)); have HY4 := Lib.hid ((hb4.block _ (by have := hsz2.out; have := HL3.out; omega)).trans HY3.out); have HL4 := Lib.hid hb4.size; clear hn4 hb4)
        | (go_at_call 91; (with_reducible refine HD.out.mono ?_); rintro r w5 ⟨p5, rfl, hp5, hb5⟩; have HP5 := Lib.hid hp5; have HB5 := Lib.hid (HB4.out.trans (hb5.mono HB4.out.size)); have HY5 := Lib.hid ((hb5.block _ (by have := hsz2.out; have := HL3.out; have := HL4.out; omega)).trans HY4.out); clear hp5 hb5)
        | (refine st_agg rfl 117 _ _ rfl (w.heap.size + 1) (plc p5) rfl rfl 117 _ HY5.out pl_size rfl (plc_one p5) ?_; intro w6 h6 k6))
      refine bodyPost_ret (results_cell_row rfl _ _ (w.heap.size + 1) 117 _ (0, 0) _ rfl h6 Tryd.underlying117 rfl pl_size) rfl ⟨p5, rfl, ?_, HB5.out.trans (k6.below (by omega))⟩
      have h2 := hsz2.out
      have h3 := HL3.out
      have h4 := HL4.out
      exact (HP5.out.kp (Kp.only k6 (by omega))).weak fun g hg => by
        rcases hg with ((hg | hg) | hg) | hg
        · exact .inl hg.1
        · exact .inr (by omega)
        · exact .inr (by omega)
        · exact .inr (by omega)
  · obtain ⟨g, c, fr, hp, hg, hgw, hnd⟩ := h
    rw [hp] at hpp
    obtain rfl : pp = (none, some g) := hpp
    clear hp
    have hgl : g < w.heap.size := (Array.getElem?_eq_some_iff.1 hgw).1
    have ca1 : w1.cell? ⟨w.heap.size, 1, none⟩ = some (.pointer (some ⟨g, 0, none⟩)) := cell_in hx1 rfl
    have hgw1 : w1.heap[g]? = some (.cells c 34 fr) := (hb1.block _ hgl).trans hgw
    obtain ⟨d1, d2, M2, hdd⟩ := ins_long k x hL
    have HSZ := Lib.hid hnd.size
    have HA := Lib.hid (HWI.out (fun g => S g ∧ g < w.heap.size) w1 _ c b k x (hnd.old.later hb1) hL hn (he.old.later hb1) (hT.below hb1))
    unfold pv at HA
    have HG := Lib.hid hgw1
    have HDD := Lib.hid hdd
    clear hnd hgw hgw1 he hx1 hy1 hb1 hs1 hT hL hn hg hdd
    unfold pv
    go_enter Tryd.func85, Tryd.ntmps85
    go_upto_region 3 with (first
      | (refine ld_if (by rfl) 34 _ rfl g rfl 34 _ _ _ HG.out Tryd.underlying34 rfl (by rw [HSZ.out]; exact nd_size) ?_)
      | (go_at_call 70; (with_reducible refine HA.out.mono ?_); rintro r w4 ⟨c4, rfl, hn4, hb4⟩; have HB4 := Lib.hid (HB1.out.trans (hb4.mono HB1.out.size)); have HD := Lib.hid (HPLC.out _ w4 _ c4 hn4 (by rw [HDD.out]; simp) (HTT.out.below HB4.out)); have HY4 := Lib.hid ((hb4.block _ (by have := HS1.out; omega)).trans HY1.out); have HL4 := Lib.hid hb4.size; clear hn4 hb4)
      | (go_at_call 91; (with_reducible refine HD.out.mono ?_); rintro r w5 ⟨p5, rfl, hp5, hb5⟩; have HP5 := Lib.hid hp5; have HB5 := Lib.hid (HB4.out.trans (hb5.mono HB4.out.size)); have HY5 := Lib.hid ((hb5.block _ (by have := HS1.out; have := HL4.out; omega)).trans HY4.out); clear hp5 hb5)
      | (refine st_agg rfl 117 _ _ rfl (w.heap.size + 1) (plc p5) rfl rfl 117 _ HY5.out pl_size rfl (plc_one p5) ?_; intro w6 h6 k6))
    refine bodyPost_ret (results_cell_row rfl _ _ (w.heap.size + 1) 117 _ (0, 0) _ rfl h6 Tryd.underlying117 rfl pl_size) rfl ⟨p5, rfl, ?_, HB5.out.trans (k6.below (by omega))⟩
    have h2 := HS1.out
    have h4 := HL4.out
    exact (HP5.out.kp (Kp.only k6 (by omega))).weak fun g hg => by
      rcases hg with (hg | hg) | hg
      · exact .inl hg.1
      · exact .inr (by omega)
      · exact .inr (by omega)
end Go.Proofs.YtnnlfgfgfegjkaaDoor

/- Package hamt: with, above the lists. (written by tools/gen09/with7.py) -/
namespace Go.Proofs.YtnnlfgfgfegjkaaDoor
open Go.RowKit
set_option maxRecDepth 1000000
set_option linter.unusedSimpArgs false

theorem AtR.weak {S S' : Nat → Prop} {W : World} {R : Rg Pl} {c : Array Value} (h : AtR S W R c) (hS : ∀ g, S g → S' g) : AtR S' W R c := by
  obtain ⟨v, rfl, h2⟩ := h
  exact ⟨v, rfl, h2.weak hS⟩
theorem AtR.parts {S : Nat → Prop} {W : World} {R : Rg Pl} {c : Array Value} (h : AtR S W R c) : ∃ (b : Nat) (a : Option Addr) (n m : Nat), c = #[.int .u32 (b : Int), .slice a n m] := by
  obtain ⟨a, n, e⟩ := h.shape
  exact ⟨_, _, _, _, e⟩
set_option maxHeartbeats 4000000 in
theorem hm_with_s (hs : ByteArray → Nat) (hlt : ∀ k, hs k < 18446744073709551616) (f : Nat) (hf : f ≤ 12) (ih : PWithOk hs f) : WithOk hs (f + 1) := by
  intro S w L c b k x h hL hn he hT
  obtain ⟨lv, hlv⟩ : ∃ lv : Nat, lv = 12 - f := ⟨_, rfl⟩
  have e13 : (13 - (f + 1) : Nat) = lv := by omega
  have e14 : (13 - f : Nat) = lv + 1 := by omega
  rw [e13]
  obtain ⟨b0, v, R, rfl, hrow, hpl⟩ := h.row
  obtain ⟨i, hi⟩ : ∃ i, i = chunkN (hs k) (lv : Int) := ⟨_, rfl⟩
  have hi32 : i < 32 := by rw [hi]; exact chunkN_lt _ _
  have HCH := Lib.hid (fun W => mix_Chunk (hs k) (lv : Int) (hlt k) W)
  rw [← hi] at HCH
  have HGET := Lib.hid (fun W (hb : Below w.heap.size w W) => pr_Get W R #[b0, v] i hi32 (hrow.later hb))
  obtain ⟨bb, rfl⟩ : ∃ bb : Nat, b0 = .int .u32 (bb : Int) := by obtain ⟨v', e, _⟩ := hrow; simp only [Array.mk.injEq, List.cons.injEq] at e; exact ⟨_, e.1⟩
  obtain ⟨va, vn, vc, rfl⟩ : ∃ a n c, v = .slice a n c := by obtain ⟨a, n, e⟩ := hrow.shape; simp only [Array.mk.injEq, List.cons.injEq] at e; exact ⟨_, _, _, e.2.1⟩
  obtain ⟨w1, hw1⟩ : ∃ w1, (w.alloc (.cells #[.int .u32 (bb : Int), .slice va vn vc, .slice none 0 0] 34)).alloc (.cells #[.int .u32 0, .slice none 0 0, .slice none 0 0] 34) = w1 := ⟨_, rfl⟩
  obtain ⟨hb1, hx1, hy1, hs1⟩ := two_newG hw1
  have HX1 := Lib.hid hx1
  have HY1 := Lib.hid hy1
  have HB1 := Lib.hid hb1
  have HS1 := Lib.hid hs1
  have HTT := Lib.hid hT
  obtain ⟨po, hpo⟩ : ∃ po, po = (R i).getD (none, none) := ⟨_, rfl⟩
  rw [← hpo] at HGET
  have hch : chE hs lv i (insE L k x) = insE (chE hs lv i L) k x := ch_ins_same (by rw [hi])
  have hoth : ∀ j, j ≠ i → chE hs lv j (insE L k x) = chE hs lv j L := fun j hj => ch_ins_other hL (fun e => hj (by rw [hi, e]))
  rw [← hlv] at hpl
  have HPL := Lib.hid hpl
  have HCE := Lib.hid hch
  have HOTH := Lib.hid hoth
  have HPW : Hid (∀ V, Below w.heap.size w V → Calls Tryd.prog 85 #[.agg (plc po), .int .i64 ((lv : Int) + 1), .pointer (some ⟨b, 0, none⟩)] V fun r w' => ∃ p', r = .returned (.agg (plc p')) ∧ PlAt hs (fun g => (S g ∧ g < w.heap.size) ∨ V.heap.size ≤ g) w' (NodeAt hs (fun g => (S g ∧ g < w.heap.size) ∨ V.heap.size ≤ g) f w') (insE (chE hs lv i L) k x) (some p') ∧ Below V.heap.size V w') := fun V hV => by
    have h1 := ih (fun g => S g ∧ g < w.heap.size) V _ (R i) b k x ((hpl i hi32).old.later hV) (hL.ch hs lv i) (Nat.le_trans ch_len_le hn) (he.old.later hV) (hT.below hV)
    rw [e14, ← hpo, show (((lv + 1 : Nat) : Nat) : Int) = (lv : Int) + 1 by omega] at h1
    unfold pv at h1
    exact h1
  have HSET := Lib.hid (fun W (hb : Below w.heap.size w W) p => pr_Set W R #[.int .u32 (bb : Int), .slice va vn vc] i hi32 p (hrow.later hb))
  have hlv12 : (lv : Int) ≤ 12 := by omega
  have hn13 : ((lv : Int) == 13) = false := beq_eq_false_iff_ne.2 (by omega)
  have HLVF := Lib.hid hlv
  have HWR : Hid (IntKind.i64.wrap ((lv : Int) + 1) = (lv : Int) + 1) := by show _ = _; rw [IntKind.wrap_i64]; omega
  have hk1 : w1.cell? ⟨b, 1, none⟩ = some (.int .u64 (hs k : Nat)) := by
    obtain ⟨_, fr, h⟩ := he.later hb1
    exact cell_in h rfl
  obtain ⟨h1, u1⟩ : ∃ x : Nat, x = hs k := ⟨_, rfl⟩
  rw [← u1] at HCH hk1
  clear h hrow hpl hch hoth hx1 hy1 hb1 hs1 hi hL hn ih u1 hlv e13 e14 he hT hpo hf
  unfold pv
  go_enter Tryd.func70, Tryd.ntmps70
  go_upto_region 7 with fail
  clear hw1
  go_upto_region 9 with (first
    | (go_at_call 80; refine (HCH.out _).mono ?_; rintro r wc ⟨rfl, hwc⟩; obtain rfl := hwc.symm)
    | (refine wpList_load_mid rfl 31 _ rfl w.heap.size 0 rfl [.int .u32 (bb : Int), .slice va vn vc] _ (row_range HX1.out) Tryd.underlying31 rfl row_size ?_)
    | (go_at_call 79; refine (HGET.out _ HB1.out).mono ?_; rintro r w2 ⟨rfl, hb⟩; have HX2 := Lib.hid ((hb.block _ (by have := HS1.out; omega)).trans HX1.out); have HY2 := Lib.hid ((hb.block _ (by have := HS1.out; omega)).trans HY1.out); have HB2 := Lib.hid (HB1.out.trans (hb.mono HB1.out.size)); have HS2 : Hid (w.heap.size + 2 ≤ w2.heap.size) := (by show _ ≤ _; have := hb.size; have := HS1.out; omega); clear hb)
    | (refine st_agg rfl 117 _ _ rfl w2.heap.size (plc po) rfl rfl 117 (plc (none, none)) (heap_alloc_last w2 _) pl_size rfl (plc_one _) ?_; intro w3 h3 k3; have HP3 := Lib.hid h3; have hbb : Below w2.heap.size w2 w3 := (Below.newly' w2 _).trans (k3.below (Nat.le_refl _)); have HX3 := Lib.hid ((hbb.block _ (by have := HS2.out; omega)).trans HX2.out); have HY3 := Lib.hid ((hbb.block _ (by have := HS2.out; omega)).trans HY2.out); have HB3 := Lib.hid (HB2.out.trans (hbb.mono HB2.out.size)); have HS3 : Hid (w2.heap.size < w3.heap.size) := (Array.getElem?_eq_some_iff.1 h3).1; obtain ⟨X, hX⟩ : ∃ X, X = w2.heap.size := ⟨_, rfl⟩; rw [← hX] at HP3 HS3 ⊢; have HXX : Hid (w.heap.size + 2 ≤ X) := (by show _ ≤ _; have := HS2.out; omega); clear h3 k3 hbb hX))
  have HKS : Hid (∀ V, Below w3.heap.size w3 V → (V.heap[w.heap.size]? = some (.cells #[.int .u32 (bb : Int), .slice va vn vc, .slice none 0 0] 34 (0, 0)) ∧ V.heap[X]? = some (.cells (plc po) 117 (0, 0)))) := fun V hV =>
    ⟨(hV.block _ (by have := HS3.out; have := HXX.out; omega)).trans HX3.out, (hV.block _ HS3.out).trans HP3.out⟩
  have HW : Hid (Below w3.heap.size w3 w3.drew) := drawn_below w3
  refine wp_region_T (S := (fun V => V.heap[w.heap.size]? = some (.cells #[.int .u32 (bb : Int), .slice va vn vc, .slice none 0 0] 34 (0, 0)) ∧ V.heap[X]? = some (.cells (plc po) 117 (0, 0)))) [10] (by kernel_rfl) (by exact HKS.out _ HW.out) (fun hHeld => ?_)
  refine wpAnyT_take (i := 0) (oi := ⟨some 54, _, _, _, _, _⟩) (v := ?vg1_0) rfl (by kernel_rfl) (by kernel_rfl) (by kernel_rfl) (by kernel_rfl) (fun _ _ _ h => h) (Or.inl ⟨by rfl, ?hg1_0⟩) (by assumption) ?rg1_0
  case hg1_0 => (intro w hSw; (try dsimp only at hSw); first | (go_simp; done) | (go_simp; with_reducible rfl))
  (try simp only [Act.put, List.setIfInBounds_toArray, List.set_cons_zero, List.set_cons_succ])
  refine wpAnyT_take (i := 1) (oi := ⟨some 55, _, _, _, _, _⟩) (v := _) rfl (by kernel_rfl) (by kernel_rfl) (by kernel_rfl) (by kernel_rfl) (fun _ _ _ h => h) (yieldsIf_arr (by rfl) 31 _ rfl w.heap.size 0 rfl #[.int .u32 (bb : Int), .slice va vn vc] _ (fun w hw => (row_range hw.1)) Tryd.underlying31 rfl (by exact row_size)) (by assumption) ?_
  (try simp only [Act.put, List.setIfInBounds_toArray, List.set_cons_zero, List.set_cons_succ])
  refine wpAnyT_take (i := 2) (oi := ⟨some 56, _, _, _, _, _⟩) (v := ?vg1_2) rfl (by kernel_rfl) (by kernel_rfl) (by kernel_rfl) (by kernel_rfl) (fun _ _ _ h => h) (Or.inl ⟨by rfl, ?hg1_2⟩) (by assumption) ?rg1_2
  case hg1_2 => (intro w hSw; (try dsimp only at hSw); first | (go_simp; done) | (go_simp; with_reducible rfl))
  (try simp only [Act.put, List.setIfInBounds_toArray, List.set_cons_zero, List.set_cons_succ])
  refine wpAnyT_take (i := 3) (oi := ⟨some 57, _, _, _, _, _⟩) (v := _) rfl (by kernel_rfl) (by kernel_rfl) (by kernel_rfl) (by kernel_rfl) (fun _ _ _ h => h) (yieldsIf_load_row (by rfl) 117 _ rfl X rfl (plc po) 117 (0, 0) _ (fun w hw => hw.2) Tryd.underlying117 rfl (by exact pl_size)) (by assumption) ?_
  (try simp only [Act.put, List.setIfInBounds_toArray, List.set_cons_zero, List.set_cons_succ])
  refine wpAnyT_take (i := 4) (oi := ⟨some 58, _, _, _, _, _⟩) (v := ?vg1_4) rfl (by kernel_rfl) (by kernel_rfl) (by kernel_rfl) (by kernel_rfl) (fun _ _ _ h => h) (Or.inl ⟨by rfl, ?hg1_4⟩) (by assumption) ?rg1_4
  case hg1_4 => (intro w hSw; (try dsimp only at hSw); first | (go_simp; done) | (go_simp; with_reducible rfl))
  (try simp only [Act.put, List.setIfInBounds_toArray, List.set_cons_zero, List.set_cons_succ])
  refine wpAnyT_take (i := 5) (oi := ⟨some 59, _, _, _, _, _⟩) (v := ?vg1_5) rfl (by kernel_rfl) (by kernel_rfl) (by kernel_rfl) (by kernel_rfl) (fun _ _ _ h => h) (Or.inl ⟨by rfl, ?hg1_5⟩) (by assumption) ?rg1_5
  case hg1_5 => (intro w hSw; (try dsimp only at hSw); first | (go_simp; done) | (go_simp; with_reducible rfl))
  (try simp only [Act.put, List.setIfInBounds_toArray, List.set_cons_zero, List.set_cons_succ])
  refine wpAnyT_take (i := 6) (oi := ⟨some 60, _, _, _, _, _⟩) (v := ?vg1_6) rfl (by kernel_rfl) (by kernel_rfl) (by kernel_rfl) (by kernel_rfl) (fun _ _ _ h => h) (Or.inl ⟨by rfl, ?hg1_6⟩) (by assumption) ?rg1_6
  case hg1_6 => (intro w hSw; (try dsimp only at hSw); first | (go_simp; done) | (go_simp; with_reducible rfl))
  (try simp only [Act.put, List.setIfInBounds_toArray, List.set_cons_zero, List.set_cons_succ])
  refine wpAnyT_one (i := 7) (o := ⟨some 61, _, _, _, _, _⟩) (by kernel_rfl) rfl (fun K hK => ?_)
  go_simp
  go_at_call 85
  rw [HWR.out]
  refine (HPW.out _ (HB3.out.trans (HW.out.mono HB3.out.size))).mono ?_
  rintro r w5 ⟨p5, rfl, hp5, hb⟩
  have HP5 := Lib.hid hp5
  have HW5 := Lib.hid HW.out.size
  replace HW := Lib.hid (HW.out.trans (hb.mono HW.out.size))
  have HWA := Lib.hid HW.out
  have HWL := Lib.hid HW.out.size
  clear hb hp5
  dsimp only
  refine hK.out _ _ (by exact HKS.out _ HW.out) (fun hHeld => ?_)
  clear hK K
  (try simp only [Act.put, List.setIfInBounds_toArray, List.set_cons_zero, List.set_cons_succ])
  refine wpAnyT_one (i := 8) (o := ⟨some 62, _, _, _, _, _⟩) (by kernel_rfl) rfl (fun K hK => ?_)
  go_simp
  go_at_call 84
  refine (HSET.out _ (HB3.out.trans (HW.out.mono HB3.out.size)) p5).mono ?_
  rintro r w6 ⟨c6, rfl, hr6, hb⟩
  have HR6 := Lib.hid hr6
  replace HW := Lib.hid (HW.out.trans (hb.mono HW.out.size))
  have HB6 := Lib.hid hb
  obtain ⟨b6, a6, n6, m6, rfl⟩ := hr6.parts
  clear hb hr6
  dsimp only
  refine hK.out _ _ (by exact HKS.out _ HW.out) (fun hHeld => ?_)
  clear hK K
  (try simp only [Act.put, List.setIfInBounds_toArray, List.set_cons_zero, List.set_cons_succ])
  refine wpAnyT_take (i := 9) (oi := ⟨some 63, _, _, _, _, _⟩) (v := ?vg1_9) rfl (by kernel_rfl) (by kernel_rfl) (by kernel_rfl) (by kernel_rfl) (fun _ _ _ h => h) (Or.inl ⟨by rfl, ?hg1_9⟩) (by assumption) ?rg1_9
  case hg1_9 => (intro w hSw; (try dsimp only at hSw); first | (go_simp; done) | (go_simp; with_reducible rfl))
  (try simp only [Act.put, List.setIfInBounds_toArray, List.set_cons_zero, List.set_cons_succ])
  refine wpAnyT_last (i := 10) (o := ⟨none, _, _, _, _, _⟩) (by kernel_rfl) (by decide) rfl (fun K hK => ?_)
  rw [if_pos (by rfl)]
  refine st_agg_wp 34 _ _ rfl (w.heap.size + 1) #[.int .u32 (b6 : Int), .slice a6 n6 m6, .slice none 0 0] rfl rfl 34 #[.int .u32 0, .slice none 0 0, .slice none 0 0] ((HW.out.block _ (by have := HS3.out; have := HXX.out; omega)).trans HY3.out) nd_size rfl (by simp [Value.oneCell']) ?_
  intro w7 h7 k7
  refine hK.out _ _ ?_
  clear hK K
  (try simp only [Act.put, List.setIfInBounds_toArray, List.set_cons_zero, List.set_cons_succ])
  refine wpAnyT_done (by kernel_rfl) ?_ _
  clear hHeld
  go_wp2_with fail
  refine bodyPost_ret (results_cell_row rfl _ _ (w.heap.size + 1) 34 _ (0, 0) _ rfl h7 Tryd.underlying34 rfl nd_size) rfl ⟨_, rfl, ?_, (HB3.out.trans (HW.out.mono HB3.out.size)).trans (k7.below (by omega))⟩
  have hs1 := HS3.out
  have hs2 := HXX.out
  have hs3 := HWL.out
  have hs4 := HW5.out
  have hnode := NodeAt.of_row (hs := hs) (f := f) (L := insE L k x) (S := fun g => (S g ∧ g < w.heap.size) ∨ w.heap.size + 2 ≤ g) (HR6.out.weak fun g hg => .inr (by omega)) (fun j hj => by
    rw [← HLVF.out]
    unfold setG
    by_cases hji : j = i
    · subst hji
      rw [if_pos rfl, HCE.out]
      exact (HP5.out.later HB6.out).weak fun g hg => hg.imp_right fun hg => by have := hg; omega
    · rw [if_neg hji, HOTH.out j hji]
      exact ((HPL.out j hj).old.later (HB3.out.trans (HW.out.mono HB3.out.size))).weak fun g hg => .inl hg)
  obtain ⟨b7, v7, e7, hnode⟩ := hnode
  simp only [Array.mk.injEq, List.cons.injEq] at e7
  obtain ⟨rfl, rfl, _⟩ := e7
  exact (hnode.kp (Kp.only k7 (fun h => by omega))).weak fun g hg => by
    rcases hg with hg | hg
    · exact .inl hg.1
    · exact .inr (by omega)
theorem hm_with (hs : ByteArray → Nat) (hlt : ∀ k, hs k < 18446744073709551616) : ∀ f, f ≤ 13 → WithOk hs f
  | 0, _ => hm_with_0 hs
  | f + 1, hf => hm_with_s hs hlt f (by omega) (hm_pwith hs f (hm_with hs hlt f (by omega)))
end Go.Proofs.YtnnlfgfgfegjkaaDoor
