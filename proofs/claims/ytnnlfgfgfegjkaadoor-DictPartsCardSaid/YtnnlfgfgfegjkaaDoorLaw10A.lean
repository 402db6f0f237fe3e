/- Layer 10's laws: pairs, few, the chapter's examples, maps that are made. (written by tools/gen10/law10a.py) -/
import Derived.Test.YtnnlfgfgfegjkaaDoorRd3
import Derived.Test.YtnnlfgfgfegjkaaDoorLaw09B
import Derived.Test.YtnnlfgfgfegjkaaDoorDc6
namespace Go.Proofs.YtnnlfgfgfegjkaaDoor
open Go.RowKit
set_option maxRecDepth 1000000
set_option linter.unusedSimpArgs false

/-- A pair. -/
abbrev prC (o : Ent) : Array Value := #[.string o.1, .int .i64 o.2]
def PrIn (W : World) (b o : Nat) (x : Ent) : Prop := W.rangeAt b o (prC x).toList
theorem PrIn.later {W W' : World} {b o : Nat} {x : Ent} (h : PrIn W b o x) (hb : Below W.heap.size W W') : PrIn W' b o x :=
  fun j v hv => (hb.cell (World.block_lt_of_cell? W _ (h j v hv))).trans (h j v hv)
/-- v is a list that reads as these. -/
def Prs (w : World) (v : Value) (l : List Ent) : Prop :=
  ∃ (a : Option Addr) (cap b o : Nat), v = .slice a l.length cap ∧ (0 < l.length → a = some ⟨b, o, none⟩) ∧ (∀ j (h : j < l.length), PrIn w b (o + j * 2) l[j]) ∧ l.length ≤ maxLen
theorem Prs.later {w w' : World} {v : Value} {l : List Ent} (h : Prs w v l) (hb : Below w.heap.size w w') : Prs w' v l := by
  obtain ⟨a, cap, b, o, h1, h2, h3, h4⟩ := h
  exact ⟨a, cap, b, o, h1, h2, fun j hj => (h3 j hj).later hb, h4⟩
theorem pr_size : (Tryd.prog.info? 88).map (·.size) = some 2 := by kernel_rfl
theorem ld_pr {ops : Array Oper} {rest : List Oper} {o : Oper} {a : Act} {w : World} {Q : Exit → Act → World → Prop} (hwd : Region.wanted o (yielded ops a.tmps) = true) (y : Operand) (ho : o.op = .load 88 y)
    (b k : Nat) (hx : a.eval y = .pointer (some ⟨b, k, none⟩)) (x : Ent) (hR : PrIn w b k x)
    (h : wpList Tryd.prog ops Q rest (a.put o.dst (.agg (prC x))) w) : wpList Tryd.prog ops Q (o :: rest) a w :=
  wpList_step fun _ hK => by
    rw [if_pos hwd]
    exact wp_load_mid 88 y ho b k hx _ _ hR Tryd.underlying88 rfl pr_size (hK _ _ h)
/-- Are these few operations, of short keys? -/
def few10B (l : List Ent) : Bool := decide ((∀ o ∈ l, o.1.size ≤ 200) ∧ l.length ≤ 80)
theorem few10_prs {l : List Ent} (h : few10B l = true) : (∀ o ∈ l, o.1.size ≤ 200) ∧ l.length ≤ 80 := by
  unfold few10B at h
  simpa using h
set_option maxHeartbeats 2000000 in
theorem few10 (v : Value) (l : List Ent) (w : World) (hl : Prs w v l) : Calls Tryd.prog 12 #[v] w fun e w' => e = .returned (.bool (few10B l)) ∧ Below w.heap.size w w' := by
  obtain ⟨ad, cap, bb, oo, rfl, h1, h2, hmax⟩ := hl
  have HLO := Lib.hid h1
  have HLC := Lib.hid h2
  have hm63 : (l.length : Int) ≤ 9223372036854775807 := by unfold maxLen at hmax; omega
  obtain ⟨B, hB⟩ : ∃ B, B = few10B l := ⟨_, rfl⟩
  rw [← hB]
  have HFB := Lib.hid hB
  clear h1 h2 hmax hB
  go_enter Tryd.func12, Tryd.ntmps12
  go_wp2_with fail
  go_loopw [7] (fun i wl => ∃ n : Nat, n ≤ l.length ∧ i = .int .i64 (n : Int) ∧ Hid (∀ o ∈ l.take n, o.1.size ≤ 200) ∧ Below w.heap.size w wl) (fun i _ => l.length - (intOf i).toNat)
  case atStart => exact ⟨0, Nat.zero_le _, rfl, (by simp : ∀ o ∈ l.take 0, o.1.size ≤ 200), Below.refl _ _⟩
  case round =>
    obtain ⟨n, hn, rfl, HT, hb⟩ := hrel
    have HB := Lib.hid hb
    by_cases hlt : n < l.length
    · have hlt' : (n : Int) < (l.length : Int) := by omega
      have i0 : (0 : Int) ≤ (n : Int) := by omega
      have had : ad = some ⟨bb, oo, none⟩ := HLO.out (by omega)
      subst had
      have HR := Lib.hid ((HLC.out n hlt).later hb)
      have HMEM := Lib.hid (List.getElem_mem hlt)
      have HTK := Lib.hid (List.take_succ_eq_append_getElem hlt)
      obtain ⟨x, hx⟩ : ∃ x, x = l[n] := ⟨_, rfl⟩
      rw [← hx] at HR HMEM HTK
      obtain ⟨x1, x2⟩ := x
      have HN := Lib.hid (fun (m : Nat) => (show Below w.heap.size w (wr.alloc (.cells (prC (x1, x2)) 88)) from Below.alloc HB.out HB.out.size _))
      clear hx hb
      by_cases h15 : (200 : Int) < (x1.size : Int)
      · have hf : few10B l = false := by
          unfold few10B
          rw [decide_eq_false_iff_not]
          intro h
          have := h.1 _ HMEM.out
          simp only at this
          omega
        obtain rfl : B = false := by rw [HFB.out, hf]
        clear hf
        go_wp2_with (refine ld_pr rfl _ rfl bb (oo + n * 2) rfl (x1, x2) HR.out ?_)
        go_ret
        exact ⟨rfl, HN.out 0⟩
      · go_wp2_with (refine ld_pr rfl _ rfl bb (oo + n * 2) rfl (x1, x2) HR.out ?_)
        go_roundw
        case rel =>
          refine ⟨n + 1, by omega, by go_num, ?_, HN.out 0⟩
          show ∀ o ∈ l.take (n + 1), o.1.size ≤ 200
          intro o ho
          rw [HTK.out, List.mem_append, List.mem_singleton] at ho
          rcases ho with ho | rfl
          · exact HT.out o ho
          · show x1.size ≤ 200; omega
        case measure => simp [intOf]; omega
    · obtain rfl : n = l.length := by omega
      have HFE : Hid (few10B l = decide ((l.length : Int) ≤ 80)) := by
        show _ = _
        have h := HT.out
        rw [List.take_length] at h
        unfold few10B
        rw [decide_eq_decide]
        exact ⟨fun a => by omega, fun a => ⟨h, by omega⟩⟩
      obtain rfl : B = decide ((l.length : Int) ≤ 80) := by rw [HFB.out, HFE.out]
      go_wp2_with fail
      go_ret
      exact ⟨rfl, HB.out⟩
theorem pr_two : insE (insE [] kA 1) (⟨#[99]⟩ : ByteArray) 2 = [(kA, 1), (⟨#[99]⟩, 2)] := by decide
theorem pr_a : (belE [(kA, (1 : Int)), (⟨#[99]⟩, 2)] (behind kA)).length = 1 := by decide
theorem pr_b : (belE [(kA, (1 : Int)), (⟨#[99]⟩, 2)] (behind kB)).length = 1 := by decide
theorem pr_r : (belE [(kA, (1 : Int)), (⟨#[99]⟩, 2)] kB).length = 1 := by decide
set_option maxHeartbeats 4000000 in
theorem live10 (w : World) (hT : Tab6 w) : Calls Tryd.prog 11 #[] w fun e w' => e = .returned (.bool true) ∧ Below w.heap.size w w' := by
  have HT := Lib.hid (fun W (h : Below w.heap.size w W) => hT.below h)
  have HNEW := Lib.hid (fun W => hm_New W 0 8 (fun _ => True))
  clear hT
  go_enter Tryd.func11, Tryd.ntmps11
  go_wp2_with fail
  refine (HNEW.out _).mono ?_
  rintro e w1 ⟨c0, rfl, hm, hb⟩
  have HM0 := Lib.hid hm.ml
  have HW := Lib.hid hb
  clear hm hb
  go_wp2_with fail
  refine (ml_Set w1 0 (by decide) 8 [] c0 kA 1 (by decide) HM0.out Rise.nil (by simp) (HT.out _ HW.out)).mono ?_
  rintro e w2 ⟨c1, rfl, hm, hb⟩
  replace HW := Lib.hid (HW.out.trans (hb.mono HW.out.size))
  have HM1 := Lib.hid hm
  clear hm hb HM0
  go_wp2_with fail
  refine (ml_Set w2 0 (by decide) 8 _ c1 (⟨#[99]⟩ : ByteArray) 2 (by decide) HM1.out (Rise.nil.ins _ _) (by decide) (HT.out _ HW.out)).mono ?_
  rintro e w3 ⟨c2, rfl, hm, hb⟩
  rw [pr_two] at hm
  replace HW := Lib.hid (HW.out.trans (hb.mono HW.out.size))
  have HM2 := Lib.hid hm
  have HZ2 := Lib.hid hm.size
  clear hm hb HM1
  have hr2 : Rise [(kA, (1 : Int)), (⟨#[99]⟩, 2)] := by rw [← pr_two]; exact (Rise.nil.ins _ _).ins _ _
  have hS2 : ∀ e ∈ [(kA, (1 : Int)), (⟨#[99]⟩, 2)], e.1.size ≤ 9223372036854775800 := by decide
  have hn1 := fun W (h : ML W 0 8 _ c2) hT => dc_Next W 0 (by decide) 8 _ c2 kA (by decide) h hr2 (by decide) hS2 hT
  have hn2 := fun W (h : ML W 0 8 _ c2) hT => dc_Next W 0 (by decide) 8 _ c2 kB (by decide) h hr2 (by decide) hS2 hT
  have hn3 := fun W (h : ML W 0 8 _ c2) hT => dc_Rank W 0 8 _ c2 kB h hr2 (by decide) hT
  have e1 : ansE (placeE [(kA, (1 : Int)), (⟨#[99]⟩, 2)] ((1 : Nat) : Int)) = .tuple #[.string ⟨#[99]⟩, .int .i64 2, .bool true] := rfl
  rw [pr_a, e1] at hn1
  rw [pr_b, e1] at hn2
  rw [pr_r] at hn3
  have HN1 := Lib.hid hn1
  have HN2 := Lib.hid hn2
  have HN3 := Lib.hid hn3
  clear hr2 hS2 hn1 hn2 hn3 e1
  go_wp2_with (first
    | (refine st_agg rfl 36 _ _ rfl w3.heap.size c2 rfl rfl 36 #[.int .u64 0, .int .i64 0, .int .i64 0, .int .u32 0, .slice none 0 0, .slice none 0 0] (heap_alloc_last w3 _) (by rw [HZ2.out]; exact map_size) (by rw [HZ2.out]; rfl) HM2.out.one ?_
       intro w4 h4 k4
       have hb4 : Below w3.heap.size w3 w4 := (Below.newly' w3 _).trans (k4.below (Nat.le_refl _))
       have HX := Lib.hid h4
       replace HM2 := Lib.hid (HM2.out.later hb4)
       replace HW := Lib.hid (HW.out.trans (hb4.mono HW.out.size))
       clear h4 k4 hb4)
    | (refine ld_if (by rfl) 36 _ rfl w3.heap.size rfl 36 _ _ _ HX.out Tryd.underlying36 rfl (by rw [HZ2.out]; exact map_size) ?_)
    | (go_at_call 14; (with_reducible refine (HN1.out _ HM2.out (HT.out _ HW.out)).mono ?_); rintro e w5 ⟨rfl, hb⟩; replace HX := Lib.hid ((hb.block _ (Array.getElem?_eq_some_iff.1 HX.out).1).trans HX.out); replace HM2 := Lib.hid (HM2.out.later hb); replace HW := Lib.hid (HW.out.trans (hb.mono HW.out.size)); clear hb)
    | (go_at_call 14; (with_reducible refine (HN2.out _ HM2.out (HT.out _ HW.out)).mono ?_); rintro e w5 ⟨rfl, hb⟩; replace HX := Lib.hid ((hb.block _ (Array.getElem?_eq_some_iff.1 HX.out).1).trans HX.out); replace HM2 := Lib.hid (HM2.out.later hb); replace HW := Lib.hid (HW.out.trans (hb.mono HW.out.size)); clear hb)
    | (go_at_call 20; (with_reducible refine (HN3.out _ HM2.out (HT.out _ HW.out)).mono ?_); rintro e w5 ⟨rfl, hb⟩; replace HM2 := Lib.hid (HM2.out.later hb); replace HW := Lib.hid (HW.out.trans (hb.mono HW.out.size)); clear hb))
  go_ret
  exact ⟨rfl, HW.out⟩
theorem results_cells2 {P : Program} {fn : Func} {p q : Tmp} {ty tz : TypeId} (h : fn.results = #[.cell p ty, .cell q tz]) (tmps : Array Value) (w : World) (g g' : Nat) (t t' : TypeId) (cs ds : Array Value) (fr fr' : Nat × Nat) (d d' : TypeDesc)
    (hp : tmps.getD p undef = .pointer (some ⟨g, 0, none⟩)) (hg : w.heap[g]? = some (.cells cs t fr)) (hu : P.underlying ty = some d) (hd : (match d with | .struct _ | .array _ _ => true | _ => false) = true) (hi : (P.info? ty).map (·.size) = some cs.size)
    (hp2 : tmps.getD q undef = .pointer (some ⟨g', 0, none⟩)) (hg2 : w.heap[g']? = some (.cells ds t' fr')) (hu2 : P.underlying tz = some d') (hd2 : (match d' with | .struct _ | .array _ _ => true | _ => false) = true) (hi2 : (P.info? tz).map (·.size) = some ds.size) :
    (results fn tmps).run P w = .ok (.tuple #[.agg cs, .agg ds]) w := by
  have hp' : tmps[p]?.getD undef = .pointer (some ⟨g, 0, none⟩) := by simpa using hp
  have hq' : tmps[q]?.getD undef = .pointer (some ⟨g', 0, none⟩) := by simpa using hp2
  simp [results, h, hp', hq', asAddr, run_loadVar_row w g t ty cs fr d hg hu hd hi, run_loadVar_row w g' t' tz ds fr' d' hg2 hu2 hd2 hi2]
/-- A struct is read as a step by itself. -/
theorem ld_row10 {o : Oper} {a : Act} {w : World} {K : Act → World → Prop} {Q : Exit → Act → World → Prop} (ty : TypeId) (x : Operand) (ho : o.op = .load ty x)
    (X : Nat) (hx : a.eval x = .pointer (some ⟨X, 0, none⟩)) (T : TypeId) (c : Array Value) (fr : Nat × Nat) (d : TypeDesc) (hB : w.heap[X]? = some (.cells c T fr))
    (hu : Tryd.prog.underlying ty = some d) (hd : d.isRow = true) (hi : (Tryd.prog.info? ty).map (·.size) = some c.size) (h : K (a.put o.dst (.agg c)) w) : o.wp Tryd.prog a w K Q :=
  wp_load_row ty x ho X hx T c fr d hB hu (by cases d <;> simp_all [TypeDesc.isRow]) hi h
/-- The end of 'made': the map's result may be stored ahead of the reading of the other one. -/
structure Fin10 (w : World) (s : Nat) (n : Int) (L : List Ent) (cm cn : Array Value) (st : Prop) (V : World) : Prop where
  m : ML V s n L cm
  r : RefM V cn L
  z : V.heap[w.heap.size + 1 + 1]? = some (.cells refZ 40 (0, 0))
  o : (st → V.heap[w.heap.size + 1]? = some (.cells cm 36 (0, 0))) ∧ (¬ st → V.heap[w.heap.size + 1]? = some (.cells mapZ 36 (0, 0)))
  b : Below w.heap.size w V
set_option maxHeartbeats 8000000 in
theorem made10 (w : World) (s : Nat) (hss : s < 18446744073709551616) (n : Int) (va : Value) (l : List Ent) (hl : Prs w va l) (hf : ∀ e ∈ l, e.1.size ≤ 200) (hn : l.length ≤ 30000) (hT : Tab6 w) :
    Calls Tryd.prog 13 #[.agg #[.int .u64 (s : Int), .int .i64 n], va] w fun e w' => ∃ c cw, e = .returned (.tuple #[.agg c, .agg cw]) ∧ ML w' s n (uniE l []) c ∧ RefM w' cw (uniE l []) ∧ Below w.heap.size w w' := by
  have HT := Lib.hid (fun W (h : Below w.heap.size w W) => hT.below h)
  obtain ⟨ad, cap, bb, oo, rfl, h1, h2, hmax⟩ := hl
  have HLO := Lib.hid h1
  have HLC := Lib.hid h2
  obtain ⟨N, hN⟩ : ∃ N, N = l.length := ⟨_, rfl⟩
  have HNL : Hid (N = l.length ∧ N ≤ 30000) := ⟨hN, by omega⟩
  have hn4 : (N : Int) ≤ 30000 := by omega
  have HFF := Lib.hid hf
  rw [← hN]
  obtain ⟨w0, hw0⟩ : ∃ w0, ((w.alloc (.cells #[.int .u64 (s : Int), .int .i64 n] 24)).alloc (.cells mapZ 36)).alloc (.cells refZ 40) = w0 := ⟨_, rfl⟩
  obtain ⟨hb0, hx, hy, hz, hs0⟩ := three_newG hw0
  have HC := Lib.hid hx
  have HR1 := Lib.hid hy
  have HR2 : Hid (w0.heap[w.heap.size + 1 + 1]? = some (.cells refZ 40 (0, 0))) := hz
  have HB := Lib.hid hb0
  have HS0 := Lib.hid hs0
  have HNEW := Lib.hid (fun W => hm_New W s n (fun _ => True))
  clear hT h1 h2 hmax hf hn hN hb0 hx hy hz hs0
  go_enter Tryd.func13, Tryd.ntmps13
  go_upto_region 1 with fail
  clear hw0
  go_upto_region 2 with (first
    | (refine ld_if (by rfl) 24 _ rfl w.heap.size rfl 24 _ _ _ HC.out Tryd.underlying24 rfl api_size ?_)
    | (go_at_call 48; (with_reducible refine (HNEW.out _).mono ?_); rintro r w2 ⟨c0, rfl, hm, hb⟩; replace HR1 := Lib.hid ((hb.block _ (Array.getElem?_eq_some_iff.1 HR1.out).1).trans HR1.out); replace HR2 := Lib.hid ((hb.block _ (Array.getElem?_eq_some_iff.1 HR2.out).1).trans HR2.out); replace HB := Lib.hid (HB.out.trans (hb.mono HB.out.size)); have HM0 := Lib.hid hm.ml; have HZ0 := Lib.hid hm.size; have HS2 := Lib.hid hb.size; clear hm hb)
    | (refine st_agg rfl 36 _ _ rfl w2.heap.size c0 rfl rfl 36 mapZ (heap_alloc_last w2 _) (by rw [HZ0.out]; exact map_size) (by rw [HZ0.out]; rfl) HM0.out.one ?_
       intro w3 h3 k3
       have hb3 : Below w2.heap.size w2 w3 := (Below.newly' w2 _).trans (k3.below (Nat.le_refl _))
       replace HR1 := Lib.hid ((hb3.block _ (Array.getElem?_eq_some_iff.1 HR1.out).1).trans HR1.out)
       replace HR2 := Lib.hid ((hb3.block _ (Array.getElem?_eq_some_iff.1 HR2.out).1).trans HR2.out)
       replace HB := Lib.hid (HB.out.trans (hb3.mono HB.out.size))
       have HM : Hid (MB w3 s n (uniE (l.take 0) []) w2.heap.size) := ⟨c0, h3, HM0.out.later hb3⟩
       have HS3 : Hid (w3.heap.size = w2.heap.size + 1) := by show _ = _; rw [k3.size]; simp
       clear h3 k3 hb3))
  obtain ⟨X, hX⟩ : ∃ X, X = w2.heap.size := ⟨_, rfl⟩
  rw [← hX] at HM ⊢
  have HXE := Lib.hid hX
  clear hX
  go_upto_region 3 with fail
  obtain ⟨w4, hw4⟩ : ∃ w4, w3.alloc (.cells refZ 40) = w4 := ⟨_, rfl⟩
  obtain ⟨hb4, hy4, hs4⟩ := new_below hw4
  obtain ⟨Y, hY⟩ : ∃ Y, Y = w3.heap.size := ⟨_, rfl⟩
  have HN : Hid (RB w4 (uniE (l.take 0) []) Y) := ⟨refZ, by rw [hY]; exact hy4, RefM.zero _⟩
  replace HR1 := Lib.hid ((hb4.block _ (Array.getElem?_eq_some_iff.1 HR1.out).1).trans HR1.out)
  replace HR2 := Lib.hid ((hb4.block _ (Array.getElem?_eq_some_iff.1 HR2.out).1).trans HR2.out)
  replace HM := Lib.hid (HM.out.later hb4)
  replace HB := Lib.hid (HB.out.trans (hb4.mono HB.out.size))
  have HD : Hid (w.heap.size + 1 + 1 < X ∧ w.heap.size + 1 + 1 < Y ∧ X < Y) := by
    show _ ∧ _ ∧ _
    have h1 := HS0.out
    have h2 := HS2.out
    have h3 := HS3.out
    have h4 := HXE.out
    omega
  rw [hw4, ← hY]
  clear hb4 hy4 hs4 hw4 hY HXE HS0 HS2 HS3 HM0 HZ0 HC
  go_wp2_with fail
  go_loopw [14] (fun i wl => ∃ j : Nat, i = .int .i64 (j : Int) ∧ j ≤ N ∧ Hid (MB wl s n (uniE (l.take j) []) X) ∧ Hid (RB wl (uniE (l.take j) []) Y) ∧ Hid (wl.heap[w.heap.size + 1]? = some (.cells mapZ 36 (0, 0))) ∧ Hid (wl.heap[w.heap.size + 1 + 1]? = some (.cells refZ 40 (0, 0))) ∧ Hid (Below w.heap.size w wl)) (fun i _ => N - (intOf i).toNat)
  case atStart => exact ⟨0, rfl, Nat.zero_le _, HM, HN, HR1, HR2, HB⟩
  case round =>
    clear HM HN HR1 HR2 HB
    obtain ⟨j, rfl, hj, HM, HN, HR1, HR2, HB⟩ := hrel
    by_cases hlt : j < N
    · have hlt' : (j : Int) < (N : Int) := by omega
      have hjL : j < l.length := by rw [← HNL.out.1]; exact hlt
      have had : ad = some ⟨bb, oo, none⟩ := HLO.out (by omega)
      subst had
      have HOP := Lib.hid ((HLC.out j hjL).later HB.out)
      have HRI := Lib.hid (uni_rise Rise.nil (l.take j))
      have HSH := Lib.hid (short_uni (A := l.take j) (fun e he => HFF.out e (List.mem_of_mem_take he)) short_nil)
      have HLN : Hid ((uniE (l.take j) []).length ≤ 40000) := by show _ ≤ _; have h := uni_len Rise.nil (l.take j); rw [List.length_take, List.length_nil] at h; have := HNL.out; omega
      have hkl := HFF.out _ (List.getElem_mem hjL)
      have HEA := Lib.hid (uni_take hjL [])
      obtain ⟨D, hD⟩ : ∃ D, D = uniE (l.take j) [] := ⟨_, rfl⟩
      obtain ⟨⟨k, x⟩, ho⟩ : ∃ o, o = l[j] := ⟨_, rfl⟩
      rw [← ho] at HOP hkl HEA
      rw [← hD] at HM HN HRI HSH HLN HEA
      have HKL : Hid (k.size ≤ 200) := hkl
      have HLT := Lib.hid hlt
      clear ho hD hkl hjL hlt
      go_upto_region 6 with (refine ld_pr (by rfl) _ rfl bb (oo + j * 2) rfl (k, x) HOP.out ?_)
      obtain ⟨OB, hOB⟩ : ∃ OB, OB = wr.heap.size := ⟨_, rfl⟩
      have hb6 := Below.newly' wr (.cells (prC (k, x)) 88)
      have hO : (wr.alloc (.cells (prC (k, x)) 88)).heap[OB]? = some (.cells (prC (k, x)) 88 (0, 0)) := by rw [hOB]; exact heap_alloc_last _ _
      replace HR1 := Lib.hid ((hb6.block _ (Array.getElem?_eq_some_iff.1 HR1.out).1).trans HR1.out)
      replace HR2 := Lib.hid ((hb6.block _ (Array.getElem?_eq_some_iff.1 HR2.out).1).trans HR2.out)
      replace HM := Lib.hid (HM.out.later hb6)
      replace HN := Lib.hid (HN.out.later hb6)
      replace HB := Lib.hid (HB.out.trans (hb6.mono HB.out.size))
      obtain ⟨w6, hw6⟩ : ∃ w6, wr.alloc (.cells (prC (k, x)) 88) = w6 := ⟨_, rfl⟩
      rw [hw6] at HM HN HR1 HR2 HB hO
      rw [hw6, ← hOB]
      clear hb6 hw6 hOB HOP
      obtain ⟨cm, hX1, hm1⟩ := HM.out
      obtain ⟨cn, hX2, hm2⟩ := HN.out
      have HZ1 := Lib.hid hm1.size
      have HZ2 := Lib.hid hm2.size
      have HKS : Hid (∀ V, Below w6.heap.size w6 V → V.heap[X]? = some (.cells cm 36 (0, 0)) ∧ V.heap[Y]? = some (.cells cn 40 (0, 0)) ∧ V.cell? ⟨OB, 0, none⟩ = some (.string k) ∧ V.cell? ⟨OB, 1, none⟩ = some (.int .i64 x)) := fun V hV => ⟨(hV.block _ (Array.getElem?_eq_some_iff.1 hX1).1).trans hX1, (hV.block _ (Array.getElem?_eq_some_iff.1 hX2).1).trans hX2, cell_in ((hV.block _ (Array.getElem?_eq_some_iff.1 hO).1).trans hO) rfl, cell_in ((hV.block _ (Array.getElem?_eq_some_iff.1 hO).1).trans hO) rfl⟩
      have HST := Lib.hid (fun W (hb : Below w6.heap.size w6 W) => ml_Set W s hss n D cm k x (by have := HKL.out; omega) (hm1.later hb) HRI.out (by have := HLN.out; omega) (HT.out _ (HB.out.trans (hb.mono HB.out.size))))
      have HSR := Lib.hid (fun W (hb : Below w6.heap.size w6 W) => ref_Set9 W cn D k x (hm2.later hb) HRI.out HSH.out (by have := HLN.out; omega))
      have HW : Hid (Below w6.heap.size w6 w6.drew) := drawn_below w6
      clear hX1 hX2 hm1 hm2 hO
      refine wp_region_T (S := (fun V => V.heap[X]? = some (.cells cm 36 (0, 0)) ∧ V.heap[Y]? = some (.cells cn 40 (0, 0)) ∧ V.cell? ⟨OB, 0, none⟩ = some (.string k) ∧ V.cell? ⟨OB, 1, none⟩ = some (.int .i64 x))) [12, 13] (by kernel_rfl) (by exact HKS.out _ HW.out) (fun hHeld => ?_)
      refine wpAnyT_take (i := 0) (oi := ⟨some 18, _, _, _, _, _⟩) (v := _) rfl (by kernel_rfl) (by kernel_rfl) (by kernel_rfl) (by kernel_rfl) (fun _ _ _ h => h) (yieldsIf_load_row (by rfl) 36 _ rfl X rfl cm 36 (0, 0) _ (fun w hw => hw.1) Tryd.underlying36 rfl (by rw [HZ1.out]; exact map_size)) (by assumption) ?_
      (try simp only [Act.put, List.setIfInBounds_toArray, List.set_cons_zero, List.set_cons_succ])
      refine wpAnyT_take (i := 1) (oi := ⟨some 19, _, _, _, _, _⟩) (v := ?vg1_1) rfl (by kernel_rfl) (by kernel_rfl) (by kernel_rfl) (by kernel_rfl) (fun _ _ _ h => h) (Or.inl ⟨by rfl, ?hg1_1⟩) (by assumption) ?rg1_1
      case hg1_1 => (intro w hSw; (try dsimp only at hSw); first | (go_simp; done) | (go_simp; with_reducible rfl))
      (try simp only [Act.put, List.setIfInBounds_toArray, List.set_cons_zero, List.set_cons_succ])
      refine wpAnyT_take (i := 2) (oi := ⟨some 20, _, _, _, _, _⟩) (v := ?vg1_2) rfl (by kernel_rfl) (by kernel_rfl) (by kernel_rfl) (by kernel_rfl) (fun _ _ _ h => h) (Or.inl ⟨by rfl, ?hg1_2⟩) (by assumption) ?rg1_2
      case hg1_2 => (intro w hSw; (try dsimp only at hSw); first | (go_simp; done) | (go_simp; with_reducible rfl))
      (try simp only [Act.put, List.setIfInBounds_toArray, List.set_cons_zero, List.set_cons_succ])
      refine wpAnyT_take (i := 3) (oi := ⟨some 21, _, _, _, _, _⟩) (v := ?vg1_3) rfl (by kernel_rfl) (by kernel_rfl) (by kernel_rfl) (by kernel_rfl) (fun _ _ _ h => h) (Or.inl ⟨by rfl, ?hg1_3⟩) (by assumption) ?rg1_3
      case hg1_3 => (intro w hSw; (try dsimp only at hSw); first | (go_simp; done) | (go_simp; with_reducible rfl))
      (try simp only [Act.put, List.setIfInBounds_toArray, List.set_cons_zero, List.set_cons_succ])
      refine wpAnyT_take (i := 4) (oi := ⟨some 22, _, _, _, _, _⟩) (v := ?vg1_4) rfl (by kernel_rfl) (by kernel_rfl) (by kernel_rfl) (by kernel_rfl) (fun _ _ _ h => h) (Or.inl ⟨by rfl, ?hg1_4⟩) (by assumption) ?rg1_4
      case hg1_4 => (intro w hSw; (try dsimp only at hSw); first | (go_simp; done) | (go_simp; with_reducible rfl))
      (try simp only [Act.put, List.setIfInBounds_toArray, List.set_cons_zero, List.set_cons_succ])
      refine wpAnyT_take (i := 6) (oi := ⟨some 24, _, _, _, _, _⟩) (v := _) rfl (by kernel_rfl) (by kernel_rfl) (by kernel_rfl) (by kernel_rfl) (fun _ _ _ h => h) (yieldsIf_load_row (by rfl) 40 _ rfl Y rfl cn 40 (0, 0) _ (fun w hw => hw.2.1) Tryd.underlying40 rfl (by rw [HZ2.out]; exact refm_size)) (by assumption) ?_
      (try simp only [Act.put, List.setIfInBounds_toArray, List.set_cons_zero, List.set_cons_succ])
      refine wpAnyT_take (i := 7) (oi := ⟨some 25, _, _, _, _, _⟩) (v := ?vg1_7) rfl (by kernel_rfl) (by kernel_rfl) (by kernel_rfl) (by kernel_rfl) (fun _ _ _ h => h) (Or.inl ⟨by rfl, ?hg1_7⟩) (by assumption) ?rg1_7
      case hg1_7 => (intro w hSw; (try dsimp only at hSw); first | (go_simp; done) | (go_simp; with_reducible rfl))
      (try simp only [Act.put, List.setIfInBounds_toArray, List.set_cons_zero, List.set_cons_succ])
      refine wpAnyT_take (i := 8) (oi := ⟨some 26, _, _, _, _, _⟩) (v := ?vg1_8) rfl (by kernel_rfl) (by kernel_rfl) (by kernel_rfl) (by kernel_rfl) (fun _ _ _ h => h) (Or.inl ⟨by rfl, ?hg1_8⟩) (by assumption) ?rg1_8
      case hg1_8 => (intro w hSw; (try dsimp only at hSw); first | (go_simp; done) | (go_simp; with_reducible rfl))
      (try simp only [Act.put, List.setIfInBounds_toArray, List.set_cons_zero, List.set_cons_succ])
      refine wpAnyT_take (i := 9) (oi := ⟨some 27, _, _, _, _, _⟩) (v := ?vg1_9) rfl (by kernel_rfl) (by kernel_rfl) (by kernel_rfl) (by kernel_rfl) (fun _ _ _ h => h) (Or.inl ⟨by rfl, ?hg1_9⟩) (by assumption) ?rg1_9
      case hg1_9 => (intro w hSw; (try dsimp only at hSw); first | (go_simp; done) | (go_simp; with_reducible rfl))
      (try simp only [Act.put, List.setIfInBounds_toArray, List.set_cons_zero, List.set_cons_succ])
      refine wpAnyT_take (i := 10) (oi := ⟨some 28, _, _, _, _, _⟩) (v := ?vg1_10) rfl (by kernel_rfl) (by kernel_rfl) (by kernel_rfl) (by kernel_rfl) (fun _ _ _ h => h) (Or.inl ⟨by rfl, ?hg1_10⟩) (by assumption) ?rg1_10
      case hg1_10 => (intro w hSw; (try dsimp only at hSw); first | (go_simp; done) | (go_simp; with_reducible rfl))
      (try simp only [Act.put, List.setIfInBounds_toArray, List.set_cons_zero, List.set_cons_succ])
      refine wpAnyT_one (i := 5) (o := ⟨some 23, _, _, _, _, _⟩) (by kernel_rfl) rfl (fun K hK => ?_)
      go_simp
      go_at_call 49
      (with_reducible refine (HST.out _ (by exact HW.out)).mono ?_)
      rintro r wA ⟨c1, rfl, hq, hb⟩
      have HQ1 := Lib.hid hq
      replace HW := Lib.hid (HW.out.trans (hb.mono HW.out.size))
      clear hq hb
      dsimp only
      refine hK.out _ _ (by exact HKS.out _ HW.out) (fun hHeld => ?_)
      clear hK K
      (try simp only [Act.put, List.setIfInBounds_toArray, List.set_cons_zero, List.set_cons_succ])
      refine wpAnyT_one (i := 11) (o := ⟨some 29, _, _, _, _, _⟩) (by kernel_rfl) rfl (fun K hK => ?_)
      go_simp
      go_at_call 50
      (with_reducible refine (HSR.out _ (by exact HW.out)).mono ?_)
      rintro r wB ⟨c2, rfl, hq, hb⟩
      have HQ2 := Lib.hid hq
      replace HQ1 := Lib.hid (HQ1.out.later hb)
      replace HW := Lib.hid (HW.out.trans (hb.mono HW.out.size))
      clear hq hb
      dsimp only
      refine hK.out _ _ (by exact HKS.out _ HW.out) (fun hHeld => ?_)
      clear hK K
      (try simp only [Act.put, List.setIfInBounds_toArray, List.set_cons_zero, List.set_cons_succ])
      refine wpAnyT_last (i := 12) (o := ⟨none, _, _, _, _, _⟩) (by kernel_rfl) (by decide) rfl (fun K hK => ?_)
      have hr1 := (HKS.out _ HW.out).1
      have hr2 := (HKS.out _ HW.out).2.1
      rw [if_pos (by rfl)]
      refine st_agg_wp 36 _ _ rfl X c1 rfl rfl 36 _ hr1 (by rw [HQ1.out.size]; exact map_size) (by rw [HZ1.out, HQ1.out.size]) HQ1.out.one ?_
      intro wS1 hs1 ks1
      replace hr2 := ks1.other hr2 (by have h := HD.out; omega)
      replace HQ2 := Lib.hid (HQ2.out.but ks1 hr1 (by decide) (by decide))
      refine hK.out _ _ ?_
      clear hK K
      (try simp only [Act.put, List.setIfInBounds_toArray, List.set_cons_zero, List.set_cons_succ])
      refine wpAnyT_last (i := 13) (o := ⟨none, _, _, _, _, _⟩) (by kernel_rfl) (by decide) rfl (fun K hK => ?_)
      rw [if_pos (by rfl)]
      refine st_agg_wp 40 _ _ rfl Y c2 rfl rfl 40 _ hr2 (by rw [HQ2.out.size]; exact refm_size) (by rw [HZ2.out, HQ2.out.size]) HQ2.out.one ?_
      intro wS2 hs2 ks2
      refine hK.out _ _ ?_
      clear hK K
      (try simp only [Act.put, List.setIfInBounds_toArray, List.set_cons_zero, List.set_cons_succ])
      refine wpAnyT_done (by kernel_rfl) ?_ _
      replace HR1 := Lib.hid ((HW.out.block _ (Array.getElem?_eq_some_iff.1 HR1.out).1).trans HR1.out)
      replace HR2 := Lib.hid ((HW.out.block _ (Array.getElem?_eq_some_iff.1 HR2.out).1).trans HR2.out)
      replace HB := Lib.hid (HB.out.trans (HW.out.mono HB.out.size))
      replace HR1 := Lib.hid (ks1.other HR1.out (by have h := HD.out; omega))
      replace HR2 := Lib.hid (ks1.other HR2.out (by have h := HD.out; omega))
      replace HB := Lib.hid (HB.out.trans (ks1.below (by have h := HD.out; omega)))
      replace HR1 := Lib.hid (ks2.other HR1.out (by have h := HD.out; omega))
      replace HR2 := Lib.hid (ks2.other HR2.out (by have h := HD.out; omega))
      replace HB := Lib.hid (HB.out.trans (ks2.below (by have h := HD.out; omega)))
      replace HM : Hid (MB wS2 s n (insE D k x) X) := (MB.wrote hs1 ks1 hr1 HQ1.out).only ks2 hr2 (by have h := HD.out; omega) (by decide)
      replace HN : Hid (RB wS2 (insE D k x) Y) := RB.wrote hs2 ks2 hr2 HQ2.out
      clear HKS HST HSR HW HQ1 HQ2 HZ1 HZ2 hs1 hs2 ks1 ks2 hr1 hr2 hHeld
      go_wp2_with fail
      go_roundw
      case rel => exact ⟨j + 1, by simp, by have := HLT.out; omega, by rw [HEA.out]; exact HM, by rw [HEA.out]; exact HN, HR1, HR2, HB⟩
      case measure => have := HLT.out; simp [intOf]; omega
    · obtain rfl : j = N := by omega
      rw [HNL.out.1, List.take_length] at HM HN
      go_upto_region 8 with fail
      obtain ⟨cm, hX1, hm1⟩ := HM.out
      obtain ⟨cn, hX2, hm2⟩ := HN.out
      have HZ1 := Lib.hid hm1.size
      have HZ2 := Lib.hid hm2.size
      have HW : Hid (Below wr.heap.size wr wr.drew) := drawn_below wr
      have HKS : Hid (∀ V, Below wr.heap.size wr V → V.heap[X]? = some (.cells cm 36 (0, 0)) ∧ V.heap[Y]? = some (.cells cn 40 (0, 0))) := fun V hV => ⟨(hV.block _ (Array.getElem?_eq_some_iff.1 hX1).1).trans hX1, (hV.block _ (Array.getElem?_eq_some_iff.1 hX2).1).trans hX2⟩
      have HM1 := Lib.hid (hm1.later HW.out)
      have HM2 := Lib.hid (hm2.later HW.out)
      have HR1D := Lib.hid ((HW.out.block _ (Array.getElem?_eq_some_iff.1 HR1.out).1).trans HR1.out)
      have HR2D := Lib.hid ((HW.out.block _ (Array.getElem?_eq_some_iff.1 HR2.out).1).trans HR2.out)
      have HBD := Lib.hid (HB.out.trans (HW.out.mono HB.out.size))
      clear hX1 hX2 hm1 hm2
      refine wp_region_T (S := (fun V => V.heap[X]? = some (.cells cm 36 (0, 0)) ∧ V.heap[Y]? = some (.cells cn 40 (0, 0)))) [3] (by kernel_rfl) (by exact HKS.out _ HW.out) (fun hHeld => ?_)
      refine wpAnyT_take (i := 0) (oi := ⟨some 31, _, _, _, _, _⟩) (v := _) rfl (by kernel_rfl) (by kernel_rfl) (by kernel_rfl) (by kernel_rfl) (fun _ _ _ h => h) (yieldsIf_load_row (by rfl) 36 _ rfl X rfl cm 36 (0, 0) _ (fun w hw => hw.1) Tryd.underlying36 rfl (by rw [HZ1.out]; exact map_size)) (by assumption) ?_
      (try simp only [Act.put, List.setIfInBounds_toArray, List.set_cons_zero, List.set_cons_succ])
      refine wpAnyT_groupA (n := 1) [1, 2] (fun a0 m b V => ∃ v : Value, b = a0.put (some 32) v ∧ (1 ∈ m → v = .agg cn) ∧ Fin10 w s n (uniE l []) cm cn (2 ∈ m) V) rfl (by kernel_rfl) ⟨_, rfl, (fun h => absurd h (by simp)), ⟨HM1.out, HM2.out, HR2D.out, ⟨fun h => absurd h (by simp), fun _ => HR1D.out⟩, HBD.out⟩⟩ (by assumption) ?stepF ?doneF
      case stepF =>
        clear hHeld
        rintro m i b V hi hni hw ⟨v, rfl, hv, hF⟩ hS
        (try simp only [Act.put, List.setIfInBounds_toArray, List.set_cons_zero, List.set_cons_succ])
        rcases (by simp only [List.mem_cons, List.not_mem_nil, or_false] at hi; omega : i = 1 ∨ i = 2) with rfl | rfl
        · refine group_one (o := ⟨some 32, _, _, _, _, _⟩) rfl (fun K hK => ?_)
          refine ld_row10 40 _ rfl Y rfl 40 cn _ _ hS.2 Tryd.underlying40 rfl (by rw [HZ2.out]; exact refm_size) ?_
          refine hK.out _ _ hS ⟨.agg cn, rfl, fun _ => rfl, ⟨hF.m, hF.r, hF.z, ⟨fun h => hF.o.1 (by simpa using h), fun h => hF.o.2 (fun h2 => h (by simp [h2]))⟩, hF.b⟩⟩
        · refine group_one (o := ⟨none, _, _, _, _, _⟩) rfl (fun K hK => ?_)
          have ho := hF.o.2 hni
          refine st_agg_wp 36 _ _ rfl (w.heap.size + 1) cm rfl rfl 36 _ ho (by rw [HZ1.out]; exact map_size) (by rw [HZ1.out]; rfl) hF.m.one ?_
          intro V1 h1 k1
          have hd := HD.out
          refine hK.out _ _ ⟨k1.other hS.1 (by omega), k1.other hS.2 (by omega)⟩ ⟨v, rfl, fun h => hv (by simpa using h), ⟨hF.m.but k1 ho (by decide), hF.r.but k1 ho (by decide) (by decide), k1.other hF.z (by omega), ⟨fun _ => h1, fun h => absurd (by simp) h⟩, hF.b.trans (k1.below (by omega))⟩⟩
      case doneF =>
        clear hHeld
        rintro m b V hm ⟨v, rfl, hv, hF⟩ -
        obtain rfl := hv (hm 1 rfl)
        have ho := hF.o.1 (hm 2 rfl)
        (try simp only [Act.put, List.setIfInBounds_toArray, List.set_cons_zero, List.set_cons_succ])
        refine wpAnyT_last (i := 3) (o := ⟨none, _, _, _, _, _⟩) (by kernel_rfl) (by decide) rfl (fun K hK => ?_)
        rw [if_pos (by rfl)]
        refine st_agg_wp 40 _ _ rfl (w.heap.size + 1 + 1) cn rfl rfl 40 _ hF.z (by rw [HZ2.out]; exact refm_size) (by rw [HZ2.out]; rfl) hF.r.one ?_
        intro wS2 hs2 ks2
        have hfin : ∃ c cw, Ending.returned (.tuple #[.agg cm, .agg cn]) = .returned (.tuple #[.agg c, .agg cw]) ∧ ML wS2 s n (uniE l []) c ∧ RefM wS2 cw (uniE l []) ∧ Below w.heap.size w wS2 := ⟨cm, cn, rfl, hF.m.but ks2 hF.z (by decide), hF.r.but ks2 hF.z (by decide) (by decide), hF.b.trans (ks2.below (by omega))⟩
        have ho2 := ks2.other ho (by omega)
        refine hK.out _ _ ?_
        clear hK K hF ho
        (try simp only [Act.put, List.setIfInBounds_toArray, List.set_cons_zero, List.set_cons_succ])
        refine wpAnyT_done (by kernel_rfl) ?_ _
        have HFIN := Lib.hid hfin
        clear hfin
        go_wp2_with fail
        exact bodyPost_ret (results_cells2 rfl _ _ (w.heap.size + 1) (w.heap.size + 1 + 1) 36 40 _ _ (0, 0) (0, 0) _ _ rfl ho2 Tryd.underlying36 rfl (by rw [HZ1.out]; exact map_size) rfl hs2 Tryd.underlying40 rfl (by rw [HZ2.out]; exact refm_size)) rfl HFIN.out
end Go.Proofs.YtnnlfgfgfegjkaaDoor
