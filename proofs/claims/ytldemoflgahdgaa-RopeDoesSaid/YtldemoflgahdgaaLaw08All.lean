/- Layer 8's laws: all operations. (written by tools/gen08/all8.py) -/
import Derived.Test.YtldemoflgahdgaaLaw08At
import Derived.Test.YtldemoflgahdgaaRowsOwn
import Derived.Test.YtldemoflgahdgaaRegionG
namespace Go.Proofs.Ytldemoflgahdgaa
open Go.RowKit
set_option maxRecDepth 1000000
set_option linter.unusedSimpArgs false

/-- A rope, a list, and what both are. -/
abbrev Kept8 := Array Value × Value × List Int
def AllR (W : World) (ts : List Kept8) : Prop := ∀ t ∈ ts, RL W t.1 t.2.2 ∧ Lst (fun _ => True) W t.2.1 t.2.2
theorem RL.keptT {w w' : World} {c : Array Value} {l : List Int} {row : Option Nat} {e : TypeId} (h : RL w c l) (hg : w.grownBy w' row) (h1 : e ≠ 3) (h2 : e ≠ 33) (hT : ∀ X, row = some X → ∃ cs fr, w.heap[X]? = some (.cells cs e fr)) : RL w' c l :=
  RootR.keptT h hg (fun X ex => by
    obtain ⟨cs, fr, hX⟩ := hT X ex
    exact ⟨_, hX, fun cs fr => ⟨fun ee => (by simp only [Obj.cells.injEq] at ee; exact h1 ee.2.1), fun ee => (by simp only [Obj.cells.injEq] at ee; exact h2 ee.2.1)⟩⟩)
section
variable {W W' : World} {ts : List Kept8}
theorem AllR.later (h : AllR W ts) (hb : Below W.heap.size W W') : AllR W' ts := fun t ht => ⟨RL.later (h t ht).1 hb, (h t ht).2.later hb⟩
theorem AllR.but {X : Nat} {cs : Array Value} {T : TypeId} {fr : Nat × Nat} (h : AllR W ts) (k : Only X W W') (hX : W.heap[X]? = some (.cells cs T fr)) (h1 : T ≠ 3) (h2 : T ≠ 33) : AllR W' ts :=
  fun t ht => ⟨RL.but (h t ht).1 k hX h1 h2, (h t ht).2.but k hX h1⟩
theorem AllR.keptT {row : Option Nat} {e : TypeId} (h : AllR W ts) (hg : W.grownBy W' row) (h1 : e ≠ 3) (h2 : e ≠ 33) (hT : ∀ X, row = some X → ∃ cs fr, W.heap[X]? = some (.cells cs e fr)) : AllR W' ts :=
  fun t ht => ⟨RL.keptT (h t ht).1 hg h1 h2 hT, (h t ht).2.keptE hg h1 hT⟩
theorem AllR.snoc {c : Array Value} {v : Value} {l : List Int} (h : AllR W ts) (hc : RL W c l) (hl : Lst (fun _ => True) W v l) : AllR W (ts ++ [(c, v, l)]) := fun t ht => by
  rcases List.mem_append.1 ht with ht | ht
  · exact h t ht
  · simp at ht; subst ht; exact ⟨hc, hl⟩
end
/-- All ropes and lists so far: how many, and how long they are, behind n operations. -/
def Short8 (n : Nat) (ts : List Kept8) : Prop := 1 ≤ ts.length ∧ ts.length ≤ n + 1 ∧ ∀ t ∈ ts, t.2.2.length ≤ 3000 + n
theorem Short8.snoc {n : Nat} {ts : List Kept8} {t : Kept8} (h : Short8 n ts) (ht : t.2.2.length ≤ 3000 + (n + 1)) : Short8 (n + 1) (ts ++ [t]) := by
  obtain ⟨h1, h2, h3⟩ := h
  refine ⟨by rw [List.length_append]; omega, by rw [List.length_append, List.length_singleton]; omega, fun x hx => ?_⟩
  rcases List.mem_append.1 hx with hx | hx
  · have := h3 x hx; omega
  · simp at hx; subst hx; exact ht
theorem Short8.more {n : Nat} {ts : List Kept8} (h : Short8 n ts) : Short8 (n + 1) ts := ⟨h.1, by have := h.2.1; omega, fun x hx => by have := h.2.2 x hx; omega⟩
set_option maxHeartbeats 4000000 in
theorem all8 (v : Value) (l : List Op8) (w : World) (hl : Ops8 w v l) (hin : ∀ o ∈ l, InR o.2.1 ∧ InR o.2.2.1) (hf : few8B l = true) : Calls Try.prog 10 #[v] w fun e w' => ∃ vs ls : Value, e = .returned (.tuple #[vs, ls, .bool true]) ∧ ∃ ts : List Kept8,
    RowsOwn (w.heap.size + 2) 35 4 vs (ts.map (·.1)) w' ∧ RowsOwn (w.heap.size + 2) 31 1 ls (ts.map fun t => #[t.2.1]) w' ∧ AllR w' ts ∧ Short8 40 ts ∧ Below w.heap.size w w' := by
  have HIN := Lib.hid hin
  have HF := Lib.hid hf
  obtain ⟨ad, cap, bb, oo, rfl, h1, h2, hmax⟩ := hl
  have HLO := Lib.hid h1
  have HLC := Lib.hid h2
  have hm63 : (l.length : Int) ≤ 40 := by have := (few8_ops hf).2; omega
  have HM := Lib.hid hm63
  clear h1 h2 hmax hin hf
  obtain ⟨W, hW⟩ : ∃ W, (w.alloc (.cells #[.int .i64 0, .int .i64 0, .slice none 0 0, .slice none 0 0] 35)).alloc (.cells #[] 3) = W := ⟨_, rfl⟩
  obtain ⟨hb, hx, hy, hsW⟩ := two_new hW
  have HL0 : Hid (Lst (fun _ => True) W (.slice (some ⟨w.heap.size + 1, 0, none⟩) 0 0) []) := ⟨_, 0, rfl, Nat.le_refl _, .inr ⟨_, #[], (0, 0), rfl, trivial, hy, fun j hj => absurd hj (by simp)⟩⟩
  have HX0 := Lib.hid hx
  have HB0 := Lib.hid hb
  have HSW := Lib.hid hsW
  clear hb hx hy hsW
  go_enter Try.func10, Try.ntmps10
  go_upto_region 3 with fail
  clear hW
  go_upto_region 4 with (first
    | (refine ld_if (by rfl) 35 _ rfl w.heap.size rfl 35 _ _ _ HX0.out Try.underlying35 rfl rope_size ?_)
    | (refine bs_list rfl 25 35 _ rfl #[.int .i64 0, .int .i64 0, .slice none 0 0, .slice none 0 0] 4 (.agg #[.int .i64 0, .int .i64 0, .slice none 0 0, .slice none 0 0]) rfl rfl (by decide) (by decide) Try.underlying25 (by kernel_rfl) ?_; intro w2 h2 hb2 hs2; have HG2 := Lib.hid h2; have HB2 := Lib.hid hb2; have HZ2 := Lib.hid hs2; clear h2 hb2 hs2))
  obtain ⟨w3, hw3⟩ : ∃ w3, w2.alloc (.cells #[.slice (some ⟨w.heap.size + 1, 0, none⟩) 0 0] 31) = w3 := ⟨_, rfl⟩
  have hb3 : Below w2.heap.size w2 w3 := by rw [← hw3]; exact Below.newly' _ _
  have hg3 : w3.heap[w2.heap.size]? = some (.cells #[.slice (some ⟨w.heap.size + 1, 0, none⟩) 0 0] 31 (0, 0)) := by rw [← hw3]; exact heap_alloc_last _ _
  have hb23 : Below W.heap.size W w3 := HB2.out.trans (hb3.mono HB2.out.size)
  have HX3 := Lib.hid ((hb23.block _ (Array.getElem?_eq_some_iff.1 HX0.out).1).trans HX0.out)
  have HL3 := Lib.hid (HL0.out.later hb23)
  have HB3 := Lib.hid (HB0.out.trans (hb23.mono HB0.out.size))
  have HR3 : Hid (RowsOwn (w.heap.size + 2) 35 4 (.slice (some ⟨W.heap.size, 0, none⟩) 1 1) (([(#[.int .i64 0, .int .i64 0, .slice none 0 0, .slice none 0 0], .slice (some ⟨w.heap.size + 1, 0, none⟩) 0 0, [])] : List Kept8).map (·.1)) w3) := rows_lit (by have := HSW.out; omega) ((hb3.block _ (Array.getElem?_eq_some_iff.1 HG2.out).1).trans HG2.out) rfl
  have HS3 : Hid (RowsOwn (w.heap.size + 2) 31 1 (.slice (some ⟨w2.heap.size, 0, none⟩) 1 1) (([(#[.int .i64 0, .int .i64 0, .slice none 0 0, .slice none 0 0], .slice (some ⟨w.heap.size + 1, 0, none⟩) 0 0, [])] : List Kept8).map (fun t => #[t.2.1])) w3) := rows_lit (by have := HSW.out; have := HZ2.out; omega) hg3 rfl
  have HA3 : Hid (AllR w3 [(#[.int .i64 0, .int .i64 0, .slice none 0 0, .slice none 0 0], .slice (some ⟨w.heap.size + 1, 0, none⟩) 0 0, [])]) := fun t ht => by simp at ht; subst ht; exact ⟨RL.zero _, HL3.out⟩
  rw [hw3]
  clear hw3 hb3 hg3 hb23 HX0 HL0 HB0 HG2 HB2 HZ2 HSW
  go_wp2_with fail
  go_loopw [6, 7, 8, 20] (fun lv vs ls iv wl => ∃ (n : Nat) (c : Array Value) (L : List Int) (ts : List Kept8), n ≤ l.length ∧ iv = .int .i64 (n : Int) ∧ Hid (Short8 n ts ∧ L.length ≤ 3000 + n) ∧ wl.heap[w.heap.size]? = some (.cells c 35 (0, 0)) ∧ RL wl c L ∧ Lst (fun _ => True) wl lv L ∧ RowsOwn (w.heap.size + 2) 35 4 vs (ts.map (·.1)) wl ∧ RowsOwn (w.heap.size + 2) 31 1 ls (ts.map (fun t => #[t.2.1])) wl ∧ AllR wl ts ∧ Below w.heap.size w wl) (fun _ _ _ iv _ => l.length - (intOf iv).toNat)
  case atStart => exact ⟨0, _, [], _, Nat.zero_le _, rfl, ⟨⟨by simp, by simp, fun t ht => by simp at ht; subst ht; simp⟩, by simp⟩, HX3.out, RL.zero _, HL3.out, HR3.out, HS3.out, HA3.out, HB3.out⟩
  case round =>
    clear HX3 HL3 HR3 HS3 HA3 HB3
    obtain ⟨n, c, L, ts, hn, rfl, HSH, hx, hc, hll, hr, hs, ha, hb⟩ := hrel
    have HX4 := Lib.hid hx
    have HC := Lib.hid hc
    have HB4 := Lib.hid hb
    have HSZc := Lib.hid (RL.size hc)
    have HR4 := Lib.hid hr
    have HS4 := Lib.hid hs
    have HA4 := Lib.hid ha
    have hts := HSH.out.1.1
    have HNr : Hid (ts.map (·.1) ≠ []) := fun h => by have := congrArg List.length h; rw [List.length_map, List.length_nil] at this; omega
    have HNs : Hid (ts.map (fun t => #[t.2.1]) ≠ []) := fun h => by have := congrArg List.length h; rw [List.length_map, List.length_nil] at this; omega
    obtain ⟨a, cp, rfl, _⟩ := hll.shape
    obtain ⟨gr, cpr, _, _, hvr, _, _, _⟩ := hr.at_ HNr.out
    rw [List.length_map] at hvr
    subst hvr
    obtain ⟨gs, cps, _, _, hvs, _, _, _⟩ := hs.at_ HNs.out
    rw [List.length_map] at hvs
    subst hvs
    have HLST := Lib.hid hll
    have hts41 : ts.length ≤ 41 := by have := HSH.out.1.2.1; omega
    obtain ⟨m, hm⟩ : ∃ m, m = ts.length := ⟨_, rfl⟩
    have HMM := Lib.hid hm
    rw [← hm] at HR4 HS4 ⊢
    have HT41 : Hid (ts.length ≤ 41) := hts41
    have hm0 : 0 < m := by omega
    have hm41 : (m : Int) ≤ 41 := by omega
    clear hx hc hb hll hr hs ha hts hm hts41
    by_cases hlt : n < l.length
    · as_aux_lemma =>
      have hlt' : (n : Int) < (l.length : Int) := by omega
      have i0 : (0 : Int) ≤ (n : Int) := by omega
      have had : ad = some ⟨bb, oo, none⟩ := HLO.out (by omega)
      subst had
      have HR := Lib.hid ((HLC.out n hlt).later HB4.out)
      have h15 := (few8_ops HF.out).1 _ (List.getElem_mem hlt)
      have hin := HIN.out _ (List.getElem_mem hlt)
      obtain ⟨x, hx⟩ : ∃ x, x = l[n] := ⟨_, rfl⟩
      rw [← hx] at HR h15 hin
      obtain ⟨D, I, J, X, K, N⟩ := x
      have hb := Below.newly' wr (.cells (op8C (D, I, J, X, K, N)) 57)
      have HX5 := Lib.hid ((hb.block _ (Array.getElem?_eq_some_iff.1 HX4.out).1).trans HX4.out)
      have HR5 := Lib.hid (HR4.out.later hb)
      have HS5 := Lib.hid (HS4.out.later hb)
      have HA5 := Lib.hid (HA4.out.later hb)
      have HB5 := Lib.hid (HB4.out.trans (hb.mono HB4.out.size))
      have HV5 := Lib.hid (RL.later HC.out hb)
      have HL5 := Lib.hid (HLST.out.later hb)
      have HP5 := Lib.hid (heap_alloc_last wr (.cells (op8C (D, I, J, X, K, N)) 57))
      obtain ⟨kN, hkN⟩ : ∃ kN : Nat, (max K 0).tmod (m : Int) = (kN : Int) := ⟨((max K 0).tmod (m : Int)).toNat, by have := Int.tmod_nonneg (m : Int) (show 0 ≤ max K 0 by omega); omega⟩
      have hkm : kN < m := by have := Int.tmod_lt_of_pos (max K 0) (show (0 : Int) < (m : Int) by omega); omega
      have H15 := Lib.hid h15
      have HINR := Lib.hid hin
      clear hx hb h15 hin
      by_cases h45 : D = 4 ∨ D = 5
      · have hti : ts[kN]? = some (ts[kN]'(by rw [← HMM.out]; exact hkm)) := List.getElem?_eq_getElem _
        have HAI := Lib.hid (HA5.out (ts[kN]'(by rw [← HMM.out]; exact hkm)) (List.getElem_mem _))
        have HLI := Lib.hid (HSH.out.1.2.2 (ts[kN]'(by rw [← HMM.out]; exact hkm)) (List.getElem_mem _))
        have HRI := Lib.hid (HR5.out.read (i := kN) (c := (ts[kN]'(by rw [← HMM.out]; exact hkm)).1) rfl (by rw [List.getElem?_map, hti]; rfl))
        have HSI := Lib.hid (HS5.out.read (i := kN) (c := #[(ts[kN]'(by rw [← HMM.out]; exact hkm)).2.1]) rfl (by rw [List.getElem?_map, hti]; rfl))
        obtain ⟨⟨ci, vi, li⟩, hx⟩ : ∃ x, x = (ts[kN]'(by rw [← HMM.out]; exact hkm)) := ⟨_, rfl⟩
        rw [← hx] at HAI HRI HSI HLI
        simp only at HAI HRI HSI HLI
        have HSZi := Lib.hid (RL.size HAI.out.1)
        obtain ⟨ai, cpi, rfl, _⟩ := HAI.out.2.shape
        have hcell : (wr.alloc (.cells (op8C (D, I, J, X, K, N)) 57)).cell? ⟨gs, kN, none⟩ = some (.slice ai li.length cpi) := by
          have h := HSI.out 0 (.slice ai li.length cpi) rfl
          simpa using h
        have HCI := Lib.hid hcell
        have hLn : (L.length : Int) ≤ 3040 := by have := HSH.out.2; have := HM.out; omega
        have hln : (li.length : Int) ≤ 3040 := by have := HLI.out; have := HM.out; omega
        have hkm' : (kN : Int) < (m : Int) := by omega
        have hk0 : (0 : Int) ≤ (kN : Int) := by omega
        clear hti hx
        by_cases h3 : 3000 < (L.length : Int) + (li.length : Int)
        · rcases h45 with rfl | rfl
          all_goals as_aux_lemma =>
            go_wp2_with (first
              | (refine ld_op8 rfl _ rfl bb (oo + n * 6) rfl (_, I, J, X, K, N) HR.out ?_))
            go_roundw
            case rel =>
              refine ⟨n + 1, c, L, ts, by have := hlt'; omega, by go_num, ⟨HSH.out.1.more, by have := HSH.out.2; omega⟩, HX5.out, HV5.out, HL5.out, HR5.out, HS5.out, HA5.out, HB5.out⟩
            case measure => simp [intOf]; omega
        have HLEN8 : Hid (L.length + li.length ≤ 3000) := by show _ ≤ _; omega
        have h3' : ¬ 3000 < (L.length : Int) + (li.length : Int) := h3
        rcases h45 with rfl | rfl
        · have hb5 : ((4 : Int) == 4) = true := by decide
          go_upto_region 16 with (first
            | (refine ld_op8 rfl _ rfl bb (oo + n * 6) rfl (4, I, J, X, K, N) HR.out ?_))
          have hb := drawn_below (wr.alloc (.cells (op8C (4, I, J, X, K, N)) 57))
          have HX6 := Lib.hid ((hb.block _ (Array.getElem?_eq_some_iff.1 HX5.out).1).trans HX5.out)
          have HR6 := Lib.hid (HR5.out.later hb)
          have HS6 := Lib.hid (HS5.out.later hb)
          have HA6 := Lib.hid (HA5.out.later hb)
          have HB6 := Lib.hid (HB5.out.trans (hb.mono HB5.out.size))
          have HV6 := Lib.hid (RL.later HV5.out hb)
          have HL6 := Lib.hid (HL5.out.later hb)
          have HI6 := Lib.hid (And.intro (RL.later HAI.out.1 hb) (HAI.out.2.later hb))
          have HKR6 := Lib.hid (And.intro (rangeAt_later HRI.out hb) (And.intro ((hb.cell (p := ⟨gs, kN, none⟩) (World.block_lt_of_cell? _ _ HCI.out)).trans HCI.out) HX6.out))
          clear hb hcell
          refine wp_region_T (S := fun V => V.rangeAt gr (kN * 4) ci.toList ∧ V.cell? ⟨gs, kN, none⟩ = some (.slice ai li.length cpi) ∧ V.heap[w.heap.size]? = some (.cells c 35 (0, 0))) [12, 13] (by kernel_rfl) (by first | exact HKR9.out | exact HKR7.out | exact HKR6.out) (fun hHeld => ?_)
          refine wpAnyT_take (i := 0) (oi := ⟨some 75, _, _, _, _, _⟩) (v := ?vg1_0) rfl (by kernel_rfl) (by kernel_rfl) (by kernel_rfl) (by kernel_rfl) (fun _ _ _ h => h) (Or.inl ⟨by rfl, ?hg1_0⟩) (by assumption) ?rg1_0
          case hg1_0 => (intro w hSw; (try dsimp only at hSw); first | (go_simp; done) | (go_simp; with_reducible rfl))
          (try simp only [Act.put, List.setIfInBounds_toArray, List.set_cons_zero, List.set_cons_succ])
          refine wpAnyT_take (i := 1) (oi := ⟨some 76, _, _, _, _, _⟩) (v := ?vg1_1) rfl (by kernel_rfl) (by kernel_rfl) (by kernel_rfl) (by kernel_rfl) (fun _ _ _ h => h) (Or.inl ⟨by rfl, ?hg1_1⟩) (by assumption) ?rg1_1
          case hg1_1 => (intro w hSw; (try dsimp only at hSw); first | (go_simp; done) | (go_simp; with_reducible rfl))
          (try simp only [Act.put, List.setIfInBounds_toArray, List.set_cons_zero, List.set_cons_succ])
          refine wpAnyT_take (i := 2) (oi := ⟨some 77, _, _, _, _, _⟩) (v := ?vg1_2) rfl (by kernel_rfl) (by kernel_rfl) (by kernel_rfl) (by kernel_rfl) (fun _ _ _ h => h) (Or.inl ⟨by rfl, ?hg1_2⟩) (by assumption) ?rg1_2
          case hg1_2 => (intro w hSw; (try dsimp only at hSw); first | (go_simp; done) | (go_simp; with_reducible rfl))
          (try simp only [Act.put, List.setIfInBounds_toArray, List.set_cons_zero, List.set_cons_succ])
          refine wpAnyT_take (i := 3) (oi := ⟨some 78, _, _, _, _, _⟩) (v := _) rfl (by kernel_rfl) (by kernel_rfl) (by kernel_rfl) (by kernel_rfl) (fun _ _ _ h => h) (yieldsIf_arr (by rfl) 35 _ rfl gr (kN * 4) rfl ci _ (fun w hw => hw.1) Try.underlying35 rfl (by rw [HSZi.out]; exact rope_size)) (by assumption) ?_
          (try simp only [Act.put, List.setIfInBounds_toArray, List.set_cons_zero, List.set_cons_succ])
          refine wpAnyT_take (i := 4) (oi := ⟨some 79, _, _, _, _, _⟩) (v := _) rfl (by kernel_rfl) (by kernel_rfl) (by kernel_rfl) (by kernel_rfl) (fun _ _ _ h => h) (yieldsIf_load_row (by rfl) 35 _ rfl w.heap.size rfl c 35 (0, 0) _ (fun w hw => hw.2.2) Try.underlying35 rfl (by rw [HSZc.out]; exact rope_size)) (by assumption) ?_
          (try simp only [Act.put, List.setIfInBounds_toArray, List.set_cons_zero, List.set_cons_succ])
          refine wpAnyT_take (i := 6) (oi := ⟨some 81, _, _, _, _, _⟩) (v := ?vg1_6) rfl (by kernel_rfl) (by kernel_rfl) (by kernel_rfl) (by kernel_rfl) (fun _ _ _ h => h) (Or.inl ⟨by rfl, ?hg1_6⟩) (by assumption) ?rg1_6
          case hg1_6 => (intro w hSw; (try dsimp only at hSw); first | (go_simp; done) | (go_simp; with_reducible rfl))
          (try simp only [Act.put, List.setIfInBounds_toArray, List.set_cons_zero, List.set_cons_succ])
          refine wpAnyT_take (i := 7) (oi := ⟨some 82, _, _, _, _, _⟩) (v := ?vg1_7) rfl (by kernel_rfl) (by kernel_rfl) (by kernel_rfl) (by kernel_rfl) (fun _ _ _ h => h) (Or.inl ⟨by rfl, ?hg1_7⟩) (by assumption) ?rg1_7
          case hg1_7 => (intro w hSw; (try dsimp only at hSw); first | (go_simp; done) | (go_simp; with_reducible rfl))
          (try simp only [Act.put, List.setIfInBounds_toArray, List.set_cons_zero, List.set_cons_succ])
          refine wpAnyT_take (i := 8) (oi := ⟨some 83, _, _, _, _, _⟩) (v := ?vg1_8) rfl (by kernel_rfl) (by kernel_rfl) (by kernel_rfl) (by kernel_rfl) (fun _ _ _ h => h) (Or.inl ⟨by rfl, ?hg1_8⟩) (by assumption) ?rg1_8
          case hg1_8 => (intro w hSw; (try dsimp only at hSw); first | (go_simp; done) | (go_simp; with_reducible rfl))
          (try simp only [Act.put, List.setIfInBounds_toArray, List.set_cons_zero, List.set_cons_succ])
          refine wpAnyT_take (i := 9) (oi := ⟨some 84, _, _, _, _, _⟩) (v := ?vg1_9) rfl (by kernel_rfl) (by kernel_rfl) (by kernel_rfl) (by kernel_rfl) (fun _ _ _ h => h) (Or.inl ⟨by rfl, ?hg1_9⟩) (by assumption) ?rg1_9
          case hg1_9 => (intro w hSw; (try dsimp only at hSw); first | (go_simp; done) | (go_simp; with_reducible rfl))
          (try simp only [Act.put, List.setIfInBounds_toArray, List.set_cons_zero, List.set_cons_succ])
          refine wpAnyT_take (i := 10) (oi := ⟨some 85, _, _, _, _, _⟩) (v := ?vg1_10) rfl (by kernel_rfl) (by kernel_rfl) (by kernel_rfl) (by kernel_rfl) (fun _ _ _ h => h) (Or.inl ⟨by rfl, ?hg1_10⟩) (by assumption) ?rg1_10
          case hg1_10 => (intro w hSw; (try dsimp only at hSw); first | (go_simp; done) | (go_simp; with_reducible rfl))
          (try simp only [Act.put, List.setIfInBounds_toArray, List.set_cons_zero, List.set_cons_succ])
          refine wpAnyT_one (i := 5) (o := ⟨some 80, _, _, _, _, _⟩) (by kernel_rfl) rfl (fun K hK => ?_)
          go_simp
          go_at_call 23
          refine (rp_Concat _ HI6.out.1 HV6.out (by have := HLEN8.out; omega)).mono ?_
          rintro e w7 ⟨c7, rfl, hr7, hb⟩
          have HX7 := Lib.hid ((hb.block _ (Array.getElem?_eq_some_iff.1 HX6.out).1).trans HX6.out); have HR7 := Lib.hid (HR6.out.later hb); have HS7 := Lib.hid (HS6.out.later hb); have HA7 := Lib.hid (HA6.out.later hb); have HB7 := Lib.hid (HB6.out.trans (hb.mono HB6.out.size)); have HV7 := Lib.hid hr7.rl; have HL7 := Lib.hid (HL6.out.later hb); have HI7 := Lib.hid (HI6.out.2.later hb)
          have HSZ7 := Lib.hid (RL.size HV7.out)
          have HONE7 := Lib.hid (RL.one HV7.out)
          have HKR7 : Hid (w7.rangeAt gr (kN * 4) ci.toList ∧ w7.cell? ⟨gs, kN, none⟩ = some (.slice ai li.length cpi) ∧ w7.heap[w.heap.size]? = some (.cells c 35 (0, 0))) := ⟨rangeAt_later HKR6.out.1 hb, (hb.cell (p := ⟨gs, kN, none⟩) (World.block_lt_of_cell? _ _ HKR6.out.2.1)).trans HKR6.out.2.1, HX7.out⟩
          clear hr7 hb
          (try dsimp only)
          refine hK.out _ _ (by first | exact HKR9.out | exact HKR7.out | exact HKR6.out) (fun hHeld => ?_)
          clear hK K
          (try simp only [Act.put, List.setIfInBounds_toArray, List.set_cons_zero, List.set_cons_succ])
          refine wpAnyT_one (i := 11) (o := ⟨some 86, _, _, _, _, _⟩) (by kernel_rfl) rfl (fun K hK => ?_)
          go_simp
          go_at_call 27
          refine (ref_Join _ _ _ _ _ HI7.out.cutI HL7.out.cutI (by have := HLEN8.out; omega) (by have := HLEN8.out; omega)).mono ?_
          rintro e w9 ⟨v7, rfl, hi9, hb⟩
          have HX9 := Lib.hid ((hb.block _ (Array.getElem?_eq_some_iff.1 HX7.out).1).trans HX7.out); have HR9 := Lib.hid (HR7.out.later hb); have HS9 := Lib.hid (HS7.out.later hb); have HA9 := Lib.hid (HA7.out.later hb); have HB9 := Lib.hid (HB7.out.trans (hb.mono HB7.out.size)); have HV9 := Lib.hid (RL.later HV7.out hb); have HL9 := Lib.hid hi9.any
          have HKR9 : Hid (w9.rangeAt gr (kN * 4) ci.toList ∧ w9.cell? ⟨gs, kN, none⟩ = some (.slice ai li.length cpi) ∧ w9.heap[w.heap.size]? = some (.cells c 35 (0, 0))) := ⟨rangeAt_later HKR7.out.1 hb, (hb.cell (p := ⟨gs, kN, none⟩) (World.block_lt_of_cell? _ _ HKR7.out.2.1)).trans HKR7.out.2.1, HX9.out⟩
          clear hi9 hb
          (try dsimp only)
          refine hK.out _ _ (by first | exact HKR9.out | exact HKR7.out | exact HKR6.out) (fun hHeld => ?_)
          clear hK K
          (try simp only [Act.put, List.setIfInBounds_toArray, List.set_cons_zero, List.set_cons_succ])
          refine wpAnyT_last (i := 12) (o := ⟨none, _, _, _, _, _⟩) (by kernel_rfl) (by decide) rfl (fun K hK => ?_)
          refine st_agg_wp 35 _ _ rfl w.heap.size c7 rfl rfl 35 c HX9.out (by rw [HSZ7.out]; exact rope_size) (by rw [HSZ7.out, HSZc.out]) HONE7.out ?_
          intro w8 h8 k8
          have HX8 := Lib.hid h8; have HR8 := Lib.hid (HR9.out.but HNr.out k8 (by omega)); have HS8 := Lib.hid (HS9.out.but HNs.out k8 (by omega)); have HA8 := Lib.hid (HA9.out.but k8 HX9.out (by decide) (by decide)); have HV8 := Lib.hid (RL.but HV9.out k8 HX9.out (by decide) (by decide)); have HL8 := Lib.hid (HL9.out.but k8 HX9.out (by decide)); have HB8 := Lib.hid (HB9.out.trans (k8.below (Nat.le_refl _)))
          have HONEL := Lib.hid (Lst.one HL8.out)
          clear h8 k8
          refine hK.out _ _ ?_
          clear hK K
          (try simp only [Act.put, List.setIfInBounds_toArray, List.set_cons_zero, List.set_cons_succ])
          refine wpAnyT_last (i := 13) (o := ⟨some 6, _, _, _, _, _⟩) (by kernel_rfl) (by decide) rfl (fun K hK => ?_)
          go_simp
          refine hK.out _ _ ?_
          clear hK K
          (try simp only [Act.put, List.setIfInBounds_toArray, List.set_cons_zero, List.set_cons_succ])
          refine wpAnyT_done (by kernel_rfl) ?_ _
          obtain ⟨L2, hL2⟩ : ∃ L2, L2 = li ++ L := ⟨_, rfl⟩
          rw [← hL2] at HV8 HL8
          replace HLEN8 : Hid (L2.length ≤ 3000) := by show _ ≤ _; rw [hL2, List.length_append]; have := HLEN8.out; omega
          clear hL2
          obtain ⟨a7, cp7, rfl, _⟩ := HL8.out.shape
          go_wp2_with (first
            | (refine ld_if rfl 35 _ rfl w.heap.size rfl 35 _ _ _ HX8.out Try.underlying35 rfl (by rw [HSZ7.out]; exact rope_size) ?_)
            | (refine bs_list rfl 25 35 _ rfl c7 4 (.agg #[.int .i64 0, .int .i64 0, .slice none 0 0, .slice none 0 0]) rfl HSZ7.out (by decide) (by decide) Try.underlying25 (by kernel_rfl) ?_; intro w11 h11 hb hs11; have HX11 := Lib.hid ((hb.block _ (Array.getElem?_eq_some_iff.1 HX8.out).1).trans HX8.out); have HR11 := Lib.hid (HR8.out.later hb); have HS11 := Lib.hid (HS8.out.later hb); have HA11 := Lib.hid (HA8.out.later hb); have HB11 := Lib.hid (HB8.out.trans (hb.mono HB8.out.size)); have HV11 := Lib.hid (RL.later HV8.out hb); have HL11 := Lib.hid (HL8.out.later hb); have HG11 := Lib.hid h11; clear h11 hb hs11)
            | (refine rows_list rfl (z := .agg #[.int .i64 0, .int .i64 0, .slice none 0 0, .slice none 0 0]) (by_ := 64) 25 35 _ _ rfl rfl HR11.out w8.heap.size rfl HG11.out HSZ7.out HONE7.out Try.underlying25 (by kernel_rfl) rfl (by decide) (by have := HT41.out; rw [List.length_map]; omega) (by decide) ?_; intro vr w12 hrow hgr; have HR12 := Lib.hid hrow; have HX12 := Lib.hid (HR11.out.keeps hgr (by omega) HX11.out); have HS12 := Lib.hid (HS11.out.apart HNs.out HR11.out HNr.out (by decide) hgr); have HA12 := Lib.hid (HA11.out.keptT hgr (by decide) (by decide) HR11.out.typed'); have HV12 := Lib.hid (RL.keptT HV11.out hgr (by decide) (by decide) HR11.out.typed'); have HL12 := Lib.hid (HL11.out.keptE hgr (by decide) HR11.out.typed'); have HB12 := Lib.hid (HB11.out.trans (HR11.out.below hgr (by omega) HB11.out.size)); have HNr12 : Hid (ts.map (·.1) ++ [c7] ≠ []) := List.append_ne_nil_of_right_ne_nil _ (by simp); have hb := Below.newly' w12 (.cells #[.slice a7 L2.length cp7] 31); have HX13 := Lib.hid ((hb.block _ (Array.getElem?_eq_some_iff.1 HX12.out).1).trans HX12.out); have HR13 := Lib.hid (HR12.out.later hb); have HS13 := Lib.hid (HS12.out.later hb); have HA13 := Lib.hid (HA12.out.later hb); have HB13 := Lib.hid (HB12.out.trans (hb.mono HB12.out.size)); have HV13 := Lib.hid (RL.later HV12.out hb); have HL13 := Lib.hid (HL12.out.later hb); clear hrow hgr hb)
            | (refine rows_list rfl (z := .slice none 0 0) (by_ := 24) 26 31 _ _ rfl rfl HS13.out w12.heap.size rfl (heap_alloc_last w12 _) rfl HONEL.out Try.underlying26 (by kernel_rfl) rfl (by decide) (by have := HT41.out; rw [List.length_map]; omega) (by decide) ?_; intro vl w14 hrow hgr; have HS14 := Lib.hid hrow; have HX14 := Lib.hid (HS13.out.keeps hgr (by omega) HX13.out); have HR14 := Lib.hid (HR13.out.apart HNr12.out HS13.out HNs.out (by decide) hgr); have HA14 := Lib.hid (HA13.out.keptT hgr (by decide) (by decide) HS13.out.typed'); have HV14 := Lib.hid (RL.keptT HV13.out hgr (by decide) (by decide) HS13.out.typed'); have HL14 := Lib.hid (HL13.out.keptE hgr (by decide) HS13.out.typed'); have HB14 := Lib.hid (HB13.out.trans (HS13.out.below hgr (by omega) HB13.out.size)); clear hrow hgr))
          go_roundw
          case rel =>
            have hlen : L2.length ≤ 3000 + (n + 1) := by have := HLEN8.out; omega
            refine ⟨n + 1, c7, L2, ts ++ [(c7, .slice a7 L2.length cp7, L2)], by have := hlt'; omega, by go_num, ⟨HSH.out.1.snoc hlen, hlen⟩, HX14.out, HV14.out, HL14.out, ?_, ?_, HA14.out.snoc HV14.out HL14.out, HB14.out⟩
            · rw [List.map_append]; exact HR14.out
            · rw [List.map_append]; exact HS14.out
          case measure => simp [intOf]; omega
        · have hb5 : ((5 : Int) == 4) = false := by decide
          go_upto_region 8 with (first
            | (refine ld_op8 rfl _ rfl bb (oo + n * 6) rfl (5, I, J, X, K, N) HR.out ?_))
          have hb := drawn_below (wr.alloc (.cells (op8C (5, I, J, X, K, N)) 57))
          have HX6 := Lib.hid ((hb.block _ (Array.getElem?_eq_some_iff.1 HX5.out).1).trans HX5.out)
          have HR6 := Lib.hid (HR5.out.later hb)
          have HS6 := Lib.hid (HS5.out.later hb)
          have HA6 := Lib.hid (HA5.out.later hb)
          have HB6 := Lib.hid (HB5.out.trans (hb.mono HB5.out.size))
          have HV6 := Lib.hid (RL.later HV5.out hb)
          have HL6 := Lib.hid (HL5.out.later hb)
          have HI6 := Lib.hid (And.intro (RL.later HAI.out.1 hb) (HAI.out.2.later hb))
          have HKR6 := Lib.hid (And.intro (rangeAt_later HRI.out hb) (And.intro ((hb.cell (p := ⟨gs, kN, none⟩) (World.block_lt_of_cell? _ _ HCI.out)).trans HCI.out) HX6.out))
          clear hb hcell
          refine wp_region_T (S := fun V => V.rangeAt gr (kN * 4) ci.toList ∧ V.cell? ⟨gs, kN, none⟩ = some (.slice ai li.length cpi) ∧ V.heap[w.heap.size]? = some (.cells c 35 (0, 0))) [12, 13] (by kernel_rfl) (by first | exact HKR9.out | exact HKR7.out | exact HKR6.out) (fun hHeld => ?_)
          refine wpAnyT_take (i := 0) (oi := ⟨some 30, _, _, _, _, _⟩) (v := _) rfl (by kernel_rfl) (by kernel_rfl) (by kernel_rfl) (by kernel_rfl) (fun _ _ _ h => h) (yieldsIf_load_row (by rfl) 35 _ rfl w.heap.size rfl c 35 (0, 0) _ (fun w hw => hw.2.2) Try.underlying35 rfl (by rw [HSZc.out]; exact rope_size)) (by assumption) ?_
          (try simp only [Act.put, List.setIfInBounds_toArray, List.set_cons_zero, List.set_cons_succ])
          refine wpAnyT_take (i := 1) (oi := ⟨some 31, _, _, _, _, _⟩) (v := ?vg2_1) rfl (by kernel_rfl) (by kernel_rfl) (by kernel_rfl) (by kernel_rfl) (fun _ _ _ h => h) (Or.inl ⟨by rfl, ?hg2_1⟩) (by assumption) ?rg2_1
          case hg2_1 => (intro w hSw; (try dsimp only at hSw); first | (go_simp; done) | (go_simp; with_reducible rfl))
          (try simp only [Act.put, List.setIfInBounds_toArray, List.set_cons_zero, List.set_cons_succ])
          refine wpAnyT_take (i := 2) (oi := ⟨some 32, _, _, _, _, _⟩) (v := ?vg2_2) rfl (by kernel_rfl) (by kernel_rfl) (by kernel_rfl) (by kernel_rfl) (fun _ _ _ h => h) (Or.inl ⟨by rfl, ?hg2_2⟩) (by assumption) ?rg2_2
          case hg2_2 => (intro w hSw; (try dsimp only at hSw); first | (go_simp; done) | (go_simp; with_reducible rfl))
          (try simp only [Act.put, List.setIfInBounds_toArray, List.set_cons_zero, List.set_cons_succ])
          refine wpAnyT_take (i := 3) (oi := ⟨some 33, _, _, _, _, _⟩) (v := ?vg2_3) rfl (by kernel_rfl) (by kernel_rfl) (by kernel_rfl) (by kernel_rfl) (fun _ _ _ h => h) (Or.inl ⟨by rfl, ?hg2_3⟩) (by assumption) ?rg2_3
          case hg2_3 => (intro w hSw; (try dsimp only at hSw); first | (go_simp; done) | (go_simp; with_reducible rfl))
          (try simp only [Act.put, List.setIfInBounds_toArray, List.set_cons_zero, List.set_cons_succ])
          refine wpAnyT_take (i := 4) (oi := ⟨some 34, _, _, _, _, _⟩) (v := _) rfl (by kernel_rfl) (by kernel_rfl) (by kernel_rfl) (by kernel_rfl) (fun _ _ _ h => h) (yieldsIf_arr (by rfl) 35 _ rfl gr (kN * 4) rfl ci _ (fun w hw => hw.1) Try.underlying35 rfl (by rw [HSZi.out]; exact rope_size)) (by assumption) ?_
          (try simp only [Act.put, List.setIfInBounds_toArray, List.set_cons_zero, List.set_cons_succ])
          refine wpAnyT_take (i := 6) (oi := ⟨some 36, _, _, _, _, _⟩) (v := ?vg2_6) rfl (by kernel_rfl) (by kernel_rfl) (by kernel_rfl) (by kernel_rfl) (fun _ _ _ h => h) (Or.inl ⟨by rfl, ?hg2_6⟩) (by assumption) ?rg2_6
          case hg2_6 => (intro w hSw; (try dsimp only at hSw); first | (go_simp; done) | (go_simp; with_reducible rfl))
          (try simp only [Act.put, List.setIfInBounds_toArray, List.set_cons_zero, List.set_cons_succ])
          refine wpAnyT_take (i := 7) (oi := ⟨some 37, _, _, _, _, _⟩) (v := ?vg2_7) rfl (by kernel_rfl) (by kernel_rfl) (by kernel_rfl) (by kernel_rfl) (fun _ _ _ h => h) (Or.inl ⟨by rfl, ?hg2_7⟩) (by assumption) ?rg2_7
          case hg2_7 => (intro w hSw; (try dsimp only at hSw); first | (go_simp; done) | (go_simp; with_reducible rfl))
          (try simp only [Act.put, List.setIfInBounds_toArray, List.set_cons_zero, List.set_cons_succ])
          refine wpAnyT_take (i := 8) (oi := ⟨some 38, _, _, _, _, _⟩) (v := ?vg2_8) rfl (by kernel_rfl) (by kernel_rfl) (by kernel_rfl) (by kernel_rfl) (fun _ _ _ h => h) (Or.inl ⟨by rfl, ?hg2_8⟩) (by assumption) ?rg2_8
          case hg2_8 => (intro w hSw; (try dsimp only at hSw); first | (go_simp; done) | (go_simp; with_reducible rfl))
          (try simp only [Act.put, List.setIfInBounds_toArray, List.set_cons_zero, List.set_cons_succ])
          refine wpAnyT_take (i := 9) (oi := ⟨some 39, _, _, _, _, _⟩) (v := ?vg2_9) rfl (by kernel_rfl) (by kernel_rfl) (by kernel_rfl) (by kernel_rfl) (fun _ _ _ h => h) (Or.inl ⟨by rfl, ?hg2_9⟩) (by assumption) ?rg2_9
          case hg2_9 => (intro w hSw; (try dsimp only at hSw); first | (go_simp; done) | (go_simp; with_reducible rfl))
          (try simp only [Act.put, List.setIfInBounds_toArray, List.set_cons_zero, List.set_cons_succ])
          refine wpAnyT_take (i := 10) (oi := ⟨some 40, _, _, _, _, _⟩) (v := ?vg2_10) rfl (by kernel_rfl) (by kernel_rfl) (by kernel_rfl) (by kernel_rfl) (fun _ _ _ h => h) (Or.inl ⟨by rfl, ?hg2_10⟩) (by assumption) ?rg2_10
          case hg2_10 => (intro w hSw; (try dsimp only at hSw); first | (go_simp; done) | (go_simp; with_reducible rfl))
          (try simp only [Act.put, List.setIfInBounds_toArray, List.set_cons_zero, List.set_cons_succ])
          refine wpAnyT_one (i := 5) (o := ⟨some 35, _, _, _, _, _⟩) (by kernel_rfl) rfl (fun K hK => ?_)
          go_simp
          go_at_call 23
          refine (rp_Concat _ HV6.out HI6.out.1 (by have := HLEN8.out; omega)).mono ?_
          rintro e w7 ⟨c7, rfl, hr7, hb⟩
          have HX7 := Lib.hid ((hb.block _ (Array.getElem?_eq_some_iff.1 HX6.out).1).trans HX6.out); have HR7 := Lib.hid (HR6.out.later hb); have HS7 := Lib.hid (HS6.out.later hb); have HA7 := Lib.hid (HA6.out.later hb); have HB7 := Lib.hid (HB6.out.trans (hb.mono HB6.out.size)); have HV7 := Lib.hid hr7.rl; have HL7 := Lib.hid (HL6.out.later hb); have HI7 := Lib.hid (HI6.out.2.later hb)
          have HSZ7 := Lib.hid (RL.size HV7.out)
          have HONE7 := Lib.hid (RL.one HV7.out)
          have HKR7 : Hid (w7.rangeAt gr (kN * 4) ci.toList ∧ w7.cell? ⟨gs, kN, none⟩ = some (.slice ai li.length cpi) ∧ w7.heap[w.heap.size]? = some (.cells c 35 (0, 0))) := ⟨rangeAt_later HKR6.out.1 hb, (hb.cell (p := ⟨gs, kN, none⟩) (World.block_lt_of_cell? _ _ HKR6.out.2.1)).trans HKR6.out.2.1, HX7.out⟩
          clear hr7 hb
          (try dsimp only)
          refine hK.out _ _ (by first | exact HKR9.out | exact HKR7.out | exact HKR6.out) (fun hHeld => ?_)
          clear hK K
          (try simp only [Act.put, List.setIfInBounds_toArray, List.set_cons_zero, List.set_cons_succ])
          refine wpAnyT_one (i := 11) (o := ⟨some 41, _, _, _, _, _⟩) (by kernel_rfl) rfl (fun K hK => ?_)
          go_simp
          go_at_call 27
          refine (ref_Join _ _ _ _ _ HL7.out.cutI HI7.out.cutI (by have := HLEN8.out; omega) (by have := HLEN8.out; omega)).mono ?_
          rintro e w9 ⟨v7, rfl, hi9, hb⟩
          have HX9 := Lib.hid ((hb.block _ (Array.getElem?_eq_some_iff.1 HX7.out).1).trans HX7.out); have HR9 := Lib.hid (HR7.out.later hb); have HS9 := Lib.hid (HS7.out.later hb); have HA9 := Lib.hid (HA7.out.later hb); have HB9 := Lib.hid (HB7.out.trans (hb.mono HB7.out.size)); have HV9 := Lib.hid (RL.later HV7.out hb); have HL9 := Lib.hid hi9.any
          have HKR9 : Hid (w9.rangeAt gr (kN * 4) ci.toList ∧ w9.cell? ⟨gs, kN, none⟩ = some (.slice ai li.length cpi) ∧ w9.heap[w.heap.size]? = some (.cells c 35 (0, 0))) := ⟨rangeAt_later HKR7.out.1 hb, (hb.cell (p := ⟨gs, kN, none⟩) (World.block_lt_of_cell? _ _ HKR7.out.2.1)).trans HKR7.out.2.1, HX9.out⟩
          clear hi9 hb
          (try dsimp only)
          refine hK.out _ _ (by first | exact HKR9.out | exact HKR7.out | exact HKR6.out) (fun hHeld => ?_)
          clear hK K
          (try simp only [Act.put, List.setIfInBounds_toArray, List.set_cons_zero, List.set_cons_succ])
          refine wpAnyT_last (i := 12) (o := ⟨none, _, _, _, _, _⟩) (by kernel_rfl) (by decide) rfl (fun K hK => ?_)
          refine st_agg_wp 35 _ _ rfl w.heap.size c7 rfl rfl 35 c HX9.out (by rw [HSZ7.out]; exact rope_size) (by rw [HSZ7.out, HSZc.out]) HONE7.out ?_
          intro w8 h8 k8
          have HX8 := Lib.hid h8; have HR8 := Lib.hid (HR9.out.but HNr.out k8 (by omega)); have HS8 := Lib.hid (HS9.out.but HNs.out k8 (by omega)); have HA8 := Lib.hid (HA9.out.but k8 HX9.out (by decide) (by decide)); have HV8 := Lib.hid (RL.but HV9.out k8 HX9.out (by decide) (by decide)); have HL8 := Lib.hid (HL9.out.but k8 HX9.out (by decide)); have HB8 := Lib.hid (HB9.out.trans (k8.below (Nat.le_refl _)))
          have HONEL := Lib.hid (Lst.one HL8.out)
          clear h8 k8
          refine hK.out _ _ ?_
          clear hK K
          (try simp only [Act.put, List.setIfInBounds_toArray, List.set_cons_zero, List.set_cons_succ])
          refine wpAnyT_last (i := 13) (o := ⟨some 6, _, _, _, _, _⟩) (by kernel_rfl) (by decide) rfl (fun K hK => ?_)
          go_simp
          refine hK.out _ _ ?_
          clear hK K
          (try simp only [Act.put, List.setIfInBounds_toArray, List.set_cons_zero, List.set_cons_succ])
          refine wpAnyT_done (by kernel_rfl) ?_ _
          obtain ⟨L2, hL2⟩ : ∃ L2, L2 = L ++ li := ⟨_, rfl⟩
          rw [← hL2] at HV8 HL8
          replace HLEN8 : Hid (L2.length ≤ 3000) := by show _ ≤ _; rw [hL2, List.length_append]; have := HLEN8.out; omega
          clear hL2
          obtain ⟨a7, cp7, rfl, _⟩ := HL8.out.shape
          go_wp2_with (first
            | (refine ld_if rfl 35 _ rfl w.heap.size rfl 35 _ _ _ HX8.out Try.underlying35 rfl (by rw [HSZ7.out]; exact rope_size) ?_)
            | (refine bs_list rfl 25 35 _ rfl c7 4 (.agg #[.int .i64 0, .int .i64 0, .slice none 0 0, .slice none 0 0]) rfl HSZ7.out (by decide) (by decide) Try.underlying25 (by kernel_rfl) ?_; intro w11 h11 hb hs11; have HX11 := Lib.hid ((hb.block _ (Array.getElem?_eq_some_iff.1 HX8.out).1).trans HX8.out); have HR11 := Lib.hid (HR8.out.later hb); have HS11 := Lib.hid (HS8.out.later hb); have HA11 := Lib.hid (HA8.out.later hb); have HB11 := Lib.hid (HB8.out.trans (hb.mono HB8.out.size)); have HV11 := Lib.hid (RL.later HV8.out hb); have HL11 := Lib.hid (HL8.out.later hb); have HG11 := Lib.hid h11; clear h11 hb hs11)
            | (refine rows_list rfl (z := .agg #[.int .i64 0, .int .i64 0, .slice none 0 0, .slice none 0 0]) (by_ := 64) 25 35 _ _ rfl rfl HR11.out w8.heap.size rfl HG11.out HSZ7.out HONE7.out Try.underlying25 (by kernel_rfl) rfl (by decide) (by have := HT41.out; rw [List.length_map]; omega) (by decide) ?_; intro vr w12 hrow hgr; have HR12 := Lib.hid hrow; have HX12 := Lib.hid (HR11.out.keeps hgr (by omega) HX11.out); have HS12 := Lib.hid (HS11.out.apart HNs.out HR11.out HNr.out (by decide) hgr); have HA12 := Lib.hid (HA11.out.keptT hgr (by decide) (by decide) HR11.out.typed'); have HV12 := Lib.hid (RL.keptT HV11.out hgr (by decide) (by decide) HR11.out.typed'); have HL12 := Lib.hid (HL11.out.keptE hgr (by decide) HR11.out.typed'); have HB12 := Lib.hid (HB11.out.trans (HR11.out.below hgr (by omega) HB11.out.size)); have HNr12 : Hid (ts.map (·.1) ++ [c7] ≠ []) := List.append_ne_nil_of_right_ne_nil _ (by simp); have hb := Below.newly' w12 (.cells #[.slice a7 L2.length cp7] 31); have HX13 := Lib.hid ((hb.block _ (Array.getElem?_eq_some_iff.1 HX12.out).1).trans HX12.out); have HR13 := Lib.hid (HR12.out.later hb); have HS13 := Lib.hid (HS12.out.later hb); have HA13 := Lib.hid (HA12.out.later hb); have HB13 := Lib.hid (HB12.out.trans (hb.mono HB12.out.size)); have HV13 := Lib.hid (RL.later HV12.out hb); have HL13 := Lib.hid (HL12.out.later hb); clear hrow hgr hb)
            | (refine rows_list rfl (z := .slice none 0 0) (by_ := 24) 26 31 _ _ rfl rfl HS13.out w12.heap.size rfl (heap_alloc_last w12 _) rfl HONEL.out Try.underlying26 (by kernel_rfl) rfl (by decide) (by have := HT41.out; rw [List.length_map]; omega) (by decide) ?_; intro vl w14 hrow hgr; have HS14 := Lib.hid hrow; have HX14 := Lib.hid (HS13.out.keeps hgr (by omega) HX13.out); have HR14 := Lib.hid (HR13.out.apart HNr12.out HS13.out HNs.out (by decide) hgr); have HA14 := Lib.hid (HA13.out.keptT hgr (by decide) (by decide) HS13.out.typed'); have HV14 := Lib.hid (RL.keptT HV13.out hgr (by decide) (by decide) HS13.out.typed'); have HL14 := Lib.hid (HL13.out.keptE hgr (by decide) HS13.out.typed'); have HB14 := Lib.hid (HB13.out.trans (HS13.out.below hgr (by omega) HB13.out.size)); clear hrow hgr))
          go_roundw
          case rel =>
            have hlen : L2.length ≤ 3000 + (n + 1) := by have := HLEN8.out; omega
            refine ⟨n + 1, c7, L2, ts ++ [(c7, .slice a7 L2.length cp7, L2)], by have := hlt'; omega, by go_num, ⟨HSH.out.1.snoc hlen, hlen⟩, HX14.out, HV14.out, HL14.out, ?_, ?_, HA14.out.snoc HV14.out HL14.out, HB14.out⟩
            · rw [List.map_append]; exact HR14.out
            · rw [List.map_append]; exact HS14.out
          case measure => simp [intOf]; omega
      · have hd4 : ¬ D = 4 := fun e => h45 (.inl e)
        have hd5 : ¬ D = 5 := fun e => h45 (.inr e)
        have hb4 : (D != 4) = true := by simpa using hd4
        have hb5 : (D != 5) = true := by simpa using hd5
        clear h45
        have hone := one8 _ c _ L (D, I, J, X, K, N) HV5.out HL5.out HINR.out.1 HINR.out.2 H15.out (by have := HSH.out.2; have := HM.out; omega)
        unfold One8 at hone
        have HONE := Lib.hid hone
        have hlen8 := do8_len L (D, I, J, X, K, N) H15.out
        obtain ⟨L2, hL2⟩ : ∃ L2, L2 = do8 L (D, I, J, X, K, N) := ⟨_, rfl⟩
        rw [← hL2] at HONE hlen8
        have HLEN8 := Lib.hid hlen8
        clear hone hL2 hlen8
        go_upto_region 17 with (first
          | (refine ld_op8 rfl _ rfl bb (oo + n * 6) rfl (D, I, J, X, K, N) HR.out ?_)
          | (refine ld_if rfl 35 _ rfl w.heap.size rfl 35 _ _ _ HX5.out Try.underlying35 rfl (by rw [HSZc.out]; exact rope_size) ?_)
          | (refine ld_if rfl 57 _ rfl wr.heap.size rfl 57 _ _ _ HP5.out Try.underlying57 rfl op8_info ?_)
          | (go_at_call 26; (with_reducible refine HONE.out.mono ?_); rintro e w7 ⟨c7, v7, rfl, hv7, hl7, hb⟩; have HX7 := Lib.hid ((hb.block _ (Array.getElem?_eq_some_iff.1 HX5.out).1).trans HX5.out); have HR7 := Lib.hid (HR5.out.later hb); have HS7 := Lib.hid (HS5.out.later hb); have HA7 := Lib.hid (HA5.out.later hb); have HB7 := Lib.hid (HB5.out.trans (hb.mono HB5.out.size)); have HV7 := Lib.hid hv7; have HL7 := Lib.hid hl7; have HSZ7 := Lib.hid (RL.size hv7); have HONE7 := Lib.hid (RL.one hv7); have HONEL := Lib.hid (Lst.one hl7); clear hb hv7 hl7)
          | (refine st_agg rfl 35 _ _ rfl w.heap.size c7 rfl rfl 35 c HX7.out (by rw [HSZ7.out]; exact rope_size) (by rw [HSZ7.out, HSZc.out]) HONE7.out ?_; intro w8 h8 k8; have HX8 := Lib.hid h8; have HR8 := Lib.hid (HR7.out.but HNr.out k8 (by omega)); have HS8 := Lib.hid (HS7.out.but HNs.out k8 (by omega)); have HA8 := Lib.hid (HA7.out.but k8 HX7.out (by decide) (by decide)); have HV8 := Lib.hid (RL.but HV7.out k8 HX7.out (by decide) (by decide)); have HL8 := Lib.hid (HL7.out.but k8 HX7.out (by decide)); have HB8 := Lib.hid (HB7.out.trans (k8.below (Nat.le_refl _))); clear h8 k8))
        obtain ⟨a7, cp7, rfl, _⟩ := HL8.out.shape
        go_wp2_with (first
          | (refine ld_if rfl 35 _ rfl w.heap.size rfl 35 _ _ _ HX8.out Try.underlying35 rfl (by rw [HSZ7.out]; exact rope_size) ?_)
          | (refine bs_list rfl 25 35 _ rfl c7 4 (.agg #[.int .i64 0, .int .i64 0, .slice none 0 0, .slice none 0 0]) rfl HSZ7.out (by decide) (by decide) Try.underlying25 (by kernel_rfl) ?_; intro w11 h11 hb hs11; have HX11 := Lib.hid ((hb.block _ (Array.getElem?_eq_some_iff.1 HX8.out).1).trans HX8.out); have HR11 := Lib.hid (HR8.out.later hb); have HS11 := Lib.hid (HS8.out.later hb); have HA11 := Lib.hid (HA8.out.later hb); have HB11 := Lib.hid (HB8.out.trans (hb.mono HB8.out.size)); have HV11 := Lib.hid (RL.later HV8.out hb); have HL11 := Lib.hid (HL8.out.later hb); have HG11 := Lib.hid h11; clear h11 hb hs11)
          | (refine rows_list rfl (z := .agg #[.int .i64 0, .int .i64 0, .slice none 0 0, .slice none 0 0]) (by_ := 64) 25 35 _ _ rfl rfl HR11.out w8.heap.size rfl HG11.out HSZ7.out HONE7.out Try.underlying25 (by kernel_rfl) rfl (by decide) (by have := HT41.out; rw [List.length_map]; omega) (by decide) ?_; intro vr w12 hrow hgr; have HR12 := Lib.hid hrow; have HX12 := Lib.hid (HR11.out.keeps hgr (by omega) HX11.out); have HS12 := Lib.hid (HS11.out.apart HNs.out HR11.out HNr.out (by decide) hgr); have HA12 := Lib.hid (HA11.out.keptT hgr (by decide) (by decide) HR11.out.typed'); have HV12 := Lib.hid (RL.keptT HV11.out hgr (by decide) (by decide) HR11.out.typed'); have HL12 := Lib.hid (HL11.out.keptE hgr (by decide) HR11.out.typed'); have HB12 := Lib.hid (HB11.out.trans (HR11.out.below hgr (by omega) HB11.out.size)); have HNr12 : Hid (ts.map (·.1) ++ [c7] ≠ []) := List.append_ne_nil_of_right_ne_nil _ (by simp); have hb := Below.newly' w12 (.cells #[.slice a7 L2.length cp7] 31); have HX13 := Lib.hid ((hb.block _ (Array.getElem?_eq_some_iff.1 HX12.out).1).trans HX12.out); have HR13 := Lib.hid (HR12.out.later hb); have HS13 := Lib.hid (HS12.out.later hb); have HA13 := Lib.hid (HA12.out.later hb); have HB13 := Lib.hid (HB12.out.trans (hb.mono HB12.out.size)); have HV13 := Lib.hid (RL.later HV12.out hb); have HL13 := Lib.hid (HL12.out.later hb); clear hrow hgr hb)
          | (refine rows_list rfl (z := .slice none 0 0) (by_ := 24) 26 31 _ _ rfl rfl HS13.out w12.heap.size rfl (heap_alloc_last w12 _) rfl HONEL.out Try.underlying26 (by kernel_rfl) rfl (by decide) (by have := HT41.out; rw [List.length_map]; omega) (by decide) ?_; intro vl w14 hrow hgr; have HS14 := Lib.hid hrow; have HX14 := Lib.hid (HS13.out.keeps hgr (by omega) HX13.out); have HR14 := Lib.hid (HR13.out.apart HNr12.out HS13.out HNs.out (by decide) hgr); have HA14 := Lib.hid (HA13.out.keptT hgr (by decide) (by decide) HS13.out.typed'); have HV14 := Lib.hid (RL.keptT HV13.out hgr (by decide) (by decide) HS13.out.typed'); have HL14 := Lib.hid (HL13.out.keptE hgr (by decide) HS13.out.typed'); have HB14 := Lib.hid (HB13.out.trans (HS13.out.below hgr (by omega) HB13.out.size)); clear hrow hgr))
        go_roundw
        case rel =>
          have hlen : L2.length ≤ 3000 + (n + 1) := by have := HLEN8.out; have := HSH.out.2; omega
          refine ⟨n + 1, c7, L2, ts ++ [(c7, .slice a7 L2.length cp7, L2)], by have := hlt'; omega, by go_num, ⟨HSH.out.1.snoc hlen, hlen⟩, HX14.out, HV14.out, HL14.out, ?_, ?_, HA14.out.snoc HV14.out HL14.out, HB14.out⟩
          · rw [List.map_append]; exact HR14.out
          · rw [List.map_append]; exact HS14.out
        case measure => simp [intOf]; omega
    · obtain rfl : n = l.length := by omega
      have hlt' : ¬ ((l.length : Int) < (l.length : Int)) := by omega
      go_wp2_with fail
      go_ret3
      exact ⟨_, _, rfl, ts, HR4.out, HS4.out, HA4.out, ⟨HSH.out.1.1, by have := HSH.out.1.2.1; have := HM.out; omega, fun t ht => by have := HSH.out.1.2.2 t ht; have := HM.out; omega⟩, HB4.out⟩
theorem ld_arr {ops : Array Oper} {rest : List Oper} {o : Oper} {a : Act} {w : World} {Q : Exit → Act → World → Prop} (hwd : Region.wanted o (yielded ops a.tmps) = true) (y : Operand) (ho : o.op = .load 35 y)
    (b k : Nat) (hx : a.eval y = .pointer (some ⟨b, k, none⟩)) (c : Array Value) (hs : c.size = 4) (hR : w.rangeAt b k c.toList)
    (h : wpList Try.prog ops Q rest (a.put o.dst (.agg c)) w) : wpList Try.prog ops Q (o :: rest) a w :=
  wpList_step fun _ hK => by
    rw [if_pos hwd]
    refine wp_load_mid 35 y ho b k hx c.toList _ hR Try.underlying35 rfl (by rw [Array.length_toList, hs]; exact rope_size) (hK _ _ ?_)
    simpa using h
theorem cut_nn {l : List Int} {a b : Nat} (h1 : a ≤ b) (h2 : b ≤ l.length) : cutL l (a : Int) (b : Int) = pieceL l a b := by
  unfold cutL cutS edS
  have h0 : max (l.length : Int) 0 = l.length := by omega
  simp only [h0]
  rw [if_neg (by omega), if_neg (by omega), show min (a : Int) l.length = a by omega, show min (b : Int) l.length = b by omega, show max (a : Int) b = b by omega, Int.toNat_natCast, Int.toNat_natCast]
theorem parts_join {l : List Int} {a b : Nat} (h1 : a ≤ b) : (pieceL l 0 a ++ pieceL l a b) ++ pieceL l b l.length = l := by
  have h3 : pieceL l 0 a = (l.take b).take a := by unfold pieceL; rw [List.drop_zero, List.take_take, Nat.min_eq_left h1]
  rw [h3]
  unfold pieceL
  rw [List.take_append_drop, List.take_length, List.take_append_drop]
/-- A rope of this list is handed back. -/
def GotR (V : World) (v : Value) (l : List Int) : Prop := ∃ c, v = .agg c ∧ RL V c l
theorem GotR.later {V V' : World} {v : Value} {l : List Int} (h : GotR V v l) (hb : Below V.heap.size V V') : GotR V' v l := by
  obtain ⟨c, h1, h2⟩ := h
  exact ⟨c, h1, RL.later h2 hb⟩
theorem sl_nn (W : World) {c : Array Value} {l : List Int} (h : RL W c l) (a b : Nat) (h1 : a ≤ b) (h2 : b ≤ l.length) (hN : l.length ≤ 50000) :
    Calls Try.prog 22 #[.agg c, .int .i64 (a : Int), .int .i64 (b : Int)] W fun e W' => ∃ c', e = .returned (.agg c') ∧ RL W' c' (pieceL l a b) ∧ Below W.heap.size W W' := by
  have h' := rp_Slice W h a b (by unfold InR; omega) (by unfold InR; omega) hN
  rw [cut_nn h1 h2] at h'
  exact h'.mono fun _ _ ⟨c', e, hr, hb⟩ => ⟨c', e, hr.rl, hb⟩
theorem sl_0n (W : World) {c : Array Value} {l : List Int} (h : RL W c l) (b : Nat) (h2 : b ≤ l.length) (hN : l.length ≤ 50000) :
    Calls Try.prog 22 #[.agg c, .int .i64 0, .int .i64 (b : Int)] W fun e W' => ∃ c', e = .returned (.agg c') ∧ RL W' c' (pieceL l 0 b) ∧ Below W.heap.size W W' := sl_nn W h 0 b (Nat.zero_le _) h2 hN
theorem cc_l (W : World) {ca cb : Array Value} {la lb lc : List Int} (ha : RL W ca la) (hb : RL W cb lb) (hN : la.length + lb.length ≤ 100000) (hc : la ++ lb = lc) :
    Calls Try.prog 23 #[.agg ca, .agg cb] W fun e W' => ∃ c, e = .returned (.agg c) ∧ RL W' c lc ∧ Below W.heap.size W W' := by
  subst hc
  exact (rp_Concat W ha hb hN).mono fun _ _ ⟨c, e, hr, hb⟩ => ⟨c, e, hr.rl, hb⟩
theorem len_l (W : World) {c : Array Value} {l : List Int} (h : RL W c l) {n : Nat} (hn : l.length = n) : Calls Try.prog 21 #[.agg c] W fun e W' => e = .returned (.int .i64 (n : Int)) ∧ Below W.heap.size W W' := by
  subst hn
  exact (rp_Len W h).mono fun _ _ ⟨e, hw⟩ => ⟨e, by rw [hw]; exact Below.newly' _ _⟩
theorem hx_later {X : Nat} {o : Obj} {V V' : World} (h : V.heap[X]? = some o) (hb : Below V.heap.size V V') : V'.heap[X]? = some o := (hb.block _ (Array.getElem?_eq_some_iff.1 h).1).trans h
theorem h3_later {X Y Z : Nat} {o p q : Obj} {V V' : World} (h : V.heap[X]? = some o ∧ V.heap[Y]? = some p ∧ V.heap[Z]? = some q) (hb : Below V.heap.size V V') : V'.heap[X]? = some o ∧ V'.heap[Y]? = some p ∧ V'.heap[Z]? = some q := ⟨hx_later h.1 hb, hx_later h.2.1 hb, hx_later h.2.2 hb⟩
end Go.Proofs.Ytldemoflgahdgaa
