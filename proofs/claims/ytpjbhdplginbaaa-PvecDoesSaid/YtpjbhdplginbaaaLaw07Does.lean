/- Layer 7's law PvecDoes, over package pvec as it landed. (written by tools/gen07/pdoes.py) -/
import Derived.Test.YtpjbhdplginbaaaLaw07Script
import Derived.Test.YtpjbhdplginbaaaRowsOwn
namespace Go.Proofs.Ytpjbhdplginbaaa
open Go.RowKit
set_option maxRecDepth 1000000
set_option linter.unusedSimpArgs false

/-- A vector, a list, and what both are. -/
abbrev Kept7 := Array Value × Value × List Int
def AllV (W : World) (ts : List Kept7) : Prop := ∀ t ∈ ts, VL W t.1 t.2.2 ∧ Lst (fun _ => True) W t.2.1 t.2.2
theorem VL.keptT {w w' : World} {c : Array Value} {l : List Int} {row : Option Nat} {e : TypeId} (h : VL w c l) (hg : w.grownBy w' row) (h1 : e ≠ 3) (h2 : e ≠ 28) (hT : ∀ X, row = some X → ∃ cs fr, w.heap[X]? = some (.cells cs e fr)) : VL w' c l :=
  VecG.keptT hg (fun X ex => by
    obtain ⟨cs, fr, hX⟩ := hT X ex
    exact ⟨_, hX, fun cs fr => ⟨fun ee => (by simp only [Obj.cells.injEq] at ee; exact h1 ee.2.1), fun ee => (by simp only [Obj.cells.injEq] at ee; exact h2 ee.2.1)⟩⟩) h
theorem Lst.keptE {S : Nat → Prop} {W W' : World} {v : Value} {l : List Int} {row : Option Nat} {e : TypeId} (h : Lst S W v l) (hg : W.grownBy W' row) (h1 : e ≠ 3) (hT : ∀ X, row = some X → ∃ cs fr, W.heap[X]? = some (.cells cs e fr)) : Lst S W' v l :=
  h.keptT hg fun X ex => by
    obtain ⟨cs, fr, hX⟩ := hT X ex
    exact ⟨_, hX, fun cs fr ee => (by simp only [Obj.cells.injEq] at ee; exact h1 ee.2.1)⟩
section
variable {W W' : World} {ts : List Kept7}
theorem AllV.later (h : AllV W ts) (hb : Below W.heap.size W W') : AllV W' ts := fun t ht => ⟨VL.later (h t ht).1 hb, (h t ht).2.later hb⟩
theorem AllV.but {X : Nat} {cs : Array Value} {T : TypeId} {fr : Nat × Nat} (h : AllV W ts) (k : Only X W W') (hX : W.heap[X]? = some (.cells cs T fr)) (h1 : T ≠ 3) (h2 : T ≠ 28) : AllV W' ts :=
  fun t ht => ⟨VL.but (h t ht).1 k hX h1 h2, (h t ht).2.but k hX h1⟩
theorem AllV.keptT {row : Option Nat} {e : TypeId} (h : AllV W ts) (hg : W.grownBy W' row) (h1 : e ≠ 3) (h2 : e ≠ 28) (hT : ∀ X, row = some X → ∃ cs fr, W.heap[X]? = some (.cells cs e fr)) : AllV W' ts :=
  fun t ht => ⟨VL.keptT (h t ht).1 hg h1 h2 hT, (h t ht).2.keptE hg h1 hT⟩
theorem AllV.snoc {c : Array Value} {v : Value} {l : List Int} (h : AllV W ts) (hc : VL W c l) (hl : Lst (fun _ => True) W v l) : AllV W (ts ++ [(c, v, l)]) := fun t ht => by
  rcases List.mem_append.1 ht with ht | ht
  · exact h t ht
  · simp at ht; subst ht; exact ⟨hc, hl⟩
end
theorem Lst.one {S : Nat → Prop} {W : World} {v : Value} {l : List Int} (h : Lst S W v l) : (#[v] : Array Value).all (·.oneCell') = true := by
  obtain ⟨a, c, rfl, _⟩ := h.shape
  simp [Value.oneCell']
set_option maxHeartbeats 4000000 in
theorem pvecDoes_of (v : Value) (l : List Op7) (ask : Int) (w : World) (hl : Ops7 w v l) : Calls Try.prog 3 #[v, .int .i64 ask] w fun e w' => e = .returned (.bool true) ∧ Below w.heap.size w w' := by
  have HB := Lib.hid (Below.refl w.heap.size w)
  have HFEW := Lib.hid (fun W (h : Below w.heap.size w W) => few7 v l W (hl.later h))
  obtain ⟨ad, cap, bb, oo, rfl, h1, h2, hmax⟩ := hl
  have HLO := Lib.hid h1
  have HLC := Lib.hid h2
  clear h1 h2
  by_cases hf : fewB l = true
  case neg =>
    rw [show fewB l = false by simpa using hf] at HFEW
    clear hf
    go_enter Try.func3, Try.ntmps3
    go_wp2_with (first
      | (go_at_call 8; with_reducible refine (live7 _).mono ?_; rintro e w1 ⟨rfl, hb⟩; replace HB := Lib.hid (HB.out.trans (hb.mono HB.out.size)); clear hb)
      | (go_at_call 9; with_reducible refine (HFEW.out _ HB.out).mono ?_; rintro e w1 ⟨rfl, hb⟩; replace HB := Lib.hid (HB.out.trans (hb.mono HB.out.size)); clear hb))
    go_ret
    exact ⟨rfl, HB.out⟩
  have HF := Lib.hid hf
  rw [hf] at HFEW
  have hm63 : (l.length : Int) ≤ 40 := by have := (few_ops hf).2.2; omega
  have HM40 := Lib.hid hm63
  clear hf hmax
  go_enter Try.func3, Try.ntmps3
  go_upto_region 5 with (first
    | (go_at_call 8; with_reducible refine (live7 _).mono ?_; rintro e w1 ⟨rfl, hb⟩; replace HB := Lib.hid (HB.out.trans (hb.mono HB.out.size)); clear hb)
    | (go_at_call 9; with_reducible refine (HFEW.out _ HB.out).mono ?_; rintro e w1 ⟨rfl, hb⟩; replace HB := Lib.hid (HB.out.trans (hb.mono HB.out.size)); clear hb))
  obtain ⟨W, hW⟩ : ∃ W, (w1.alloc (.cells #[.int .i64 0, .slice none 0 0, .slice none 0 0, .slice none 0 0] 30)).alloc (.cells #[] 3) = W := ⟨_, rfl⟩
  rw [hW]
  obtain ⟨hb, hx, _, hsW⟩ := pair_new hW
  have HL0 := Lib.hid (lst_none2 hW)
  have HX0 := Lib.hid hx
  have HB0 := Lib.hid (HB.out.trans (hb.mono HB.out.size))
  have HXB : Hid (w.heap.size ≤ w1.heap.size) := HB.out.size
  obtain ⟨X, hX⟩ : ∃ X, X = w1.heap.size := ⟨_, rfl⟩
  rw [← hX] at HL0 HX0 HXB hsW ⊢
  have HSW : Hid (W.heap.size = X + 2) := hsW
  clear hb hx hW hX HB HFEW hsW
  go_upto_region 6 with (first
    | (refine ld_if (by rfl) 30 _ rfl X rfl 30 _ _ _ HX0.out Try.underlying30 rfl vec_size ?_)
    | (refine bs_list rfl 31 30 _ rfl #[.int .i64 0, .slice none 0 0, .slice none 0 0, .slice none 0 0] 4 (.agg #[.int .i64 0, .slice none 0 0, .slice none 0 0, .slice none 0 0]) rfl rfl (by decide) (by decide) Try.underlying31 (by kernel_rfl) ?_; intro w2 h2 hb2 hs2; have HG2 := Lib.hid h2; have HB2 := Lib.hid hb2; have HZ2 := Lib.hid hs2; clear h2 hb2 hs2))
  obtain ⟨w3, hw3⟩ : ∃ w3, w2.alloc (.cells #[.slice (some ⟨X + 1, 0, none⟩) 0 0] 26) = w3 := ⟨_, rfl⟩
  have hb3 : Below w2.heap.size w2 w3 := by rw [← hw3]; exact Below.newly' _ _
  have hg3 : w3.heap[w2.heap.size]? = some (.cells #[.slice (some ⟨X + 1, 0, none⟩) 0 0] 26 (0, 0)) := by rw [← hw3]; exact heap_alloc_last _ _
  have hb23 : Below W.heap.size W w3 := HB2.out.trans (hb3.mono HB2.out.size)
  have HX3 := Lib.hid ((hb23.block _ (Array.getElem?_eq_some_iff.1 HX0.out).1).trans HX0.out)
  have HL3 := Lib.hid (HL0.out.later hb23)
  have HB3 := Lib.hid (HB0.out.trans (hb23.mono HB0.out.size))
  have HR3 : Hid (RowsOwn (X + 2) 30 4 (.slice (some ⟨W.heap.size, 0, none⟩) 1 1) (([(#[.int .i64 0, .slice none 0 0, .slice none 0 0, .slice none 0 0], .slice (some ⟨X + 1, 0, none⟩) 0 0, [])] : List Kept7).map (·.1)) w3) := rows_lit (by have := HSW.out; omega) ((hb3.block _ (Array.getElem?_eq_some_iff.1 HG2.out).1).trans HG2.out) rfl
  have HS3 : Hid (RowsOwn (X + 2) 26 1 (.slice (some ⟨w2.heap.size, 0, none⟩) 1 1) (([(#[.int .i64 0, .slice none 0 0, .slice none 0 0, .slice none 0 0], .slice (some ⟨X + 1, 0, none⟩) 0 0, [])] : List Kept7).map (fun t => #[t.2.1])) w3) := rows_lit (by have := HSW.out; have := HZ2.out; omega) hg3 rfl
  have HA3 : Hid (AllV w3 [(#[.int .i64 0, .slice none 0 0, .slice none 0 0, .slice none 0 0], .slice (some ⟨X + 1, 0, none⟩) 0 0, [])]) := fun t ht => by simp at ht; subst ht; exact ⟨VL.zero _, HL3.out⟩
  rw [hw3]
  clear hw3 hb3 hg3 hb23 HX0 HL0 HB0 HG2 HB2 HZ2 HSW
  go_wp2_with fail
  go_loopw [6, 7, 8, 32] (fun lv vs ls iv wl => ∃ (n : Nat) (c : Array Value) (ts : List Kept7), n ≤ l.length ∧ iv = .int .i64 (n : Int) ∧ ts.length = n + 1 ∧ wl.heap[X]? = some (.cells c 30 (0, 0)) ∧ VL wl c (aft [] l n) ∧ Lst (fun _ => True) wl lv (aft [] l n) ∧ RowsOwn (X + 2) 30 4 vs (ts.map (·.1)) wl ∧ RowsOwn (X + 2) 26 1 ls (ts.map (fun t => #[t.2.1])) wl ∧ AllV wl ts ∧ Below w.heap.size w wl) (fun _ _ _ iv _ => l.length - (intOf iv).toNat)
  case atStart => exact ⟨0, _, _, Nat.zero_le _, rfl, rfl, HX3.out, VL.zero _, HL3.out, HR3.out, HS3.out, HA3.out, HB3.out⟩
  case round =>
    clear HX3 HL3 HR3 HS3 HA3 HB3
    obtain ⟨n, c, ts, hn, rfl, hts, hx, hc, hll, hr, hs, ha, hb⟩ := hrel
    have HX4 := Lib.hid hx
    have HC := Lib.hid hc
    have HB4 := Lib.hid hb
    have HSZc := Lib.hid (VL.size hc)
    have HR4 := Lib.hid hr
    have HS4 := Lib.hid hs
    have HA4 := Lib.hid ha
    have HTS := Lib.hid hts
    have HNr : Hid (ts.map (·.1) ≠ []) := fun h => by have := congrArg List.length h; simp [hts] at this
    have HNs : Hid (ts.map (fun t => #[t.2.1]) ≠ []) := fun h => by have := congrArg List.length h; simp [hts] at this
    obtain ⟨L, hL⟩ : ∃ L, L = aft [] l n := ⟨_, rfl⟩
    rw [← hL] at HC hll
    have HLL := Lib.hid hL
    obtain ⟨a, cp, rfl, _⟩ := hll.shape
    obtain ⟨gr, cpr, _, _, hvr, _, _, _⟩ := hr.at_ HNr.out
    rw [List.length_map] at hvr
    subst hvr
    obtain ⟨gs, cps, _, _, hvs, _, _, _⟩ := hs.at_ HNs.out
    rw [List.length_map] at hvs
    subst hvs
    have HLST := Lib.hid hll
    clear hx hc hb hL hll hr hs ha
    by_cases hlt : n < l.length
    · as_aux_lemma =>
      have hlt' : (n : Int) < (l.length : Int) := by omega
      have i0 : (0 : Int) ≤ (n : Int) := by omega
      have had : ad = some ⟨bb, oo, none⟩ := HLO.out (by omega)
      subst had
      have HR := Lib.hid ((HLC.out n hlt).later HB4.out)
      have h15 := (few_ops HF.out).1 _ (List.getElem_mem hlt)
      have hAS := aft_succ [] l hlt
      obtain ⟨x, hx⟩ : ∃ x, x = l[n] := ⟨_, rfl⟩
      rw [← hx] at HR h15 hAS
      rw [← HLL.out] at hAS
      have hb := Below.newly' wr (.cells (op7C x) 34)
      have HAS := Lib.hid hAS
      obtain ⟨L2, hL2⟩ : ∃ L2, L2 = doL L x := ⟨_, rfl⟩
      have hd : Done c (.slice a L.length cp) L x (wr.alloc (.cells (op7C x) 34)) := does7 c _ _ x _ (VL.later HC.out hb) (HLST.out.later hb) h15 (by have := aft_few [] HF.out n; rw [HLL.out]; simp at this; omega)
      unfold Done at hd
      rw [← hL2] at hd hAS
      have HD := Lib.hid hd
      have HAS := Lib.hid hAS
      have HX5 := Lib.hid ((hb.block _ (Array.getElem?_eq_some_iff.1 HX4.out).1).trans HX4.out); have HR5 := Lib.hid (HR4.out.later hb); have HS5 := Lib.hid (HS4.out.later hb); have HA5 := Lib.hid (HA4.out.later hb); have HB5 := Lib.hid (HB4.out.trans (hb.mono HB4.out.size))
      have HP5 := Lib.hid (heap_alloc_last wr (.cells (op7C x) 34))
      have HQ1 := Lib.hid (fun W c (h : VL W c L2) => pv_GetL W h ask)
      have HQ2 := Lib.hid (fun W v (h : Lst (fun _ => True) W v L2) => ref_Get7 v L2 ask W h)
      obtain ⟨⟨y, q⟩, hyq⟩ : ∃ p, p = getF (fun i => L2.getD i 0) L2.length ask := ⟨_, rfl⟩
      rw [← hyq] at HQ1 HQ2
      simp only at HQ1 HQ2
      have hts41 : ts.length ≤ 41 := by have := HM40.out; omega
      have HT41 := Lib.hid hts41
      clear hx hd hb h15 hlt hAS hL2 hyq hts hts41
      go_upto_region 11 with (first
        | (refine ld_op7 rfl _ rfl bb (oo + n * 4) rfl x HR.out ?_)
        | (refine ld_if rfl 30 _ rfl X rfl 30 _ _ _ HX5.out Try.underlying30 rfl (by rw [HSZc.out]; exact vec_size) ?_)
        | (refine ld_if rfl 34 _ rfl wr.heap.size rfl 34 _ _ _ HP5.out Try.underlying34 rfl op7_info ?_)
        | (go_at_call 10; with_reducible refine HD.out.mono ?_; rintro e w7 ⟨c7, v7, rfl, hv7, hl7, hb⟩; have HX7 := Lib.hid ((hb.block _ (Array.getElem?_eq_some_iff.1 HX5.out).1).trans HX5.out); have HR7 := Lib.hid (HR5.out.later hb); have HS7 := Lib.hid (HS5.out.later hb); have HA7 := Lib.hid (HA5.out.later hb); have HB7 := Lib.hid (HB5.out.trans (hb.mono HB5.out.size)); have HV7 := Lib.hid hv7; have HL7 := Lib.hid hl7; have HSZ7 := Lib.hid (VL.size hv7); have HONE7 := Lib.hid (VL.one hv7); have HONEL := Lib.hid (Lst.one hl7); clear hb hv7 hl7)
        | (refine st_agg rfl 30 _ _ rfl X c7 rfl rfl 30 c HX7.out (by rw [HSZ7.out]; exact vec_size) (by rw [HSZ7.out, HSZc.out]) HONE7.out ?_; intro w8 h8 k8; have HX8 := Lib.hid h8; have HR8 := Lib.hid (HR7.out.but HNr.out k8 (by omega)); have HS8 := Lib.hid (HS7.out.but HNs.out k8 (by omega)); have HA8 := Lib.hid (HA7.out.but k8 HX7.out (by decide) (by decide)); have HV8 := Lib.hid (VL.but HV7.out k8 HX7.out (by decide) (by decide)); have HL8 := Lib.hid (HL7.out.but k8 HX7.out (by decide)); have HB8 := Lib.hid (HB7.out.trans (k8.below HXB.out)); clear h8 k8))
      obtain ⟨a7, cp7, rfl, _⟩ := HL8.out.shape
      clear HX5 HR5 HS5 HA5 HX7 HR7 HS7 HA7 HV7 HL7 HD HP5 HC HX4 HR4 HS4 HA4 HR
      go_upto_region 15 with (first
        | (refine ld_if rfl 30 _ rfl X rfl 30 _ _ _ HX8.out Try.underlying30 rfl (by rw [HSZ7.out]; exact vec_size) ?_)
        | (go_at_call 11; with_reducible refine (HQ1.out _ _ HV8.out).mono ?_; rintro e w9 ⟨rfl, hb⟩; have HX9 := Lib.hid ((hb.block _ (Array.getElem?_eq_some_iff.1 HX8.out).1).trans HX8.out); have HR9 := Lib.hid (HR8.out.later hb); have HS9 := Lib.hid (HS8.out.later hb); have HA9 := Lib.hid (HA8.out.later hb); have HB9 := Lib.hid (HB8.out.trans (hb.mono HB8.out.size)); have HV9 := Lib.hid (VL.later HV8.out hb); have HL9 := Lib.hid (HL8.out.later hb); clear hb)
        | (go_at_call 12; with_reducible refine (HQ2.out _ _ HL9.out).mono ?_; rintro e w10 ⟨rfl, hw10⟩; obtain rfl := hw10.symm))
      go_wp2_with (first
        | (refine ld_if rfl 30 _ rfl X rfl 30 _ _ _ HX9.out Try.underlying30 rfl (by rw [HSZ7.out]; exact vec_size) ?_)
        | (refine bs_list rfl 31 30 _ rfl c7 4 (.agg #[.int .i64 0, .slice none 0 0, .slice none 0 0, .slice none 0 0]) rfl HSZ7.out (by decide) (by decide) Try.underlying31 (by kernel_rfl) ?_; intro w11 h11 hb hs11; have HX11 := Lib.hid ((hb.block _ (Array.getElem?_eq_some_iff.1 HX9.out).1).trans HX9.out); have HR11 := Lib.hid (HR9.out.later hb); have HS11 := Lib.hid (HS9.out.later hb); have HA11 := Lib.hid (HA9.out.later hb); have HB11 := Lib.hid (HB9.out.trans (hb.mono HB9.out.size)); have HV11 := Lib.hid (VL.later HV9.out hb); have HL11 := Lib.hid (HL9.out.later hb); have HG11 := Lib.hid h11; clear h11 hb hs11)
        | (refine rows_list rfl (z := .agg #[.int .i64 0, .slice none 0 0, .slice none 0 0, .slice none 0 0]) (by_ := 80) 31 30 _ _ rfl rfl HR11.out w9.heap.size rfl HG11.out HSZ7.out HONE7.out Try.underlying31 (by kernel_rfl) rfl (by decide) (by have := HT41.out; simp; omega) (by decide) ?_; intro vr w12 hrow hgr; have HR12 := Lib.hid hrow; have HX12 := Lib.hid (HR11.out.keeps hgr (by omega) HX11.out); have HS12 := Lib.hid (HS11.out.apart HNs.out HR11.out HNr.out (by decide) hgr); have HA12 := Lib.hid (HA11.out.keptT hgr (by decide) (by decide) HR11.out.typed'); have HV12 := Lib.hid (VL.keptT HV11.out hgr (by decide) (by decide) HR11.out.typed'); have HL12 := Lib.hid (HL11.out.keptE hgr (by decide) HR11.out.typed'); have HB12 := Lib.hid (HB11.out.trans (HR11.out.below hgr (by have := HXB.out; omega) HB11.out.size)); have HNr12 : Hid (ts.map (·.1) ++ [c7] ≠ []) := List.append_ne_nil_of_right_ne_nil _ (by simp); have hb := Below.newly' w12 (.cells #[.slice a7 L2.length cp7] 26); have HX13 := Lib.hid ((hb.block _ (Array.getElem?_eq_some_iff.1 HX12.out).1).trans HX12.out); have HR13 := Lib.hid (HR12.out.later hb); have HS13 := Lib.hid (HS12.out.later hb); have HA13 := Lib.hid (HA12.out.later hb); have HB13 := Lib.hid (HB12.out.trans (hb.mono HB12.out.size)); have HV13 := Lib.hid (VL.later HV12.out hb); have HL13 := Lib.hid (HL12.out.later hb); clear hrow hgr hb)
        | (refine rows_list rfl (z := .slice none 0 0) (by_ := 24) 32 26 _ _ rfl rfl HS13.out w12.heap.size rfl (heap_alloc_last w12 _) rfl HONEL.out Try.underlying32 (by kernel_rfl) rfl (by decide) (by have := HT41.out; simp; omega) (by decide) ?_; intro vl w14 hrow hgr; have HS14 := Lib.hid hrow; have HX14 := Lib.hid (HS13.out.keeps hgr (by omega) HX13.out); have HR14 := Lib.hid (HR13.out.apart HNr12.out HS13.out HNs.out (by decide) hgr); have HA14 := Lib.hid (HA13.out.keptT hgr (by decide) (by decide) HS13.out.typed'); have HV14 := Lib.hid (VL.keptT HV13.out hgr (by decide) (by decide) HS13.out.typed'); have HL14 := Lib.hid (HL13.out.keptE hgr (by decide) HS13.out.typed'); have HB14 := Lib.hid (HB13.out.trans (HS13.out.below hgr (by have := HXB.out; omega) HB13.out.size)); clear hrow hgr))
      go_roundw
      case rel =>
        refine ⟨n + 1, c7, ts ++ [(c7, .slice a7 L2.length cp7, L2)], by have := hlt'; omega, by go_num, by rw [List.length_append, HTS.out]; rfl, HX14.out, by rw [HAS.out]; exact HV14.out, by rw [HAS.out]; exact HL14.out, ?_, ?_, HA14.out.snoc HV14.out HL14.out, HB14.out⟩
        · rw [List.map_append]; exact HR14.out
        · rw [List.map_append]; exact HS14.out
      case measure => simp [intOf]; omega
    · have HC4 : Hid (Below wr.heap.size wr wr) := Below.refl _ _
      have hts41 : (ts.length : Int) ≤ 41 := by have := HM40.out; omega
      clear hts
      go_wp2_with fail
      obtain ⟨w0, hw0⟩ : ∃ w0, w0 = wr := ⟨_, rfl⟩
      rw [← hw0] at HX4 HB4 HR4 HS4 HA4 HC4
      go_loopw [79] (fun iv wl => ∃ i : Nat, i ≤ ts.length ∧ iv = .int .i64 (i : Int) ∧ Below w0.heap.size w0 wl) (fun iv _ => ts.length - (intOf iv).toNat)
      case atStart => exact ⟨0, Nat.zero_le _, rfl, by rw [hw0]; exact Below.refl _ _⟩
      case round =>
        clear hw0
        obtain ⟨i, hi, rfl, hb⟩ := hrel
        have HB := Lib.hid hb
        by_cases hlt2 : i < ts.length
        · have hlt2' : (i : Int) < (ts.length : Int) := by omega
          have i0 : (0 : Int) ≤ (i : Int) := by omega
          have hti : ts[i]? = some ts[i] := List.getElem?_eq_getElem hlt2
          have HAI := Lib.hid (HA4.out ts[i] (List.getElem_mem hlt2))
          have HRI := Lib.hid (HR4.out.read (i := i) (c := ts[i].1) rfl (by rw [List.getElem?_map, hti]; rfl))
          have HSI := Lib.hid (HS4.out.read (i := i) (c := #[ts[i].2.1]) rfl (by rw [List.getElem?_map, hti]; rfl))
          obtain ⟨⟨ci, vi, li⟩, hx⟩ : ∃ x, x = ts[i] := ⟨_, rfl⟩
          rw [← hx] at HAI HRI HSI
          simp only at HAI HRI HSI
          have HSZi := Lib.hid (VL.size HAI.out.1)
          obtain ⟨ai, cpi, rfl, _⟩ := HAI.out.2.shape
          have hcell : w0.cell? ⟨gs, i, none⟩ = some (.slice ai li.length cpi) := by
            have h := HSI.out 0 (.slice ai li.length cpi) rfl
            simpa using h
          have HCI := Lib.hid hcell
          clear hb hti hx hcell
          go_upto_region 20 with fail
          have hb := drawn_below wr
          replace HB := Lib.hid (HB.out.trans (hb.mono HB.out.size))
          have HKR : Hid (∀ V, Below w0.heap.size w0 V → V.rangeAt gr (i * 4) ci.toList ∧ V.cell? ⟨gs, i, none⟩ = some (.slice ai li.length cpi)) := fun V h => ⟨rangeAt_later HRI.out h, (h.cell (p := ⟨gs, i, none⟩) (World.block_lt_of_cell? _ _ HCI.out)).trans HCI.out⟩
          clear hb
          refine wp_region_T (S := fun V => V.rangeAt gr (i * 4) ci.toList ∧ V.cell? ⟨gs, i, none⟩ = some (.slice ai li.length cpi)) [] (by kernel_rfl) (by exact HKR.out _ HB.out) (fun hHeld => ?_)
          refine wpAnyT_take (i := 0) (oi := ⟨some 82, _, _, _, _, _⟩) (v := ?vg3_0) rfl (by kernel_rfl) (by kernel_rfl) (by kernel_rfl) (by kernel_rfl) (fun _ _ _ h => h) (Or.inl ⟨by rfl, ?hg3_0⟩) (by assumption) ?rg3_0
          case hg3_0 => (intro w hSw; (try dsimp only at hSw); first | (go_simp; done) | (go_simp; with_reducible rfl))
          (try simp only [Act.put, List.setIfInBounds_toArray, List.set_cons_zero, List.set_cons_succ])
          refine wpAnyT_take (i := 1) (oi := ⟨some 83, _, _, _, _, _⟩) (v := ?vg3_1) rfl (by kernel_rfl) (by kernel_rfl) (by kernel_rfl) (by kernel_rfl) (fun _ _ _ h => h) (Or.inl ⟨by rfl, ?hg3_1⟩) (by assumption) ?rg3_1
          case hg3_1 => (intro w hSw; (try dsimp only at hSw); first | (go_simp; done) | (go_simp; with_reducible rfl))
          (try simp only [Act.put, List.setIfInBounds_toArray, List.set_cons_zero, List.set_cons_succ])
          refine wpAnyT_take (i := 2) (oi := ⟨some 84, _, _, _, _, _⟩) (v := ?vg3_2) rfl (by kernel_rfl) (by kernel_rfl) (by kernel_rfl) (by kernel_rfl) (fun _ _ _ h => h) (Or.inl ⟨by rfl, ?hg3_2⟩) (by assumption) ?rg3_2
          case hg3_2 => (intro w hSw; (try dsimp only at hSw); first | (go_simp; done) | (go_simp; with_reducible rfl))
          (try simp only [Act.put, List.setIfInBounds_toArray, List.set_cons_zero, List.set_cons_succ])
          refine wpAnyT_take (i := 3) (oi := ⟨some 85, _, _, _, _, _⟩) (v := _) rfl (by kernel_rfl) (by kernel_rfl) (by kernel_rfl) (by kernel_rfl) (fun _ _ _ h => h) (yieldsIf_arr (by rfl) 30 _ rfl gr (i * 4) rfl ci _ (fun w hw => hw.1) Try.underlying30 rfl (by rw [HSZi.out]; exact vec_size)) (by assumption) ?_
          (try simp only [Act.put, List.setIfInBounds_toArray, List.set_cons_zero, List.set_cons_succ])
          refine wpAnyT_take (i := 4) (oi := ⟨some 86, _, _, _, _, _⟩) (v := ?vg3_4) rfl (by kernel_rfl) (by kernel_rfl) (by kernel_rfl) (by kernel_rfl) (fun _ _ _ h => h) (Or.inl ⟨by rfl, ?hg3_4⟩) (by assumption) ?rg3_4
          case hg3_4 => (intro w hSw; (try dsimp only at hSw); first | (go_simp; done) | (go_simp; with_reducible rfl))
          (try simp only [Act.put, List.setIfInBounds_toArray, List.set_cons_zero, List.set_cons_succ])
          refine wpAnyT_take (i := 5) (oi := ⟨some 87, _, _, _, _, _⟩) (v := ?vg3_5) rfl (by kernel_rfl) (by kernel_rfl) (by kernel_rfl) (by kernel_rfl) (fun _ _ _ h => h) (Or.inl ⟨by rfl, ?hg3_5⟩) (by assumption) ?rg3_5
          case hg3_5 => (intro w hSw; (try dsimp only at hSw); first | (go_simp; done) | (go_simp; with_reducible rfl))
          (try simp only [Act.put, List.setIfInBounds_toArray, List.set_cons_zero, List.set_cons_succ])
          refine wpAnyT_take (i := 6) (oi := ⟨some 88, _, _, _, _, _⟩) (v := ?vg3_6) rfl (by kernel_rfl) (by kernel_rfl) (by kernel_rfl) (by kernel_rfl) (fun _ _ _ h => h) (Or.inl ⟨by rfl, ?hg3_6⟩) (by assumption) ?rg3_6
          case hg3_6 => (intro w hSw; (try dsimp only at hSw); first | (go_simp; done) | (go_simp; with_reducible rfl))
          (try simp only [Act.put, List.setIfInBounds_toArray, List.set_cons_zero, List.set_cons_succ])
          refine wpAnyT_take (i := 7) (oi := ⟨some 89, _, _, _, _, _⟩) (v := ?vg3_7) rfl (by kernel_rfl) (by kernel_rfl) (by kernel_rfl) (by kernel_rfl) (fun _ _ _ h => h) (Or.inl ⟨by rfl, ?hg3_7⟩) (by assumption) ?rg3_7
          case hg3_7 => (intro w hSw; (try dsimp only at hSw); first | (go_simp; done) | (go_simp; with_reducible rfl))
          (try simp only [Act.put, List.setIfInBounds_toArray, List.set_cons_zero, List.set_cons_succ])
          refine wpAnyT_one (i := 8) (o := ⟨some 90, _, _, _, _, _⟩) (by kernel_rfl) rfl (fun K hK => ?_)
          go_simp
          go_at_call 13
          with_reducible refine (same7 ci _ li _ (VL.later HAI.out.1 HB.out) (HAI.out.2.later HB.out)).mono ?_
          rintro e w1 ⟨rfl, hb⟩
          replace HB := Lib.hid (HB.out.trans (hb.mono HB.out.size))
          clear hb
          dsimp only
          refine hK.out _ _ (by exact HKR.out _ HB.out) (fun hHeld => ?_)
          clear hK K
          (try simp only [Act.put, List.setIfInBounds_toArray, List.set_cons_zero, List.set_cons_succ])
          refine wpAnyT_take (i := 9) (oi := ⟨some 91, _, _, _, _, _⟩) (v := ?vg3_9) rfl (by kernel_rfl) (by kernel_rfl) (by kernel_rfl) (by kernel_rfl) (fun _ _ _ h => h) (Or.inl ⟨by rfl, ?hg3_9⟩) (by assumption) ?rg3_9
          case hg3_9 => (intro w hSw; (try dsimp only at hSw); first | (go_simp; done) | (go_simp; with_reducible rfl))
          (try simp only [Act.put, List.setIfInBounds_toArray, List.set_cons_zero, List.set_cons_succ])
          refine wpAnyT_done (by kernel_rfl) ?_ _
          go_wp2_with fail
          go_roundw
          case rel => exact ⟨i + 1, by omega, by simp, HB.out⟩
          case measure => simp [intOf]; omega
        · have hlt2' : ¬ (i : Int) < (ts.length : Int) := by omega
          go_wp2_with fail
          go_ret
          exact ⟨rfl, HB4.out.trans (HB.out.mono HB4.out.size)⟩
end Go.Proofs.Ytpjbhdplginbaaa
