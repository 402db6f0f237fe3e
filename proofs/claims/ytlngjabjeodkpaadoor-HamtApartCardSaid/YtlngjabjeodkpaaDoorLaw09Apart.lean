/- Layer 9's law HamtApart, over package hamt as it landed. (written by tools/gen09/apart9.py) -/
import Derived.Test.YtlngjabjeodkpaaDoorLaw09B
namespace Go.Proofs.YtlngjabjeodkpaaDoor
open Go.RowKit
set_option maxRecDepth 1000000
set_option linter.unusedSimpArgs false

theorem ops9_lit {W : World} {g : Nat} {o : Op9} (h : W.heap[g]? = some (.cells (op9C o) 43 (0, 0))) : Ops9 W (.slice (some ⟨g, 0, none⟩) 1 1) [o] :=
  ⟨_, 1, g, 0, rfl, fun _ => rfl, fun j hj => by
    have hj0 : j = 0 := by simpa using hj
    subst hj0
    intro i v hv
    rw [Nat.zero_mul, Nat.zero_add]
    refine cell_in h ?_
    simpa using hv, by simp [maxLen]⟩
theorem get_do {L : List Ent} (hL : Rise L) (k : ByteArray) (x : Int) (q : Bool) : getE (doE L (k, x, q)) k = if q = true then none else some x := by
  unfold doE
  cases q with
  | true => exact get_del_same L k
  | false => exact get_ins_same L k x hL
theorem get_do_other {L : List Ent} (hL : Rise L) {k j : ByteArray} (x : Int) (q : Bool) (h : j ≠ k) : getE (doE L (k, x, q)) j = getE L j := by
  unfold doE
  cases q with
  | true => exact get_del_other h
  | false => exact get_ins_other hL x h
set_option maxHeartbeats 8000000 in
theorem hamtApart_of (s : Nat) (n : Int) (s2 : Nat) (n2 : Int) (va : Value) (l : List Op9) (o : Op9) (other : ByteArray) (w : World) (hss : s < 18446744073709551616) (hss2 : s2 < 18446744073709551616) (hl : Ops9 w va l) (hT : Tabs w) :
    Calls Tryd.prog 6 #[.agg #[.int .u64 (s : Int), .int .i64 n], .agg #[.int .u64 (s2 : Int), .int .i64 n2], va, .agg (op9C o), .string other] w fun e w' => e = .returned (.bool true) ∧ Below w.heap.size w w' := by
  obtain ⟨k, x, q⟩ := o
  have HTB := Lib.hid hT
  have HFEWl := Lib.hid (fun W (h : Below w.heap.size w W) => few9 va l W (hl.later h))
  have HFEWo : Hid (∀ W, Below w.heap.size w W → Calls Tryd.prog 8 #[.slice (some ⟨W.heap.size, 0, none⟩) 1 1] (W.alloc (.cells (op9C (k, x, q)) 43)) fun e w' => e = .returned (.bool (few9B [(k, x, q)])) ∧ Below (W.alloc (.cells (op9C (k, x, q)) 43)).heap.size (W.alloc (.cells (op9C (k, x, q)) 43)) w') := fun W _ => few9 _ _ _ (ops9_lit (heap_alloc_last W _))
  obtain ⟨adl, capl, bbl, ool, rfl, hl1, hl2, hl3⟩ := hl
  have HLl := Lib.hid (And.intro hl1 hl2)
  clear hT hl1 hl2 hl3
  by_cases hf1 : few9B l = true
  case neg =>
    rw [show few9B l = false by simpa using hf1] at HFEWl
    as_aux_lemma =>
    go_enter Tryd.func6, Tryd.ntmps6
    go_upto_region 1 with fail
    obtain ⟨w0, hw0⟩ : ∃ w0, ((w.alloc (.cells #[.int .u64 (s : Int), .int .i64 n] 24)).alloc (.cells #[.int .u64 (s2 : Int), .int .i64 n2] 24)).alloc (.cells (op9C (k, x, q)) 43) = w0 := ⟨_, rfl⟩
    obtain ⟨hb, hx, hy, hz, hs0⟩ := three_newG hw0
    have HC := Lib.hid hx
    have HE := Lib.hid hy
    have HO : Hid (w0.heap[w.heap.size + 1 + 1]? = some (.cells (op9C (k, x, q)) 43 (0, 0))) := hz
    have HB := Lib.hid hb
    rw [hw0]
    clear hx hy hz hb hw0 hs0
    go_wp2_with (first
      | (go_at_call 7; (with_reducible refine (live9 _ (HTB.out.later HB.out)).mono ?_); rintro e w1 ⟨rfl, hb⟩; replace HC := Lib.hid ((hb.block _ (Array.getElem?_eq_some_iff.1 HC.out).1).trans HC.out); replace HE := Lib.hid ((hb.block _ (Array.getElem?_eq_some_iff.1 HE.out).1).trans HE.out); replace HO := Lib.hid ((hb.block _ (Array.getElem?_eq_some_iff.1 HO.out).1).trans HO.out); replace HB := Lib.hid (HB.out.trans (hb.mono HB.out.size)); clear hb)
      | (go_at_call 8; (with_reducible refine (HFEWl.out _ HB.out).mono ?_); rintro e w1 ⟨rfl, hb⟩; replace HC := Lib.hid ((hb.block _ (Array.getElem?_eq_some_iff.1 HC.out).1).trans HC.out); replace HE := Lib.hid ((hb.block _ (Array.getElem?_eq_some_iff.1 HE.out).1).trans HE.out); replace HO := Lib.hid ((hb.block _ (Array.getElem?_eq_some_iff.1 HO.out).1).trans HO.out); replace HB := Lib.hid (HB.out.trans (hb.mono HB.out.size)); clear hb)
      | (go_at_call 8; (with_reducible refine (HFEWo.out _ HB.out).mono ?_); rintro e w1 ⟨rfl, hb'⟩; have hb := (Below.newly' _ _).trans (hb'.mono (Below.newly' _ _).size); replace HC := Lib.hid ((hb.block _ (Array.getElem?_eq_some_iff.1 HC.out).1).trans HC.out); replace HE := Lib.hid ((hb.block _ (Array.getElem?_eq_some_iff.1 HE.out).1).trans HE.out); replace HO := Lib.hid ((hb.block _ (Array.getElem?_eq_some_iff.1 HO.out).1).trans HO.out); replace HB := Lib.hid (HB.out.trans (hb.mono HB.out.size)); clear hb hb')
      | (refine ld_if (by rfl) 43 _ rfl (w.heap.size + 1 + 1) rfl 43 _ _ _ HO.out Tryd.underlying43 rfl op9_size ?_))
    go_ret
    exact ⟨rfl, HB.out⟩
  have HFl := Lib.hid (few9_ops hf1)
  rw [hf1] at HFEWl
  clear hf1
  by_cases hf2 : few9B [(k, x, q)] = true
  case neg =>
    rw [show few9B [(k, x, q)] = false by simpa using hf2] at HFEWo
    as_aux_lemma =>
    go_enter Tryd.func6, Tryd.ntmps6
    go_upto_region 1 with fail
    obtain ⟨w0, hw0⟩ : ∃ w0, ((w.alloc (.cells #[.int .u64 (s : Int), .int .i64 n] 24)).alloc (.cells #[.int .u64 (s2 : Int), .int .i64 n2] 24)).alloc (.cells (op9C (k, x, q)) 43) = w0 := ⟨_, rfl⟩
    obtain ⟨hb, hx, hy, hz, hs0⟩ := three_newG hw0
    have HC := Lib.hid hx
    have HE := Lib.hid hy
    have HO : Hid (w0.heap[w.heap.size + 1 + 1]? = some (.cells (op9C (k, x, q)) 43 (0, 0))) := hz
    have HB := Lib.hid hb
    rw [hw0]
    clear hx hy hz hb hw0 hs0
    go_wp2_with (first
      | (go_at_call 7; (with_reducible refine (live9 _ (HTB.out.later HB.out)).mono ?_); rintro e w1 ⟨rfl, hb⟩; replace HC := Lib.hid ((hb.block _ (Array.getElem?_eq_some_iff.1 HC.out).1).trans HC.out); replace HE := Lib.hid ((hb.block _ (Array.getElem?_eq_some_iff.1 HE.out).1).trans HE.out); replace HO := Lib.hid ((hb.block _ (Array.getElem?_eq_some_iff.1 HO.out).1).trans HO.out); replace HB := Lib.hid (HB.out.trans (hb.mono HB.out.size)); clear hb)
      | (go_at_call 8; (with_reducible refine (HFEWl.out _ HB.out).mono ?_); rintro e w1 ⟨rfl, hb⟩; replace HC := Lib.hid ((hb.block _ (Array.getElem?_eq_some_iff.1 HC.out).1).trans HC.out); replace HE := Lib.hid ((hb.block _ (Array.getElem?_eq_some_iff.1 HE.out).1).trans HE.out); replace HO := Lib.hid ((hb.block _ (Array.getElem?_eq_some_iff.1 HO.out).1).trans HO.out); replace HB := Lib.hid (HB.out.trans (hb.mono HB.out.size)); clear hb)
      | (go_at_call 8; (with_reducible refine (HFEWo.out _ HB.out).mono ?_); rintro e w1 ⟨rfl, hb'⟩; have hb := (Below.newly' _ _).trans (hb'.mono (Below.newly' _ _).size); replace HC := Lib.hid ((hb.block _ (Array.getElem?_eq_some_iff.1 HC.out).1).trans HC.out); replace HE := Lib.hid ((hb.block _ (Array.getElem?_eq_some_iff.1 HE.out).1).trans HE.out); replace HO := Lib.hid ((hb.block _ (Array.getElem?_eq_some_iff.1 HO.out).1).trans HO.out); replace HB := Lib.hid (HB.out.trans (hb.mono HB.out.size)); clear hb hb')
      | (refine ld_if (by rfl) 43 _ rfl (w.heap.size + 1 + 1) rfl 43 _ _ _ HO.out Tryd.underlying43 rfl op9_size ?_))
    go_ret
    exact ⟨rfl, HB.out⟩
  have HFo : Hid (k.size ≤ 200) := (few9_ops hf2).1 (k, x, q) (List.mem_singleton.2 rfl)
  rw [hf2] at HFEWo
  clear hf2
  by_cases hf3 : (other.size : Int) ≤ 200
  case neg =>
    have hf3' : (200 : Int) < (other.size : Int) := by omega
    clear hf3
    as_aux_lemma =>
    go_enter Tryd.func6, Tryd.ntmps6
    go_upto_region 1 with fail
    obtain ⟨w0, hw0⟩ : ∃ w0, ((w.alloc (.cells #[.int .u64 (s : Int), .int .i64 n] 24)).alloc (.cells #[.int .u64 (s2 : Int), .int .i64 n2] 24)).alloc (.cells (op9C (k, x, q)) 43) = w0 := ⟨_, rfl⟩
    obtain ⟨hb, hx, hy, hz, hs0⟩ := three_newG hw0
    have HC := Lib.hid hx
    have HE := Lib.hid hy
    have HO : Hid (w0.heap[w.heap.size + 1 + 1]? = some (.cells (op9C (k, x, q)) 43 (0, 0))) := hz
    have HB := Lib.hid hb
    rw [hw0]
    clear hx hy hz hb hw0 hs0
    go_wp2_with (first
      | (go_at_call 7; (with_reducible refine (live9 _ (HTB.out.later HB.out)).mono ?_); rintro e w1 ⟨rfl, hb⟩; replace HC := Lib.hid ((hb.block _ (Array.getElem?_eq_some_iff.1 HC.out).1).trans HC.out); replace HE := Lib.hid ((hb.block _ (Array.getElem?_eq_some_iff.1 HE.out).1).trans HE.out); replace HO := Lib.hid ((hb.block _ (Array.getElem?_eq_some_iff.1 HO.out).1).trans HO.out); replace HB := Lib.hid (HB.out.trans (hb.mono HB.out.size)); clear hb)
      | (go_at_call 8; (with_reducible refine (HFEWl.out _ HB.out).mono ?_); rintro e w1 ⟨rfl, hb⟩; replace HC := Lib.hid ((hb.block _ (Array.getElem?_eq_some_iff.1 HC.out).1).trans HC.out); replace HE := Lib.hid ((hb.block _ (Array.getElem?_eq_some_iff.1 HE.out).1).trans HE.out); replace HO := Lib.hid ((hb.block _ (Array.getElem?_eq_some_iff.1 HO.out).1).trans HO.out); replace HB := Lib.hid (HB.out.trans (hb.mono HB.out.size)); clear hb)
      | (go_at_call 8; (with_reducible refine (HFEWo.out _ HB.out).mono ?_); rintro e w1 ⟨rfl, hb'⟩; have hb := (Below.newly' _ _).trans (hb'.mono (Below.newly' _ _).size); replace HC := Lib.hid ((hb.block _ (Array.getElem?_eq_some_iff.1 HC.out).1).trans HC.out); replace HE := Lib.hid ((hb.block _ (Array.getElem?_eq_some_iff.1 HE.out).1).trans HE.out); replace HO := Lib.hid ((hb.block _ (Array.getElem?_eq_some_iff.1 HO.out).1).trans HO.out); replace HB := Lib.hid (HB.out.trans (hb.mono HB.out.size)); clear hb hb')
      | (refine ld_if (by rfl) 43 _ rfl (w.heap.size + 1 + 1) rfl 43 _ _ _ HO.out Tryd.underlying43 rfl op9_size ?_))
    go_ret
    exact ⟨rfl, HB.out⟩
  have HFt : Hid (other.size ≤ 200) := by show _ ≤ _; omega
  have hl120 : (l.length : Int) ≤ 120 := by have := HFl.out.2; omega
  go_enter Tryd.func6, Tryd.ntmps6
  go_upto_region 1 with fail
  obtain ⟨w0, hw0⟩ : ∃ w0, ((w.alloc (.cells #[.int .u64 (s : Int), .int .i64 n] 24)).alloc (.cells #[.int .u64 (s2 : Int), .int .i64 n2] 24)).alloc (.cells (op9C (k, x, q)) 43) = w0 := ⟨_, rfl⟩
  obtain ⟨hb, hx, hy, hz, hs0⟩ := three_newG hw0
  have HC := Lib.hid hx
  have HE := Lib.hid hy
  have HO : Hid (w0.heap[w.heap.size + 1 + 1]? = some (.cells (op9C (k, x, q)) 43 (0, 0))) := hz
  have HB := Lib.hid hb
  rw [hw0]
  clear hx hy hz hb hw0 hs0
  go_upto_region 3 with (first
      | (go_at_call 7; (with_reducible refine (live9 _ (HTB.out.later HB.out)).mono ?_); rintro e w1 ⟨rfl, hb⟩; replace HC := Lib.hid ((hb.block _ (Array.getElem?_eq_some_iff.1 HC.out).1).trans HC.out); replace HE := Lib.hid ((hb.block _ (Array.getElem?_eq_some_iff.1 HE.out).1).trans HE.out); replace HO := Lib.hid ((hb.block _ (Array.getElem?_eq_some_iff.1 HO.out).1).trans HO.out); replace HB := Lib.hid (HB.out.trans (hb.mono HB.out.size)); clear hb)
      | (go_at_call 8; (with_reducible refine (HFEWl.out _ HB.out).mono ?_); rintro e w1 ⟨rfl, hb⟩; replace HC := Lib.hid ((hb.block _ (Array.getElem?_eq_some_iff.1 HC.out).1).trans HC.out); replace HE := Lib.hid ((hb.block _ (Array.getElem?_eq_some_iff.1 HE.out).1).trans HE.out); replace HO := Lib.hid ((hb.block _ (Array.getElem?_eq_some_iff.1 HO.out).1).trans HO.out); replace HB := Lib.hid (HB.out.trans (hb.mono HB.out.size)); clear hb)
      | (go_at_call 8; (with_reducible refine (HFEWo.out _ HB.out).mono ?_); rintro e w1 ⟨rfl, hb'⟩; have hb := (Below.newly' _ _).trans (hb'.mono (Below.newly' _ _).size); replace HC := Lib.hid ((hb.block _ (Array.getElem?_eq_some_iff.1 HC.out).1).trans HC.out); replace HE := Lib.hid ((hb.block _ (Array.getElem?_eq_some_iff.1 HE.out).1).trans HE.out); replace HO := Lib.hid ((hb.block _ (Array.getElem?_eq_some_iff.1 HO.out).1).trans HO.out); replace HB := Lib.hid (HB.out.trans (hb.mono HB.out.size)); clear hb hb')
      | (refine ld_if (by rfl) 43 _ rfl (w.heap.size + 1 + 1) rfl 43 _ _ _ HO.out Tryd.underlying43 rfl op9_size ?_))
  have HD : Hid (w.heap.size + 1 + 1 < w1.heap.size) := (Array.getElem?_eq_some_iff.1 HO.out).1
  have HKS : Hid (∀ V, Below w1.heap.size w1 V → V.heap[w.heap.size]? = some (.cells #[.int .u64 (s : Int), .int .i64 n] 24 (0, 0)) ∧ V.heap[w.heap.size + 1]? = some (.cells #[.int .u64 (s2 : Int), .int .i64 n2] 24 (0, 0))) := fun V hV => ⟨(hV.block _ (Array.getElem?_eq_some_iff.1 HC.out).1).trans HC.out, (hV.block _ (Array.getElem?_eq_some_iff.1 HE.out).1).trans HE.out⟩
  have HW : Hid (Below w1.heap.size w1 w1.drew) := drawn_below w1
  refine wp_region_T (S := (fun V => V.heap[w.heap.size]? = some (.cells #[.int .u64 (s : Int), .int .i64 n] 24 (0, 0)) ∧ V.heap[w.heap.size + 1]? = some (.cells #[.int .u64 (s2 : Int), .int .i64 n2] 24 (0, 0)))) [6, 7] (by kernel_rfl) (by exact HKS.out _ HW.out) (fun hHeld => ?_)
  refine wpAnyT_take (i := 0) (oi := ⟨some 44, _, _, _, _, _⟩) (v := _) rfl (by kernel_rfl) (by kernel_rfl) (by kernel_rfl) (by kernel_rfl) (fun _ _ _ h => h) (yieldsIf_load_row (by rfl) 24 _ rfl w.heap.size rfl #[.int .u64 (s : Int), .int .i64 n] 24 (0, 0) _ (fun w hw => hw.1) Tryd.underlying24 rfl (by exact api_size)) (by assumption) ?_
  (try simp only [Act.put, List.setIfInBounds_toArray, List.set_cons_zero, List.set_cons_succ])
  refine wpAnyT_take (i := 2) (oi := ⟨some 46, _, _, _, _, _⟩) (v := _) rfl (by kernel_rfl) (by kernel_rfl) (by kernel_rfl) (by kernel_rfl) (fun _ _ _ h => h) (yieldsIf_load_row (by rfl) 24 _ rfl (w.heap.size + 1) rfl #[.int .u64 (s2 : Int), .int .i64 n2] 24 (0, 0) _ (fun w hw => hw.2) Tryd.underlying24 rfl (by exact api_size)) (by assumption) ?_
  (try simp only [Act.put, List.setIfInBounds_toArray, List.set_cons_zero, List.set_cons_succ])
  refine wpAnyT_groupA (n := 2) [1, 3, 4, 5] (fun a0 m b V => ∃ val : Nat → Value, b = ((((a0.put (some 45) (val 1)).put (some 47) (val 3)).put (some 11) (val 4)).put (some 12) (val 5)) ∧ Gr GotM 36 #[.int .u64 0, .int .i64 0, .int .i64 0, .int .u32 0, .slice none 0 0, .slice none 0 0] [4, 5] [(1, (s, n, [])), (3, (s2, n2, []))] w1.drew V m val) rfl (by kernel_rfl) ⟨fun _ => undef, rfl, Gr.start _⟩ (by assumption) ?step3 ?done3
  case step3 =>
    as_aux_lemma =>
    clear hHeld
    rintro m i b V hi - hw ⟨val, rfl, hG⟩ hS
    (try simp only [Act.put, List.setIfInBounds_toArray, List.set_cons_zero, List.set_cons_succ])
    have HG := Lib.hid hG
    clear hG hS hw
    rcases (by simp only [List.mem_cons, List.not_mem_nil, or_false] at hi; omega : i = 1 ∨ i = 3 ∨ i = 4 ∨ i = 5) with rfl | rfl | rfl | rfl
    · refine group_one (o := ⟨some 45, _, _, _, _, _⟩) rfl (fun K hK => ?_)
      go_simp
      go_at_call 9
      (with_reducible refine (hm_New V s n (fun _ => True)).mono ?_)
      rintro e V2 ⟨c, rfl, hr, hb⟩

      dsimp only
      refine hK.out _ _ (by exact HKS.out _ (HW.out.trans ((HG.out.bel.trans (hb.mono HG.out.bel.size)).mono HW.out.size))) ⟨_, rfl, Gr.call (R := GotM) (fun A B v x h hb => gotM_later h hb) HG.out hb (by decide) (fun g hg e => ?_)⟩
      · simp only [List.mem_cons, List.not_mem_nil, or_false] at hg
        rcases hg with rfl | rfl <;> first | (exfalso; simp at e; done) | exact ⟨_, rfl, hr⟩
    · refine group_one (o := ⟨some 47, _, _, _, _, _⟩) rfl (fun K hK => ?_)
      go_simp
      go_at_call 9
      (with_reducible refine (hm_New V s2 n2 (fun _ => True)).mono ?_)
      rintro e V2 ⟨c, rfl, hr, hb⟩

      dsimp only
      refine hK.out _ _ (by exact HKS.out _ (HW.out.trans ((HG.out.bel.trans (hb.mono HG.out.bel.size)).mono HW.out.size))) ⟨_, rfl, Gr.call (R := GotM) (fun A B v x h hb => gotM_later h hb) HG.out hb (by decide) (fun g hg e => ?_)⟩
      · simp only [List.mem_cons, List.not_mem_nil, or_false] at hg
        rcases hg with rfl | rfl <;> first | (exfalso; simp at e; done) | exact ⟨_, rfl, hr⟩
    · refine group_one (o := ⟨some 11, _, _, _, _, _⟩) rfl (fun K hK => ?_)
      go_simp
      refine hK.out _ _ (by exact HKS.out _ (HW.out.trans ((HG.out.bel.trans ((Below.newly' V _).mono HG.out.bel.size)).mono HW.out.size))) ⟨_, rfl, Gr.alloc (R := GotM) (gots := [(1, (s, n, [])), (3, (s2, n2, []))]) (fun A B v x h hb => gotM_later h hb) HG.out (fun g hg e => by simp only [List.mem_cons, List.not_mem_nil, or_false] at hg; rcases hg with rfl | rfl <;> (simp at e))⟩
    · refine group_one (o := ⟨some 12, _, _, _, _, _⟩) rfl (fun K hK => ?_)
      go_simp
      refine hK.out _ _ (by exact HKS.out _ (HW.out.trans ((HG.out.bel.trans ((Below.newly' V _).mono HG.out.bel.size)).mono HW.out.size))) ⟨_, rfl, Gr.alloc (R := GotM) (gots := [(1, (s, n, [])), (3, (s2, n2, []))]) (fun A B v x h hb => gotM_later h hb) HG.out (fun g hg e => by simp only [List.mem_cons, List.not_mem_nil, or_false] at hg; rcases hg with rfl | rfl <;> (simp at e))⟩
  case done3 =>
    clear hHeld
    rintro m b V hm ⟨val, rfl, hG⟩ -
    obtain ⟨X, e1, g1, z1⟩ := hG.made 4 (by decide) (hm 4 rfl)
    obtain ⟨X2, e2, g2, z2⟩ := hG.made 5 (by decide) (hm 5 rfl)
    have n12 : X ≠ X2 := fun e => hG.apart 4 (by decide) 5 (by decide) (hm 4 rfl) (hm 5 rfl) (by decide) (by rw [e1, e2, e])
    obtain ⟨cg1, f1, hr1⟩ := hG.got (1, (s, n, [])) (by simp) (hm 1 rfl)
    obtain ⟨cg2, f2, hr2⟩ := hG.got (3, (s2, n2, [])) (by simp) (hm 3 rfl)
    have HBL : Hid (Below w1.heap.size w1 V) := HW.out.trans (hG.bel.mono HW.out.size)
    rw [e1, e2, f1, f2]
    dsimp only at hr1 hr2
    have g1' : w1.heap.size ≤ X := g1
    have g2' : w1.heap.size ≤ X2 := g2
    have HRS1 := Lib.hid hr1
    have HRS2 := Lib.hid hr2
    have HNE := Lib.hid (And.intro n12 (And.intro g1' g2'))
    have HZV1 := Lib.hid z1
    have HZV2 := Lib.hid z2
    clear hG hm e1 e2 g1 g2 z1 z2 n12 g1' g2' f1 hr1 f2 hr2
    (try simp only [Act.put, List.setIfInBounds_toArray, List.set_cons_zero, List.set_cons_succ])
    have hml1 : ML V s n [] cg1 := HRS1.out
    have hml2 : ML V s2 n2 [] cg2 := HRS2.out
    refine wpAnyT_last (i := 6) (o := ⟨none, _, _, _, _, _⟩) (by kernel_rfl) (by decide) rfl (fun K hK => ?_)
    rw [if_pos (by rfl)]
    refine st_agg_wp 36 _ _ rfl X cg1 rfl rfl 36 #[.int .u64 0, .int .i64 0, .int .i64 0, .int .u32 0, .slice none 0 0, .slice none 0 0] (HZV1.out) (by rw [hml1.size]; exact map_size) (by rw [hml1.size]; rfl) hml1.one ?_
    intro wS1 hs1 ks1
    refine hK.out _ _ ?_
    clear hK K
    (try simp only [Act.put, List.setIfInBounds_toArray, List.set_cons_zero, List.set_cons_succ])
    have hz2 := ks1.other HZV2.out (fun e => HNE.out.1 e.symm)
    refine wpAnyT_last (i := 7) (o := ⟨none, _, _, _, _, _⟩) (by kernel_rfl) (by decide) rfl (fun K hK => ?_)
    rw [if_pos (by rfl)]
    refine st_agg_wp 36 _ _ rfl X2 cg2 rfl rfl 36 #[.int .u64 0, .int .i64 0, .int .i64 0, .int .u32 0, .slice none 0 0, .slice none 0 0] (hz2) (by rw [hml2.size]; exact map_size) (by rw [hml2.size]; rfl) hml2.one ?_
    intro wS2 hs2 ks2
    refine hK.out _ _ ?_
    clear hK K
    (try simp only [Act.put, List.setIfInBounds_toArray, List.set_cons_zero, List.set_cons_succ])
    refine wpAnyT_done (by kernel_rfl) ?_ _
    have HM : Hid (MB wS2 s n [] X) := MB.only (MB.wrote hs1 ks1 HZV1.out hml1) ks2 hz2 HNE.out.1 (by decide)
    have HN : Hid (MB wS2 s2 n2 [] X2) := MB.wrote hs2 ks2 hz2 (hml2.but ks1 HZV1.out (by decide))
    replace HO := Lib.hid ((HBL.out.block _ (Array.getElem?_eq_some_iff.1 HO.out).1).trans HO.out)
    replace HB := Lib.hid (HB.out.trans (HBL.out.mono HB.out.size))
    have HNE2 := HNE.out
    replace HO := Lib.hid (ks1.other HO.out (by have h := HD.out; have h2 := HNE.out; omega))
    replace HB := Lib.hid (HB.out.trans (ks1.below (by have h := HD.out; have h2 := HNE.out; omega)))
    replace HO := Lib.hid (ks2.other HO.out (by have h := HD.out; have h2 := HNE.out; omega))
    replace HB := Lib.hid (HB.out.trans (ks2.below (by have h := HD.out; have h2 := HNE.out; omega)))
    clear HKS HW HBL HZV1 HZV2 hz2 hs1 hs2 ks1 ks2 hml1 hml2 HNE2 HRS1 HRS2
    have HD0 : Hid (w.heap.size + 1 + 1 < X ∧ w.heap.size + 1 + 1 < X2 ∧ X ≠ X2) := by
      show _ ∧ _ ∧ _
      have h1 := HD.out
      have h2 := HNE.out
      omega
    clear HD HNE HC HE
    go_wp2_with fail
    go_loopw [50] (fun i wl => ∃ j : Nat, i = .int .i64 (j : Int) ∧ j ≤ l.length ∧ Hid (MB wl s n (runE [] (l.take j)) X) ∧ Hid (MB wl s2 n2 (runE [] (l.take j)) X2) ∧ Hid (wl.heap[w.heap.size + 1 + 1]? = some (.cells (op9C (k, x, q)) 43 (0, 0))) ∧ Hid (Below w.heap.size w wl)) (fun i _ => l.length - (intOf i).toNat)
    case atStart => exact ⟨0, rfl, Nat.zero_le _, HM, HN, HO, HB⟩
    case round =>
      clear HM HN HO HB
      obtain ⟨j, rfl, hj, HM, HN, HO, HB⟩ := hrel
      by_cases hlt : j < l.length
      · as_aux_lemma =>
        have hlt' : (j : Int) < (l.length : Int) := by omega
        have had : adl = some ⟨bbl, ool, none⟩ := HLl.out.1 (by omega)
        subst had
        have HOP := Lib.hid ((HLl.out.2 j hlt).later HB.out)
        have HRI := Lib.hid (run_rise l j)
        have HLN : Hid ((runE [] (l.take j)).length ≤ 40000) := by show _ ≤ _; have := run_len l j; have := HFl.out.2; omega
        have HKL := Lib.hid (HFl.out.1 _ (List.getElem_mem hlt))
        have HEA := Lib.hid (run_take l hlt)
        obtain ⟨o, ho⟩ : ∃ o, o = l[j] := ⟨_, rfl⟩
        obtain ⟨D, hD⟩ : ∃ D, D = runE [] (l.take j) := ⟨_, rfl⟩
        rw [← ho] at HOP HKL HEA
        rw [← hD] at HM HN HRI HLN HEA
        have HLT := Lib.hid hlt
        clear ho hD
        go_upto_region 7 with (refine ld_op9 (by rfl) _ rfl bbl (ool + j * 3) rfl o HOP.out ?_)
        obtain ⟨OB, hOB⟩ : ∃ OB, OB = wr.heap.size := ⟨_, rfl⟩
        have hb6 := Below.newly' wr (.cells (op9C o) 43)
        have HOB : Hid ((wr.alloc (.cells (op9C o) 43)).heap[OB]? = some (.cells (op9C o) 43 (0, 0))) := by show _ = _; rw [hOB]; exact heap_alloc_last _ _
        have HD : Hid (w.heap.size + 1 + 1 < X ∧ w.heap.size + 1 + 1 < X2 ∧ X ≠ X2 ∧ X < OB ∧ X2 < OB) := by
          show _ ∧ _ ∧ _ ∧ _ ∧ _
          rw [hOB]
          exact ⟨HD0.out.1, HD0.out.2.1, HD0.out.2.2, HM.out.lt, HN.out.lt⟩
        replace HM := Lib.hid (HM.out.later hb6)
        replace HN := Lib.hid (HN.out.later hb6)
        replace HO := Lib.hid ((hb6.block _ (Array.getElem?_eq_some_iff.1 HO.out).1).trans HO.out)
        replace HB := Lib.hid (HB.out.trans (hb6.mono HB.out.size))
        obtain ⟨w6, hw6⟩ : ∃ w6, wr.alloc (.cells (op9C o) 43) = w6 := ⟨_, rfl⟩
        rw [hw6] at HM HN HO HB HOB
        rw [hw6, ← hOB]
        have hO := HOB.out
        clear hb6 hw6 hOB HOP
        obtain ⟨cm1, hX1, hm1⟩ := HM.out
        have HZ1 := Lib.hid hm1.size
        obtain ⟨cm2, hX2, hm2⟩ := HN.out
        have HZ2 := Lib.hid hm2.size
        have HKS : Hid (∀ V, Below w6.heap.size w6 V → V.heap[X]? = some (.cells cm1 36 (0, 0)) ∧ V.heap[X2]? = some (.cells cm2 36 (0, 0)) ∧ V.heap[OB]? = some (.cells (op9C o) 43 (0, 0))) := fun V hV => ⟨(hV.block _ (Array.getElem?_eq_some_iff.1 hX1).1).trans hX1, (hV.block _ (Array.getElem?_eq_some_iff.1 hX2).1).trans hX2, (hV.block _ (Array.getElem?_eq_some_iff.1 hO).1).trans hO⟩
        have HDO1 := Lib.hid (fun W (hb : Below w6.heap.size w6 W) => does9 W s hss n D cm1 o (hm1.later hb) HRI.out HLN.out HKL.out (HTB.out.later (HB.out.trans (hb.mono HB.out.size))).1)
        have HDO2 := Lib.hid (fun W (hb : Below w6.heap.size w6 W) => does9 W s2 hss2 n2 D cm2 o (hm2.later hb) HRI.out HLN.out HKL.out (HTB.out.later (HB.out.trans (hb.mono HB.out.size))).1)
        clear hX1 hm1 hX2 hm2
        have HW : Hid (Below w6.heap.size w6 w6.drew) := drawn_below w6
        refine wp_region_T (S := (fun V => V.heap[X]? = some (.cells cm1 36 (0, 0)) ∧ V.heap[X2]? = some (.cells cm2 36 (0, 0)) ∧ V.heap[OB]? = some (.cells (op9C o) 43 (0, 0)))) [6, 7] (by kernel_rfl) (by exact HKS.out _ HW.out) (fun hHeld => ?_)
        refine wpAnyT_take (i := 0) (oi := ⟨some 54, _, _, _, _, _⟩) (v := _) rfl (by kernel_rfl) (by kernel_rfl) (by kernel_rfl) (by kernel_rfl) (fun _ _ _ h => h) (yieldsIf_load_row (by rfl) 36 _ rfl X rfl cm1 36 (0, 0) _ (fun w hw => hw.1) Tryd.underlying36 rfl (by rw [HZ1.out]; exact map_size)) (by assumption) ?_
        (try simp only [Act.put, List.setIfInBounds_toArray, List.set_cons_zero, List.set_cons_succ])
        refine wpAnyT_take (i := 1) (oi := ⟨some 55, _, _, _, _, _⟩) (v := _) rfl (by kernel_rfl) (by kernel_rfl) (by kernel_rfl) (by kernel_rfl) (fun _ _ _ h => h) (yieldsIf_load_row (by rfl) 43 _ rfl OB rfl (op9C o) 43 (0, 0) _ (fun w hw => hw.2.2) Tryd.underlying43 rfl (by exact op9_size)) (by assumption) ?_
        (try simp only [Act.put, List.setIfInBounds_toArray, List.set_cons_zero, List.set_cons_succ])
        refine wpAnyT_take (i := 3) (oi := ⟨some 57, _, _, _, _, _⟩) (v := _) rfl (by kernel_rfl) (by kernel_rfl) (by kernel_rfl) (by kernel_rfl) (fun _ _ _ h => h) (yieldsIf_load_row (by rfl) 36 _ rfl X2 rfl cm2 36 (0, 0) _ (fun w hw => hw.2.1) Tryd.underlying36 rfl (by rw [HZ2.out]; exact map_size)) (by assumption) ?_
        (try simp only [Act.put, List.setIfInBounds_toArray, List.set_cons_zero, List.set_cons_succ])
        refine wpAnyT_take (i := 4) (oi := ⟨some 58, _, _, _, _, _⟩) (v := _) rfl (by kernel_rfl) (by kernel_rfl) (by kernel_rfl) (by kernel_rfl) (fun _ _ _ h => h) (yieldsIf_load_row (by rfl) 43 _ rfl OB rfl (op9C o) 43 (0, 0) _ (fun w hw => hw.2.2) Tryd.underlying43 rfl (by exact op9_size)) (by assumption) ?_
        (try simp only [Act.put, List.setIfInBounds_toArray, List.set_cons_zero, List.set_cons_succ])
        refine wpAnyT_one (i := 2) (o := ⟨some 56, _, _, _, _, _⟩) (by kernel_rfl) rfl (fun K hK => ?_)
        go_simp
        go_at_call 10
        (with_reducible refine (HDO1.out _ (by exact HW.out)).mono ?_)
        rintro e wA1 ⟨cn1, rfl, hq, hb⟩
        have HQ1 := Lib.hid hq
        replace HW := Lib.hid (HW.out.trans (hb.mono HW.out.size))
        clear hq hb
        dsimp only
        refine hK.out _ _ (by exact HKS.out _ HW.out) (fun hHeld => ?_)
        clear hK K
        (try simp only [Act.put, List.setIfInBounds_toArray, List.set_cons_zero, List.set_cons_succ])
        refine wpAnyT_one (i := 5) (o := ⟨some 59, _, _, _, _, _⟩) (by kernel_rfl) rfl (fun K hK => ?_)
        go_simp
        go_at_call 10
        (with_reducible refine (HDO2.out _ (by exact HW.out)).mono ?_)
        rintro e wA2 ⟨cn2, rfl, hq, hb⟩
        have HQ2 := Lib.hid hq
        replace HQ1 := Lib.hid (HQ1.out.later hb)
        replace HW := Lib.hid (HW.out.trans (hb.mono HW.out.size))
        clear hq hb
        dsimp only
        refine hK.out _ _ (by exact HKS.out _ HW.out) (fun hHeld => ?_)
        clear hK K
        (try simp only [Act.put, List.setIfInBounds_toArray, List.set_cons_zero, List.set_cons_succ])
        refine wpAnyT_last (i := 6) (o := ⟨none, _, _, _, _, _⟩) (by kernel_rfl) (by decide) rfl (fun K hK => ?_)
        have hr1 := (HKS.out _ HW.out).1
        have hr2 := (HKS.out _ HW.out).2.1
        rw [if_pos (by rfl)]
        refine st_agg_wp 36 _ _ rfl X cn1 rfl rfl 36 _ hr1 (by rw [HQ1.out.size]; exact map_size) (by rw [HZ1.out, HQ1.out.size]) HQ1.out.one ?_
        intro wS1 hs1 ks1
        have hr2 := ks1.other hr2 (by have h := HD.out; omega)
        replace HQ2 := Lib.hid (HQ2.out.but ks1 hr1 (by decide))
        refine hK.out _ _ ?_
        clear hK K
        (try simp only [Act.put, List.setIfInBounds_toArray, List.set_cons_zero, List.set_cons_succ])
        refine wpAnyT_last (i := 7) (o := ⟨none, _, _, _, _, _⟩) (by kernel_rfl) (by decide) rfl (fun K hK => ?_)
        rw [if_pos (by rfl)]
        refine st_agg_wp 36 _ _ rfl X2 cn2 rfl rfl 36 _ hr2 (by rw [HQ2.out.size]; exact map_size) (by rw [HZ2.out, HQ2.out.size]) HQ2.out.one ?_
        intro wS2 hs2 ks2
        refine hK.out _ _ ?_
        clear hK K
        (try simp only [Act.put, List.setIfInBounds_toArray, List.set_cons_zero, List.set_cons_succ])
        refine wpAnyT_done (by kernel_rfl) ?_ _
        replace HO := Lib.hid ((HW.out.block _ (Array.getElem?_eq_some_iff.1 HO.out).1).trans HO.out)
        replace HB := Lib.hid (HB.out.trans (HW.out.mono HB.out.size))
        replace HO := Lib.hid (ks1.other HO.out (by have h := HD.out; omega))
        replace HB := Lib.hid (HB.out.trans (ks1.below (by have h := HD.out; omega)))
        replace HO := Lib.hid (ks2.other HO.out (by have h := HD.out; omega))
        replace HB := Lib.hid (HB.out.trans (ks2.below (by have h := HD.out; omega)))
        replace HM := Lib.hid ((MB.wrote hs1 ks1 hr1 HQ1.out).only ks2 hr2 (by have h := HD.out; omega) (by decide))
        replace HN := Lib.hid (MB.wrote hs2 ks2 hr2 HQ2.out)
        clear HKS HDO1 HQ1 HZ1 hs1 ks1 hr1 HDO2 HQ2 HZ2 hs2 ks2 hr2 HW hHeld
        go_wp2_with fail
        go_roundw
        case rel => exact ⟨j + 1, by simp, by have := HLT.out; omega, by rw [HEA.out]; exact HM, by rw [HEA.out]; exact HN, HO, HB⟩
        case measure => have := HLT.out; simp [intOf]; omega
      · obtain rfl : j = l.length := by omega
        have hRI := run_rise l l.length
        have hLN : (runE [] (l.take l.length)).length ≤ 120 := by have := run_len l l.length; have := HFl.out.2; omega
        obtain ⟨L, hL⟩ : ∃ L, L = runE [] (l.take l.length) := ⟨_, rfl⟩
        rw [← hL] at hRI hLN HM HN
        have HRL := Lib.hid (And.intro hRI hLN)
        have HRD := Lib.hid (And.intro (doE_rise hRI (k, x, q)) (Nat.le_trans (doE_len hRI (k, x, q)) (show L.length + 1 ≤ 121 by omega)))
        have HGD := Lib.hid (get_do hRI k x q)
        have HGO := Lib.hid (fun (h : other ≠ k) => get_do_other hRI x q h)
        clear hL hRI hLN
        go_upto_region 9 with fail
        have HD : Hid (w.heap.size + 1 + 1 < X ∧ w.heap.size + 1 + 1 < X2 ∧ X ≠ X2 ∧ X < wr.heap.size ∧ X2 < wr.heap.size) := ⟨HD0.out.1, HD0.out.2.1, HD0.out.2.2, HM.out.lt, HN.out.lt⟩
        obtain ⟨cm, hXm, hmm⟩ := HM.out
        obtain ⟨cn, hXn, hmn⟩ := HN.out
        have HXM := Lib.hid hXm
        have HXN := Lib.hid hXn
        have HMM := Lib.hid hmm
        have HMN := Lib.hid hmn
        have HSM := Lib.hid hmm.size
        have HSN := Lib.hid hmn.size
        clear hXm hXn hmm hmn
        have HKS : Hid (∀ V, Below wr.heap.size wr V → V.heap[X]? = some (.cells cm 36 (0, 0)) ∧ V.heap[X2]? = some (.cells cn 36 (0, 0)) ∧ V.heap[w.heap.size + 1 + 1]? = some (.cells (op9C (k, x, q)) 43 (0, 0))) := fun V hV => ⟨(hV.block _ (Array.getElem?_eq_some_iff.1 HXM.out).1).trans HXM.out, (hV.block _ (Array.getElem?_eq_some_iff.1 HXN.out).1).trans HXN.out, (hV.block _ (Array.getElem?_eq_some_iff.1 HO.out).1).trans HO.out⟩
        have HW : Hid (Below wr.heap.size wr wr.drew) := drawn_below wr
        refine wp_region_T (S := (fun V => V.heap[X]? = some (.cells cm 36 (0, 0)) ∧ V.heap[X2]? = some (.cells cn 36 (0, 0)) ∧ V.heap[w.heap.size + 1 + 1]? = some (.cells (op9C (k, x, q)) 43 (0, 0)))) [8, 9] (by kernel_rfl) (by exact HKS.out _ HW.out) (fun hHeld => ?_)
        refine wpAnyT_take (i := 0) (oi := ⟨some 61, _, _, _, _, _⟩) (v := _) rfl (by kernel_rfl) (by kernel_rfl) (by kernel_rfl) (by kernel_rfl) (fun _ _ _ h => h) (yieldsIf_load_row (by rfl) 36 _ rfl X rfl cm 36 (0, 0) _ (fun w hw => hw.1) Tryd.underlying36 rfl (by rw [HSM.out]; exact map_size)) (by assumption) ?_
        (try simp only [Act.put, List.setIfInBounds_toArray, List.set_cons_zero, List.set_cons_succ])
        refine wpAnyT_take (i := 1) (oi := ⟨some 62, _, _, _, _, _⟩) (v := _) rfl (by kernel_rfl) (by kernel_rfl) (by kernel_rfl) (by kernel_rfl) (fun _ _ _ h => h) (yieldsIf_load_row (by rfl) 43 _ rfl (w.heap.size + 1 + 1) rfl (op9C (k, x, q)) 43 (0, 0) _ (fun w hw => hw.2.2) Tryd.underlying43 rfl (by exact op9_size)) (by assumption) ?_
        (try simp only [Act.put, List.setIfInBounds_toArray, List.set_cons_zero, List.set_cons_succ])
        refine wpAnyT_take (i := 3) (oi := ⟨some 64, _, _, _, _, _⟩) (v := _) rfl (by kernel_rfl) (by kernel_rfl) (by kernel_rfl) (by kernel_rfl) (fun _ _ _ h => h) (yieldsIf_load_row (by rfl) 36 _ rfl X2 rfl cn 36 (0, 0) _ (fun w hw => hw.2.1) Tryd.underlying36 rfl (by rw [HSN.out]; exact map_size)) (by assumption) ?_
        (try simp only [Act.put, List.setIfInBounds_toArray, List.set_cons_zero, List.set_cons_succ])
        refine wpAnyT_take (i := 4) (oi := ⟨some 65, _, _, _, _, _⟩) (v := _) rfl (by kernel_rfl) (by kernel_rfl) (by kernel_rfl) (by kernel_rfl) (fun _ _ _ h => h) (yieldsIf_load_row (by rfl) 43 _ rfl (w.heap.size + 1 + 1) rfl (op9C (k, x, q)) 43 (0, 0) _ (fun w hw => hw.2.2) Tryd.underlying43 rfl (by exact op9_size)) (by assumption) ?_
        (try simp only [Act.put, List.setIfInBounds_toArray, List.set_cons_zero, List.set_cons_succ])
        refine wpAnyT_groupA (n := 2) [2, 5, 6, 7] (fun a0 m b V => ∃ val : Nat → Value, b = ((((a0.put (some 63) (val 2)).put (some 66) (val 5)).put (some 15) (val 6)).put (some 16) (val 7)) ∧ Gr GotM 36 #[.int .u64 0, .int .i64 0, .int .i64 0, .int .u32 0, .slice none 0 0, .slice none 0 0] [6, 7] [(2, (s, n, doE L (k, x, q))), (5, (s2, n2, doE L (k, x, q)))] wr.drew V m val) rfl (by kernel_rfl) ⟨fun _ => undef, rfl, Gr.start _⟩ (by assumption) ?step9 ?done9
        case step9 =>
          as_aux_lemma =>
          clear hHeld
          rintro m i b V hi - hw ⟨val, rfl, hG⟩ hS
          (try simp only [Act.put, List.setIfInBounds_toArray, List.set_cons_zero, List.set_cons_succ])
          have HG := Lib.hid hG
          clear hG hS hw
          rcases (by simp only [List.mem_cons, List.not_mem_nil, or_false] at hi; omega : i = 2 ∨ i = 5 ∨ i = 6 ∨ i = 7) with rfl | rfl | rfl | rfl
          · refine group_one (o := ⟨some 63, _, _, _, _, _⟩) rfl (fun K hK => ?_)
            go_simp
            go_at_call 10
            (with_reducible refine (does9 V s hss n L cm (k, x, q) (HMM.out.later (HW.out.trans (HG.out.bel.mono HW.out.size))) HRL.out.1 (by have := HRL.out.2; omega) HFo.out (HTB.out.later (HB.out.trans ((HW.out.trans (HG.out.bel.mono HW.out.size)).mono HB.out.size))).six).mono ?_)
            rintro e V2 ⟨c, rfl, hr, hb⟩

            dsimp only
            refine hK.out _ _ (by exact HKS.out _ (HW.out.trans ((HG.out.bel.trans (hb.mono HG.out.bel.size)).mono HW.out.size))) ⟨_, rfl, Gr.call (R := GotM) (fun A B v x h hb => gotM_later h hb) HG.out hb (by decide) (fun g hg e => ?_)⟩
            · simp only [List.mem_cons, List.not_mem_nil, or_false] at hg
              rcases hg with rfl | rfl <;> first | (exfalso; simp at e; done) | exact ⟨_, rfl, hr⟩
          · refine group_one (o := ⟨some 66, _, _, _, _, _⟩) rfl (fun K hK => ?_)
            go_simp
            go_at_call 10
            (with_reducible refine (does9 V s2 hss2 n2 L cn (k, x, q) (HMN.out.later (HW.out.trans (HG.out.bel.mono HW.out.size))) HRL.out.1 (by have := HRL.out.2; omega) HFo.out (HTB.out.later (HB.out.trans ((HW.out.trans (HG.out.bel.mono HW.out.size)).mono HB.out.size))).six).mono ?_)
            rintro e V2 ⟨c, rfl, hr, hb⟩

            dsimp only
            refine hK.out _ _ (by exact HKS.out _ (HW.out.trans ((HG.out.bel.trans (hb.mono HG.out.bel.size)).mono HW.out.size))) ⟨_, rfl, Gr.call (R := GotM) (fun A B v x h hb => gotM_later h hb) HG.out hb (by decide) (fun g hg e => ?_)⟩
            · simp only [List.mem_cons, List.not_mem_nil, or_false] at hg
              rcases hg with rfl | rfl <;> first | (exfalso; simp at e; done) | exact ⟨_, rfl, hr⟩
          · refine group_one (o := ⟨some 15, _, _, _, _, _⟩) rfl (fun K hK => ?_)
            go_simp
            refine hK.out _ _ (by exact HKS.out _ (HW.out.trans ((HG.out.bel.trans ((Below.newly' V _).mono HG.out.bel.size)).mono HW.out.size))) ⟨_, rfl, Gr.alloc (R := GotM) (gots := [(2, (s, n, doE L (k, x, q))), (5, (s2, n2, doE L (k, x, q)))]) (fun A B v x h hb => gotM_later h hb) HG.out (fun g hg e => by simp only [List.mem_cons, List.not_mem_nil, or_false] at hg; rcases hg with rfl | rfl <;> (simp at e))⟩
          · refine group_one (o := ⟨some 16, _, _, _, _, _⟩) rfl (fun K hK => ?_)
            go_simp
            refine hK.out _ _ (by exact HKS.out _ (HW.out.trans ((HG.out.bel.trans ((Below.newly' V _).mono HG.out.bel.size)).mono HW.out.size))) ⟨_, rfl, Gr.alloc (R := GotM) (gots := [(2, (s, n, doE L (k, x, q))), (5, (s2, n2, doE L (k, x, q)))]) (fun A B v x h hb => gotM_later h hb) HG.out (fun g hg e => by simp only [List.mem_cons, List.not_mem_nil, or_false] at hg; rcases hg with rfl | rfl <;> (simp at e))⟩
        case done9 =>
          clear hHeld
          rintro m b V hm ⟨val, rfl, hG⟩ -
          obtain ⟨P, e1, g1, z1⟩ := hG.made 6 (by decide) (hm 6 rfl)
          obtain ⟨Q, e2, g2, z2⟩ := hG.made 7 (by decide) (hm 7 rfl)
          have n12 : P ≠ Q := fun e => hG.apart 6 (by decide) 7 (by decide) (hm 6 rfl) (hm 7 rfl) (by decide) (by rw [e1, e2, e])
          obtain ⟨cg1, f1, hr1⟩ := hG.got (2, (s, n, doE L (k, x, q))) (by simp) (hm 2 rfl)
          obtain ⟨cg2, f2, hr2⟩ := hG.got (5, (s2, n2, doE L (k, x, q))) (by simp) (hm 5 rfl)
          have HBL : Hid (Below wr.heap.size wr V) := HW.out.trans (hG.bel.mono HW.out.size)
          rw [e1, e2, f1, f2]
          dsimp only at hr1 hr2
          have g1' : wr.heap.size ≤ P := g1
          have g2' : wr.heap.size ≤ Q := g2
          have HRS1 := Lib.hid hr1
          have HRS2 := Lib.hid hr2
          have HNE := Lib.hid (And.intro n12 (And.intro g1' g2'))
          have HZV1 := Lib.hid z1
          have HZV2 := Lib.hid z2
          clear hG hm e1 e2 g1 g2 z1 z2 n12 g1' g2' f1 hr1 f2 hr2
          (try simp only [Act.put, List.setIfInBounds_toArray, List.set_cons_zero, List.set_cons_succ])
          have hml1 : ML V s n (doE L (k, x, q)) cg1 := HRS1.out
          have hml2 : ML V s2 n2 (doE L (k, x, q)) cg2 := HRS2.out
          refine wpAnyT_last (i := 8) (o := ⟨none, _, _, _, _, _⟩) (by kernel_rfl) (by decide) rfl (fun K hK => ?_)
          rw [if_pos (by rfl)]
          refine st_agg_wp 36 _ _ rfl P cg1 rfl rfl 36 #[.int .u64 0, .int .i64 0, .int .i64 0, .int .u32 0, .slice none 0 0, .slice none 0 0] (HZV1.out) (by rw [hml1.size]; exact map_size) (by rw [hml1.size]; rfl) hml1.one ?_
          intro wS1 hs1 ks1
          refine hK.out _ _ ?_
          clear hK K
          (try simp only [Act.put, List.setIfInBounds_toArray, List.set_cons_zero, List.set_cons_succ])
          have hz2 := ks1.other HZV2.out (fun e => HNE.out.1 e.symm)
          refine wpAnyT_last (i := 9) (o := ⟨none, _, _, _, _, _⟩) (by kernel_rfl) (by decide) rfl (fun K hK => ?_)
          rw [if_pos (by rfl)]
          refine st_agg_wp 36 _ _ rfl Q cg2 rfl rfl 36 #[.int .u64 0, .int .i64 0, .int .i64 0, .int .u32 0, .slice none 0 0, .slice none 0 0] (hz2) (by rw [hml2.size]; exact map_size) (by rw [hml2.size]; rfl) hml2.one ?_
          intro wS2 hs2 ks2
          refine hK.out _ _ ?_
          clear hK K
          (try simp only [Act.put, List.setIfInBounds_toArray, List.set_cons_zero, List.set_cons_succ])
          refine wpAnyT_done (by kernel_rfl) ?_ _
          have HP : Hid (MB wS2 s n (doE L (k, x, q)) P) := MB.only (MB.wrote hs1 ks1 HZV1.out hml1) ks2 hz2 HNE.out.1 (by decide)
          have HQ : Hid (MB wS2 s2 n2 (doE L (k, x, q)) Q) := MB.wrote hs2 ks2 hz2 (hml2.but ks1 HZV1.out (by decide))
          replace HM := Lib.hid (HM.out.later HBL.out)
          replace HO := Lib.hid ((HBL.out.block _ (Array.getElem?_eq_some_iff.1 HO.out).1).trans HO.out)
          replace HB := Lib.hid (HB.out.trans (HBL.out.mono HB.out.size))
          have HNE2 := HNE.out
          replace HM := Lib.hid (HM.out.only ks1 HZV1.out (by have h := HD.out; have h2 := HNE.out; omega) (by decide))
          replace HO := Lib.hid (ks1.other HO.out (by have h := HD.out; have h2 := HNE.out; omega))
          replace HB := Lib.hid (HB.out.trans (ks1.below (by have h := HD.out; have h2 := HNE.out; omega)))
          replace HM := Lib.hid (HM.out.only ks2 hz2 (by have h := HD.out; have h2 := HNE.out; omega) (by decide))
          replace HO := Lib.hid (ks2.other HO.out (by have h := HD.out; have h2 := HNE.out; omega))
          replace HB := Lib.hid (HB.out.trans (ks2.below (by have h := HD.out; have h2 := HNE.out; omega)))
          clear HKS HW HBL HZV1 HZV2 hz2 hs1 hs2 ks1 ks2 hml1 hml2 HNE2 HRS1 HRS2
          obtain ⟨D, hD⟩ : ∃ D, D = doE L (k, x, q) := ⟨_, rfl⟩
          rw [← hD] at HP HQ HRD HGD HGO
          clear hD HXM HXN HMM HMN HSM HSN HN HD HD0 HNE
          obtain ⟨c1, hx1, hm1⟩ := HP.out
          obtain ⟨c2, hx2, hm2⟩ := HQ.out
          obtain ⟨c3, hx3, hm3⟩ := HM.out
          have HX1 := Lib.hid hx1
          have HL1 := Lib.hid hm1
          have HS1 := Lib.hid hm1.size
          have HX2 := Lib.hid hx2
          have HL2 := Lib.hid hm2
          have HS2 := Lib.hid hm2.size
          have HX3 := Lib.hid hx3
          have HL3 := Lib.hid hm3
          have HS3 := Lib.hid hm3.size
          clear hx1 hx2 hx3 hm1 hm2 hm3 HP HQ HM
          have ck0 : wS2.cell? ⟨w.heap.size + 1 + 1, 0, none⟩ = some (.string k) := cell_in HO.out rfl
          obtain ⟨g, hg⟩ : ∃ g, g = getE D k := ⟨_, rfl⟩
          obtain ⟨ho, hho⟩ : ∃ ho, ho = getE D other := ⟨_, rfl⟩
          obtain ⟨hy, hhy⟩ : ∃ hy, hy = getE L other := ⟨_, rfl⟩
          have hget1 := fun W (h : ML W s n D c1) => hm_Get W s hss n D c1 k (by have := HFo.out; omega) h HRD.out.1 (by have := HRD.out.2; omega)
          have hget2 := fun W (h : ML W s n L c3) => hm_Get W s hss n L c3 other (by have := HFt.out; omega) h HRL.out.1 (by have := HRL.out.2; omega)
          have hget3 := fun W (h : ML W s n D c1) => hm_Get W s hss n D c1 other (by have := HFt.out; omega) h HRD.out.1 (by have := HRD.out.2; omega)
          have hget4 := fun W (h : ML W s2 n2 D c2) => hm_Get W s2 hss2 n2 D c2 other (by have := HFt.out; omega) h HRD.out.1 (by have := HRD.out.2; omega)
          rw [← hg] at hget1 HGD
          rw [← hho] at hget3 hget4 HGO
          rw [← hhy] at hget2 HGO
          have HG1 := Lib.hid hget1
          have HG2 := Lib.hid hget2
          have HG3 := Lib.hid hget3
          have HG4 := Lib.hid hget4
          clear hg hho hhy hget1 hget2 hget3 hget4
          cases q with
          | true =>
            obtain rfl : g = none := HGD.out
            have h1 := HG1.out
            simp only [Option.getD_none, Option.isSome_none] at h1
            replace HG1 := Lib.hid h1
            clear h1
            have hlen : ∀ W, Calls Tryd.prog 19 #[.agg c1] W fun r w' => r = .returned (.int .i64 (D.length : Int)) ∧ Below W.heap.size W w' := fun W => by
              obtain ⟨bb, p1, q1, r1, p2, q2, r2, e, _⟩ := HL1.out
              rw [e]
              exact hm_Len W s n D.length bb p1 q1 r1 p2 q2 r2
            have hlen2 : ∀ W, Calls Tryd.prog 19 #[.agg c2] W fun r w' => r = .returned (.int .i64 (D.length : Int)) ∧ Below W.heap.size W w' := fun W => by
              obtain ⟨bb, p1, q1, r1, p2, q2, r2, e, _⟩ := HL2.out
              rw [e]
              exact hm_Len W s2 n2 D.length bb p1 q1 r1 p2 q2 r2
            have HLEN1 := Lib.hid hlen
            have HLEN2 := Lib.hid hlen2
            have HN5 : Hid (D.length ≤ 50000) := by show _ ≤ _; have := HRD.out.2; omega
            have HN6 : Hid ((keysE D).length ≤ 1000000) := by show _ ≤ _; rw [keysE_len]; have := HRD.out.2; omega
            clear hlen hlen2
            by_cases hk : other = k
            · have hkk : (other.toList == k.toList) = true := by rw [hk]; simp
              clear hk
              go_upto_region 11 with (first | (refine ld_if (by rfl) 36 _ rfl P rfl 36 _ _ _ HX1.out Tryd.underlying36 rfl (by rw [HS1.out]; exact map_size) ?_) | (go_at_call 17; (with_reducible refine (HG1.out _ HL1.out).mono ?_); rintro e wg1 ⟨rfl, hb⟩; replace HX1 := Lib.hid ((hb.block _ (Array.getElem?_eq_some_iff.1 HX1.out).1).trans HX1.out); replace HX2 := Lib.hid ((hb.block _ (Array.getElem?_eq_some_iff.1 HX2.out).1).trans HX2.out); replace HX3 := Lib.hid ((hb.block _ (Array.getElem?_eq_some_iff.1 HX3.out).1).trans HX3.out); replace HL1 := Lib.hid (HL1.out.later hb); replace HL2 := Lib.hid (HL2.out.later hb); replace HL3 := Lib.hid (HL3.out.later hb); replace HO := Lib.hid ((hb.block _ (Array.getElem?_eq_some_iff.1 HO.out).1).trans HO.out); replace HB := Lib.hid (HB.out.trans (hb.mono HB.out.size)); have ck0 : wg1.cell? ⟨w.heap.size + 1 + 1, 0, none⟩ = some (.string k) := cell_in HO.out rfl; have ck1 : wg1.cell? ⟨w.heap.size + 1 + 1, 1, none⟩ = some (.int .i64 x) := cell_in HO.out rfl; have ck2 : wg1.cell? ⟨w.heap.size + 1 + 1, 2, none⟩ = some (.bool true) := cell_in HO.out rfl; clear hb))
              clear HG1
              go_upto_region 13 with fail
              clear ck0 ck1 ck2
              go_upto_region 14 with (first | (refine ld_if (by rfl) 36 _ rfl X rfl 36 _ _ _ HX3.out Tryd.underlying36 rfl (by rw [HS3.out]; exact map_size) ?_) | (go_at_call 17; (with_reducible refine (HG2.out _ HL3.out).mono ?_); rintro e wg2 ⟨rfl, hb⟩; replace HX1 := Lib.hid ((hb.block _ (Array.getElem?_eq_some_iff.1 HX1.out).1).trans HX1.out); replace HX2 := Lib.hid ((hb.block _ (Array.getElem?_eq_some_iff.1 HX2.out).1).trans HX2.out); replace HX3 := Lib.hid ((hb.block _ (Array.getElem?_eq_some_iff.1 HX3.out).1).trans HX3.out); replace HL1 := Lib.hid (HL1.out.later hb); replace HL2 := Lib.hid (HL2.out.later hb); replace HL3 := Lib.hid (HL3.out.later hb); replace HO := Lib.hid ((hb.block _ (Array.getElem?_eq_some_iff.1 HO.out).1).trans HO.out); replace HB := Lib.hid (HB.out.trans (hb.mono HB.out.size)); have ck0 : wg2.cell? ⟨w.heap.size + 1 + 1, 0, none⟩ = some (.string k) := cell_in HO.out rfl; have ck1 : wg2.cell? ⟨w.heap.size + 1 + 1, 1, none⟩ = some (.int .i64 x) := cell_in HO.out rfl; have ck2 : wg2.cell? ⟨w.heap.size + 1 + 1, 2, none⟩ = some (.bool true) := cell_in HO.out rfl; clear hb))
              clear HG2 ck0 ck1 ck2
              go_upto_region 15 with (first | (refine ld_if (by rfl) 36 _ rfl P rfl 36 _ _ _ HX1.out Tryd.underlying36 rfl (by rw [HS1.out]; exact map_size) ?_) | (go_at_call 17; (with_reducible refine (HG3.out _ HL1.out).mono ?_); rintro e wg3 ⟨rfl, hb⟩; replace HX1 := Lib.hid ((hb.block _ (Array.getElem?_eq_some_iff.1 HX1.out).1).trans HX1.out); replace HX2 := Lib.hid ((hb.block _ (Array.getElem?_eq_some_iff.1 HX2.out).1).trans HX2.out); replace HX3 := Lib.hid ((hb.block _ (Array.getElem?_eq_some_iff.1 HX3.out).1).trans HX3.out); replace HL1 := Lib.hid (HL1.out.later hb); replace HL2 := Lib.hid (HL2.out.later hb); replace HL3 := Lib.hid (HL3.out.later hb); replace HO := Lib.hid ((hb.block _ (Array.getElem?_eq_some_iff.1 HO.out).1).trans HO.out); replace HB := Lib.hid (HB.out.trans (hb.mono HB.out.size)); have ck0 : wg3.cell? ⟨w.heap.size + 1 + 1, 0, none⟩ = some (.string k) := cell_in HO.out rfl; have ck1 : wg3.cell? ⟨w.heap.size + 1 + 1, 1, none⟩ = some (.int .i64 x) := cell_in HO.out rfl; have ck2 : wg3.cell? ⟨w.heap.size + 1 + 1, 2, none⟩ = some (.bool true) := cell_in HO.out rfl; clear hb))
              clear HG3
              go_upto_region 17 with fail
              clear ck0 ck1 ck2
              go_upto_region 18 with (first | (refine ld_if (by rfl) 36 _ rfl Q rfl 36 _ _ _ HX2.out Tryd.underlying36 rfl (by rw [HS2.out]; exact map_size) ?_) | (go_at_call 17; (with_reducible refine (HG4.out _ HL2.out).mono ?_); rintro e wg4 ⟨rfl, hb⟩; replace HX1 := Lib.hid ((hb.block _ (Array.getElem?_eq_some_iff.1 HX1.out).1).trans HX1.out); replace HX2 := Lib.hid ((hb.block _ (Array.getElem?_eq_some_iff.1 HX2.out).1).trans HX2.out); replace HX3 := Lib.hid ((hb.block _ (Array.getElem?_eq_some_iff.1 HX3.out).1).trans HX3.out); replace HL1 := Lib.hid (HL1.out.later hb); replace HL2 := Lib.hid (HL2.out.later hb); replace HL3 := Lib.hid (HL3.out.later hb); replace HO := Lib.hid ((hb.block _ (Array.getElem?_eq_some_iff.1 HO.out).1).trans HO.out); replace HB := Lib.hid (HB.out.trans (hb.mono HB.out.size)); have ck0 : wg4.cell? ⟨w.heap.size + 1 + 1, 0, none⟩ = some (.string k) := cell_in HO.out rfl; have ck1 : wg4.cell? ⟨w.heap.size + 1 + 1, 1, none⟩ = some (.int .i64 x) := cell_in HO.out rfl; have ck2 : wg4.cell? ⟨w.heap.size + 1 + 1, 2, none⟩ = some (.bool true) := cell_in HO.out rfl; clear hb))
              clear HG4
              have HKS : Hid (∀ V, Below wg4.heap.size wg4 V → V.heap[P]? = some (.cells c1 36 (0, 0)) ∧ V.heap[Q]? = some (.cells c2 36 (0, 0))) := fun V hV => ⟨(hV.block _ (Array.getElem?_eq_some_iff.1 HX1.out).1).trans HX1.out, (hV.block _ (Array.getElem?_eq_some_iff.1 HX2.out).1).trans HX2.out⟩
              have HW : Hid (Below wg4.heap.size wg4 wg4.drew) := drawn_below wg4
              replace HL1 := Lib.hid (HL1.out.later HW.out)
              replace HL2 := Lib.hid (HL2.out.later HW.out)
              clear HX1 HX2 HX3 HL3 HO ck0 ck1 ck2
              refine wp_region_T (S := (fun V => V.heap[P]? = some (.cells c1 36 (0, 0)) ∧ V.heap[Q]? = some (.cells c2 36 (0, 0)))) [] (by kernel_rfl) (by exact HKS.out _ HW.out) (fun hHeld => ?_)
              refine wpAnyT_take (i := 0) (oi := ⟨some 127, _, _, _, _, _⟩) (v := ?vg4_0) rfl (by kernel_rfl) (by kernel_rfl) (by kernel_rfl) (by kernel_rfl) (fun _ _ _ h => h) (Or.inl ⟨by rfl, ?hg4_0⟩) (by assumption) ?rg4_0
              case hg4_0 => (intro w hSw; (try dsimp only at hSw); first | (go_simp; done) | (go_simp; with_reducible rfl))
              (try simp only [Act.put, List.setIfInBounds_toArray, List.set_cons_zero, List.set_cons_succ])
              refine wpAnyT_take (i := 1) (oi := ⟨some 128, _, _, _, _, _⟩) (v := ?vg4_1) rfl (by kernel_rfl) (by kernel_rfl) (by kernel_rfl) (by kernel_rfl) (fun _ _ _ h => h) (Or.inl ⟨by rfl, ?hg4_1⟩) (by assumption) ?rg4_1
              case hg4_1 => (intro w hSw; (try dsimp only at hSw); first | (go_simp; done) | (go_simp; with_reducible rfl))
              (try simp only [Act.put, List.setIfInBounds_toArray, List.set_cons_zero, List.set_cons_succ])
              refine wpAnyT_take (i := 2) (oi := ⟨some 129, _, _, _, _, _⟩) (v := ?vg4_2) rfl (by kernel_rfl) (by kernel_rfl) (by kernel_rfl) (by kernel_rfl) (fun _ _ _ h => h) (Or.inl ⟨by rfl, ?hg4_2⟩) (by assumption) ?rg4_2
              case hg4_2 => (intro w hSw; (try dsimp only at hSw); first | (go_simp; done) | (go_simp; with_reducible rfl))
              (try simp only [Act.put, List.setIfInBounds_toArray, List.set_cons_zero, List.set_cons_succ])
              refine wpAnyT_take (i := 3) (oi := ⟨some 130, _, _, _, _, _⟩) (v := ?vg4_3) rfl (by kernel_rfl) (by kernel_rfl) (by kernel_rfl) (by kernel_rfl) (fun _ _ _ h => h) (Or.inl ⟨by rfl, ?hg4_3⟩) (by assumption) ?rg4_3
              case hg4_3 => (intro w hSw; (try dsimp only at hSw); first | (go_simp; done) | (go_simp; with_reducible rfl))
              (try simp only [Act.put, List.setIfInBounds_toArray, List.set_cons_zero, List.set_cons_succ])
              refine wpAnyT_take (i := 4) (oi := ⟨some 131, _, _, _, _, _⟩) (v := ?vg4_4) rfl (by kernel_rfl) (by kernel_rfl) (by kernel_rfl) (by kernel_rfl) (fun _ _ _ h => h) (Or.inl ⟨by rfl, ?hg4_4⟩) (by assumption) ?rg4_4
              case hg4_4 => (intro w hSw; (try dsimp only at hSw); first | (go_simp; done) | (go_simp; with_reducible rfl))
              (try simp only [Act.put, List.setIfInBounds_toArray, List.set_cons_zero, List.set_cons_succ])
              refine wpAnyT_take (i := 5) (oi := ⟨some 132, _, _, _, _, _⟩) (v := ?vg4_5) rfl (by kernel_rfl) (by kernel_rfl) (by kernel_rfl) (by kernel_rfl) (fun _ _ _ h => h) (Or.inl ⟨by rfl, ?hg4_5⟩) (by assumption) ?rg4_5
              case hg4_5 => (intro w hSw; (try dsimp only at hSw); first | (go_simp; done) | (go_simp; with_reducible rfl))
              (try simp only [Act.put, List.setIfInBounds_toArray, List.set_cons_zero, List.set_cons_succ])
              refine wpAnyT_take (i := 6) (oi := ⟨some 133, _, _, _, _, _⟩) (v := ?vg4_6) rfl (by kernel_rfl) (by kernel_rfl) (by kernel_rfl) (by kernel_rfl) (fun _ _ _ h => h) (Or.inl ⟨by rfl, ?hg4_6⟩) (by assumption) ?rg4_6
              case hg4_6 => (intro w hSw; (try dsimp only at hSw); first | (go_simp; done) | (go_simp; with_reducible rfl))
              (try simp only [Act.put, List.setIfInBounds_toArray, List.set_cons_zero, List.set_cons_succ])
              refine wpAnyT_take (i := 7) (oi := ⟨some 134, _, _, _, _, _⟩) (v := ?vg4_7) rfl (by kernel_rfl) (by kernel_rfl) (by kernel_rfl) (by kernel_rfl) (fun _ _ _ h => h) (Or.inl ⟨by rfl, ?hg4_7⟩) (by assumption) ?rg4_7
              case hg4_7 => (intro w hSw; (try dsimp only at hSw); first | (go_simp; done) | (go_simp; with_reducible rfl))
              (try simp only [Act.put, List.setIfInBounds_toArray, List.set_cons_zero, List.set_cons_succ])
              refine wpAnyT_take (i := 8) (oi := ⟨some 135, _, _, _, _, _⟩) (v := ?vg4_8) rfl (by kernel_rfl) (by kernel_rfl) (by kernel_rfl) (by kernel_rfl) (fun _ _ _ h => h) (Or.inl ⟨by rfl, ?hg4_8⟩) (by assumption) ?rg4_8
              case hg4_8 => (intro w hSw; (try dsimp only at hSw); first | (go_simp; done) | (go_simp; with_reducible rfl))
              (try simp only [Act.put, List.setIfInBounds_toArray, List.set_cons_zero, List.set_cons_succ])
              refine wpAnyT_take (i := 9) (oi := ⟨some 136, _, _, _, _, _⟩) (v := _) rfl (by kernel_rfl) (by kernel_rfl) (by kernel_rfl) (by kernel_rfl) (fun _ _ _ h => h) (yieldsIf_load_row (by rfl) 36 _ rfl P rfl c1 36 (0, 0) _ (fun w hw => hw.1) Tryd.underlying36 rfl (by rw [HS1.out]; exact map_size)) (by assumption) ?_
              (try simp only [Act.put, List.setIfInBounds_toArray, List.set_cons_zero, List.set_cons_succ])
              refine wpAnyT_take (i := 11) (oi := ⟨some 138, _, _, _, _, _⟩) (v := _) rfl (by kernel_rfl) (by kernel_rfl) (by kernel_rfl) (by kernel_rfl) (fun _ _ _ h => h) (yieldsIf_load_row (by rfl) 36 _ rfl Q rfl c2 36 (0, 0) _ (fun w hw => hw.2) Tryd.underlying36 rfl (by rw [HS2.out]; exact map_size)) (by assumption) ?_
              (try simp only [Act.put, List.setIfInBounds_toArray, List.set_cons_zero, List.set_cons_succ])
              refine wpAnyT_one (i := 10) (o := ⟨some 137, _, _, _, _, _⟩) (by kernel_rfl) rfl (fun K hK => ?_)
              go_simp
              go_at_call 19
              (with_reducible refine (HLEN1.out _).mono ?_)
              rintro e wz1 ⟨rfl, hb⟩
              replace HL1 := Lib.hid (HL1.out.later hb)
              replace HL2 := Lib.hid (HL2.out.later hb)
              replace HW := Lib.hid (HW.out.trans (hb.mono HW.out.size))
              clear hb
              dsimp only
              refine hK.out _ _ (by exact HKS.out _ HW.out) (fun hHeld => ?_)
              clear hK K
              (try simp only [Act.put, List.setIfInBounds_toArray, List.set_cons_zero, List.set_cons_succ])
              refine wpAnyT_one (i := 12) (o := ⟨some 139, _, _, _, _, _⟩) (by kernel_rfl) rfl (fun K hK => ?_)
              go_simp
              go_at_call 19
              (with_reducible refine (HLEN2.out _).mono ?_)
              rintro e wz2 ⟨rfl, hb⟩
              replace HL1 := Lib.hid (HL1.out.later hb)
              replace HL2 := Lib.hid (HL2.out.later hb)
              replace HW := Lib.hid (HW.out.trans (hb.mono HW.out.size))
              clear hb
              dsimp only
              refine hK.out _ _ (by exact HKS.out _ HW.out) (fun hHeld => ?_)
              clear hK K
              (try simp only [Act.put, List.setIfInBounds_toArray, List.set_cons_zero, List.set_cons_succ])
              refine wpAnyT_take (i := 13) (oi := ⟨some 140, _, _, _, _, _⟩) (v := ?vg4_13) rfl (by kernel_rfl) (by kernel_rfl) (by kernel_rfl) (by kernel_rfl) (fun _ _ _ h => h) (Or.inl ⟨by rfl, ?hg4_13⟩) (by assumption) ?rg4_13
              case hg4_13 => (intro w hSw; (try dsimp only at hSw); first | (go_simp; done) | (go_simp; with_reducible rfl))
              (try simp only [Act.put, List.setIfInBounds_toArray, List.set_cons_zero, List.set_cons_succ])
              refine wpAnyT_take (i := 14) (oi := ⟨some 141, _, _, _, _, _⟩) (v := ?vg4_14) rfl (by kernel_rfl) (by kernel_rfl) (by kernel_rfl) (by kernel_rfl) (fun _ _ _ h => h) (Or.inl ⟨by rfl, ?hg4_14⟩) (by assumption) ?rg4_14
              case hg4_14 => (intro w hSw; (try dsimp only at hSw); first | (go_simp; done) | (go_simp; with_reducible rfl))
              (try simp only [Act.put, List.setIfInBounds_toArray, List.set_cons_zero, List.set_cons_succ])
              refine wpAnyT_take (i := 15) (oi := ⟨some 142, _, _, _, _, _⟩) (v := ?vg4_15) rfl (by kernel_rfl) (by kernel_rfl) (by kernel_rfl) (by kernel_rfl) (fun _ _ _ h => h) (Or.inl ⟨by rfl, ?hg4_15⟩) (by assumption) ?rg4_15
              case hg4_15 => (intro w hSw; (try dsimp only at hSw); first | (go_simp; done) | (go_simp; with_reducible rfl))
              (try simp only [Act.put, List.setIfInBounds_toArray, List.set_cons_zero, List.set_cons_succ])
              refine wpAnyT_take (i := 16) (oi := ⟨some 143, _, _, _, _, _⟩) (v := _) rfl (by kernel_rfl) (by kernel_rfl) (by kernel_rfl) (by kernel_rfl) (fun _ _ _ h => h) (yieldsIf_load_row (by rfl) 36 _ rfl P rfl c1 36 (0, 0) _ (fun w hw => hw.1) Tryd.underlying36 rfl (by rw [HS1.out]; exact map_size)) (by assumption) ?_
              (try simp only [Act.put, List.setIfInBounds_toArray, List.set_cons_zero, List.set_cons_succ])
              refine wpAnyT_take (i := 18) (oi := ⟨some 145, _, _, _, _, _⟩) (v := _) rfl (by kernel_rfl) (by kernel_rfl) (by kernel_rfl) (by kernel_rfl) (fun _ _ _ h => h) (yieldsIf_load_row (by rfl) 36 _ rfl Q rfl c2 36 (0, 0) _ (fun w hw => hw.2) Tryd.underlying36 rfl (by rw [HS2.out]; exact map_size)) (by assumption) ?_
              (try simp only [Act.put, List.setIfInBounds_toArray, List.set_cons_zero, List.set_cons_succ])
              refine wpAnyT_one (i := 17) (o := ⟨some 144, _, _, _, _, _⟩) (by kernel_rfl) rfl (fun K hK => ?_)
              go_simp
              go_at_call 14
              (with_reducible refine (ml_Keys wz2 s n D c1 HL1.out HRD.out.1 HN5.out (HTB.out.later (HB.out.trans (HW.out.mono HB.out.size))).six).mono ?_)
              rintro e wz3 ⟨v3, rfl, hk3, hb⟩
              have HK3 := Lib.hid hk3
              clear hk3
              replace HL1 := Lib.hid (HL1.out.later hb)
              replace HL2 := Lib.hid (HL2.out.later hb)
              replace HW := Lib.hid (HW.out.trans (hb.mono HW.out.size))
              clear hb
              dsimp only
              refine hK.out _ _ (by exact HKS.out _ HW.out) (fun hHeld => ?_)
              clear hK K
              (try simp only [Act.put, List.setIfInBounds_toArray, List.set_cons_zero, List.set_cons_succ])
              refine wpAnyT_one (i := 19) (o := ⟨some 146, _, _, _, _, _⟩) (by kernel_rfl) rfl (fun K hK => ?_)
              go_simp
              go_at_call 14
              (with_reducible refine (ml_Keys wz3 s2 n2 D c2 HL2.out HRD.out.1 HN5.out (HTB.out.later (HB.out.trans (HW.out.mono HB.out.size))).six).mono ?_)
              rintro e wz4 ⟨v4, rfl, hk4, hb⟩
              have HK4 := Lib.hid hk4
              replace HK3 := Lib.hid (HK3.out.later hb)
              clear hk4
              replace HL1 := Lib.hid (HL1.out.later hb)
              replace HL2 := Lib.hid (HL2.out.later hb)
              replace HW := Lib.hid (HW.out.trans (hb.mono HW.out.size))
              clear hb
              dsimp only
              refine hK.out _ _ (by exact HKS.out _ HW.out) (fun hHeld => ?_)
              clear hK K
              (try simp only [Act.put, List.setIfInBounds_toArray, List.set_cons_zero, List.set_cons_succ])
              refine wpAnyT_one (i := 20) (o := ⟨some 147, _, _, _, _, _⟩) (by kernel_rfl) rfl (fun K hK => ?_)
              go_simp
              go_at_call 15
              (with_reducible refine (ref_Words9 v3 v4 (keysE D) wz4 HK3.out.cutS HK4.out.cutS HN6.out).mono ?_)
              rintro e wz5 ⟨rfl, hb⟩
              replace HL1 := Lib.hid (HL1.out.later hb)
              replace HL2 := Lib.hid (HL2.out.later hb)
              replace HW := Lib.hid (HW.out.trans (hb.mono HW.out.size))
              clear hb
              dsimp only
              refine hK.out _ _ (by exact HKS.out _ HW.out) (fun hHeld => ?_)
              clear hK K
              (try simp only [Act.put, List.setIfInBounds_toArray, List.set_cons_zero, List.set_cons_succ])
              refine wpAnyT_take (i := 21) (oi := ⟨some 148, _, _, _, _, _⟩) (v := ?vg4_21) rfl (by kernel_rfl) (by kernel_rfl) (by kernel_rfl) (by kernel_rfl) (fun _ _ _ h => h) (Or.inl ⟨by rfl, ?hg4_21⟩) (by assumption) ?rg4_21
              case hg4_21 => (intro w hSw; (try dsimp only at hSw); first | (go_simp; done) | (go_simp; with_reducible rfl))
              (try simp only [Act.put, List.setIfInBounds_toArray, List.set_cons_zero, List.set_cons_succ])
              refine wpAnyT_take (i := 22) (oi := ⟨some 10, _, _, _, _, _⟩) (v := ?vg4_22) rfl (by kernel_rfl) (by kernel_rfl) (by kernel_rfl) (by kernel_rfl) (fun _ _ _ h => h) (Or.inl ⟨by rfl, ?hg4_22⟩) (by assumption) ?rg4_22
              case hg4_22 => (intro w hSw; (try dsimp only at hSw); first | (go_simp; done) | (go_simp; with_reducible rfl))
              (try simp only [Act.put, List.setIfInBounds_toArray, List.set_cons_zero, List.set_cons_succ])
              refine wpAnyT_done (by kernel_rfl) ?_ _
              go_wp2_with fail
              go_ret
              exact ⟨rfl, HB.out.trans (HW.out.mono HB.out.size)⟩
            · have hkk : (other.toList == k.toList) = false := beq_eq_false_iff_ne.2 fun h => hk (kb_inj (by rw [ByteArray.toList_eq, ByteArray.toList_eq] at h; exact h))
              obtain rfl : ho = hy := HGO.out hk
              clear hk
              go_upto_region 11 with (first | (refine ld_if (by rfl) 36 _ rfl P rfl 36 _ _ _ HX1.out Tryd.underlying36 rfl (by rw [HS1.out]; exact map_size) ?_) | (go_at_call 17; (with_reducible refine (HG1.out _ HL1.out).mono ?_); rintro e wg1 ⟨rfl, hb⟩; replace HX1 := Lib.hid ((hb.block _ (Array.getElem?_eq_some_iff.1 HX1.out).1).trans HX1.out); replace HX2 := Lib.hid ((hb.block _ (Array.getElem?_eq_some_iff.1 HX2.out).1).trans HX2.out); replace HX3 := Lib.hid ((hb.block _ (Array.getElem?_eq_some_iff.1 HX3.out).1).trans HX3.out); replace HL1 := Lib.hid (HL1.out.later hb); replace HL2 := Lib.hid (HL2.out.later hb); replace HL3 := Lib.hid (HL3.out.later hb); replace HO := Lib.hid ((hb.block _ (Array.getElem?_eq_some_iff.1 HO.out).1).trans HO.out); replace HB := Lib.hid (HB.out.trans (hb.mono HB.out.size)); have ck0 : wg1.cell? ⟨w.heap.size + 1 + 1, 0, none⟩ = some (.string k) := cell_in HO.out rfl; have ck1 : wg1.cell? ⟨w.heap.size + 1 + 1, 1, none⟩ = some (.int .i64 x) := cell_in HO.out rfl; have ck2 : wg1.cell? ⟨w.heap.size + 1 + 1, 2, none⟩ = some (.bool true) := cell_in HO.out rfl; clear hb))
              clear HG1
              go_upto_region 13 with fail
              clear ck0 ck1 ck2
              go_upto_region 14 with (first | (refine ld_if (by rfl) 36 _ rfl X rfl 36 _ _ _ HX3.out Tryd.underlying36 rfl (by rw [HS3.out]; exact map_size) ?_) | (go_at_call 17; (with_reducible refine (HG2.out _ HL3.out).mono ?_); rintro e wg2 ⟨rfl, hb⟩; replace HX1 := Lib.hid ((hb.block _ (Array.getElem?_eq_some_iff.1 HX1.out).1).trans HX1.out); replace HX2 := Lib.hid ((hb.block _ (Array.getElem?_eq_some_iff.1 HX2.out).1).trans HX2.out); replace HX3 := Lib.hid ((hb.block _ (Array.getElem?_eq_some_iff.1 HX3.out).1).trans HX3.out); replace HL1 := Lib.hid (HL1.out.later hb); replace HL2 := Lib.hid (HL2.out.later hb); replace HL3 := Lib.hid (HL3.out.later hb); replace HO := Lib.hid ((hb.block _ (Array.getElem?_eq_some_iff.1 HO.out).1).trans HO.out); replace HB := Lib.hid (HB.out.trans (hb.mono HB.out.size)); have ck0 : wg2.cell? ⟨w.heap.size + 1 + 1, 0, none⟩ = some (.string k) := cell_in HO.out rfl; have ck1 : wg2.cell? ⟨w.heap.size + 1 + 1, 1, none⟩ = some (.int .i64 x) := cell_in HO.out rfl; have ck2 : wg2.cell? ⟨w.heap.size + 1 + 1, 2, none⟩ = some (.bool true) := cell_in HO.out rfl; clear hb))
              clear HG2 ck0 ck1 ck2
              go_upto_region 15 with (first | (refine ld_if (by rfl) 36 _ rfl P rfl 36 _ _ _ HX1.out Tryd.underlying36 rfl (by rw [HS1.out]; exact map_size) ?_) | (go_at_call 17; (with_reducible refine (HG3.out _ HL1.out).mono ?_); rintro e wg3 ⟨rfl, hb⟩; replace HX1 := Lib.hid ((hb.block _ (Array.getElem?_eq_some_iff.1 HX1.out).1).trans HX1.out); replace HX2 := Lib.hid ((hb.block _ (Array.getElem?_eq_some_iff.1 HX2.out).1).trans HX2.out); replace HX3 := Lib.hid ((hb.block _ (Array.getElem?_eq_some_iff.1 HX3.out).1).trans HX3.out); replace HL1 := Lib.hid (HL1.out.later hb); replace HL2 := Lib.hid (HL2.out.later hb); replace HL3 := Lib.hid (HL3.out.later hb); replace HO := Lib.hid ((hb.block _ (Array.getElem?_eq_some_iff.1 HO.out).1).trans HO.out); replace HB := Lib.hid (HB.out.trans (hb.mono HB.out.size)); have ck0 : wg3.cell? ⟨w.heap.size + 1 + 1, 0, none⟩ = some (.string k) := cell_in HO.out rfl; have ck1 : wg3.cell? ⟨w.heap.size + 1 + 1, 1, none⟩ = some (.int .i64 x) := cell_in HO.out rfl; have ck2 : wg3.cell? ⟨w.heap.size + 1 + 1, 2, none⟩ = some (.bool true) := cell_in HO.out rfl; clear hb))
              clear HG3
              go_upto_region 17 with fail
              clear ck0 ck1 ck2
              go_upto_region 18 with (first | (refine ld_if (by rfl) 36 _ rfl Q rfl 36 _ _ _ HX2.out Tryd.underlying36 rfl (by rw [HS2.out]; exact map_size) ?_) | (go_at_call 17; (with_reducible refine (HG4.out _ HL2.out).mono ?_); rintro e wg4 ⟨rfl, hb⟩; replace HX1 := Lib.hid ((hb.block _ (Array.getElem?_eq_some_iff.1 HX1.out).1).trans HX1.out); replace HX2 := Lib.hid ((hb.block _ (Array.getElem?_eq_some_iff.1 HX2.out).1).trans HX2.out); replace HX3 := Lib.hid ((hb.block _ (Array.getElem?_eq_some_iff.1 HX3.out).1).trans HX3.out); replace HL1 := Lib.hid (HL1.out.later hb); replace HL2 := Lib.hid (HL2.out.later hb); replace HL3 := Lib.hid (HL3.out.later hb); replace HO := Lib.hid ((hb.block _ (Array.getElem?_eq_some_iff.1 HO.out).1).trans HO.out); replace HB := Lib.hid (HB.out.trans (hb.mono HB.out.size)); have ck0 : wg4.cell? ⟨w.heap.size + 1 + 1, 0, none⟩ = some (.string k) := cell_in HO.out rfl; have ck1 : wg4.cell? ⟨w.heap.size + 1 + 1, 1, none⟩ = some (.int .i64 x) := cell_in HO.out rfl; have ck2 : wg4.cell? ⟨w.heap.size + 1 + 1, 2, none⟩ = some (.bool true) := cell_in HO.out rfl; clear hb))
              clear HG4
              have HKS : Hid (∀ V, Below wg4.heap.size wg4 V → V.heap[P]? = some (.cells c1 36 (0, 0)) ∧ V.heap[Q]? = some (.cells c2 36 (0, 0))) := fun V hV => ⟨(hV.block _ (Array.getElem?_eq_some_iff.1 HX1.out).1).trans HX1.out, (hV.block _ (Array.getElem?_eq_some_iff.1 HX2.out).1).trans HX2.out⟩
              have HW : Hid (Below wg4.heap.size wg4 wg4.drew) := drawn_below wg4
              replace HL1 := Lib.hid (HL1.out.later HW.out)
              replace HL2 := Lib.hid (HL2.out.later HW.out)
              clear HX1 HX2 HX3 HL3 HO ck0 ck1 ck2
              refine wp_region_T (S := (fun V => V.heap[P]? = some (.cells c1 36 (0, 0)) ∧ V.heap[Q]? = some (.cells c2 36 (0, 0)))) [] (by kernel_rfl) (by exact HKS.out _ HW.out) (fun hHeld => ?_)
              refine wpAnyT_take (i := 0) (oi := ⟨some 127, _, _, _, _, _⟩) (v := ?vg5_0) rfl (by kernel_rfl) (by kernel_rfl) (by kernel_rfl) (by kernel_rfl) (fun _ _ _ h => h) (Or.inl ⟨by rfl, ?hg5_0⟩) (by assumption) ?rg5_0
              case hg5_0 => (intro w hSw; (try dsimp only at hSw); first | (go_simp; done) | (go_simp; with_reducible rfl))
              (try simp only [Act.put, List.setIfInBounds_toArray, List.set_cons_zero, List.set_cons_succ])
              refine wpAnyT_take (i := 1) (oi := ⟨some 128, _, _, _, _, _⟩) (v := ?vg5_1) rfl (by kernel_rfl) (by kernel_rfl) (by kernel_rfl) (by kernel_rfl) (fun _ _ _ h => h) (Or.inl ⟨by rfl, ?hg5_1⟩) (by assumption) ?rg5_1
              case hg5_1 => (intro w hSw; (try dsimp only at hSw); first | (go_simp; done) | (go_simp; with_reducible rfl))
              (try simp only [Act.put, List.setIfInBounds_toArray, List.set_cons_zero, List.set_cons_succ])
              refine wpAnyT_take (i := 2) (oi := ⟨some 129, _, _, _, _, _⟩) (v := ?vg5_2) rfl (by kernel_rfl) (by kernel_rfl) (by kernel_rfl) (by kernel_rfl) (fun _ _ _ h => h) (Or.inl ⟨by rfl, ?hg5_2⟩) (by assumption) ?rg5_2
              case hg5_2 => (intro w hSw; (try dsimp only at hSw); first | (go_simp; done) | (go_simp; with_reducible rfl))
              (try simp only [Act.put, List.setIfInBounds_toArray, List.set_cons_zero, List.set_cons_succ])
              refine wpAnyT_take (i := 3) (oi := ⟨some 130, _, _, _, _, _⟩) (v := ?vg5_3) rfl (by kernel_rfl) (by kernel_rfl) (by kernel_rfl) (by kernel_rfl) (fun _ _ _ h => h) (Or.inl ⟨by rfl, ?hg5_3⟩) (by assumption) ?rg5_3
              case hg5_3 => (intro w hSw; (try dsimp only at hSw); first | (go_simp; done) | (go_simp; with_reducible rfl))
              (try simp only [Act.put, List.setIfInBounds_toArray, List.set_cons_zero, List.set_cons_succ])
              refine wpAnyT_take (i := 4) (oi := ⟨some 131, _, _, _, _, _⟩) (v := ?vg5_4) rfl (by kernel_rfl) (by kernel_rfl) (by kernel_rfl) (by kernel_rfl) (fun _ _ _ h => h) (Or.inl ⟨by rfl, ?hg5_4⟩) (by assumption) ?rg5_4
              case hg5_4 => (intro w hSw; (try dsimp only at hSw); first | (go_simp; done) | (go_simp; with_reducible rfl))
              (try simp only [Act.put, List.setIfInBounds_toArray, List.set_cons_zero, List.set_cons_succ])
              refine wpAnyT_take (i := 5) (oi := ⟨some 132, _, _, _, _, _⟩) (v := ?vg5_5) rfl (by kernel_rfl) (by kernel_rfl) (by kernel_rfl) (by kernel_rfl) (fun _ _ _ h => h) (Or.inl ⟨by rfl, ?hg5_5⟩) (by assumption) ?rg5_5
              case hg5_5 => (intro w hSw; (try dsimp only at hSw); first | (go_simp; done) | (go_simp; with_reducible rfl))
              (try simp only [Act.put, List.setIfInBounds_toArray, List.set_cons_zero, List.set_cons_succ])
              refine wpAnyT_take (i := 6) (oi := ⟨some 133, _, _, _, _, _⟩) (v := ?vg5_6) rfl (by kernel_rfl) (by kernel_rfl) (by kernel_rfl) (by kernel_rfl) (fun _ _ _ h => h) (Or.inl ⟨by rfl, ?hg5_6⟩) (by assumption) ?rg5_6
              case hg5_6 => (intro w hSw; (try dsimp only at hSw); first | (go_simp; done) | (go_simp; with_reducible rfl))
              (try simp only [Act.put, List.setIfInBounds_toArray, List.set_cons_zero, List.set_cons_succ])
              refine wpAnyT_take (i := 7) (oi := ⟨some 134, _, _, _, _, _⟩) (v := ?vg5_7) rfl (by kernel_rfl) (by kernel_rfl) (by kernel_rfl) (by kernel_rfl) (fun _ _ _ h => h) (Or.inl ⟨by rfl, ?hg5_7⟩) (by assumption) ?rg5_7
              case hg5_7 => (intro w hSw; (try dsimp only at hSw); first | (go_simp; done) | (go_simp; with_reducible rfl))
              (try simp only [Act.put, List.setIfInBounds_toArray, List.set_cons_zero, List.set_cons_succ])
              refine wpAnyT_take (i := 8) (oi := ⟨some 135, _, _, _, _, _⟩) (v := ?vg5_8) rfl (by kernel_rfl) (by kernel_rfl) (by kernel_rfl) (by kernel_rfl) (fun _ _ _ h => h) (Or.inl ⟨by rfl, ?hg5_8⟩) (by assumption) ?rg5_8
              case hg5_8 => (intro w hSw; (try dsimp only at hSw); first | (go_simp; done) | (go_simp; with_reducible rfl))
              (try simp only [Act.put, List.setIfInBounds_toArray, List.set_cons_zero, List.set_cons_succ])
              refine wpAnyT_take (i := 9) (oi := ⟨some 136, _, _, _, _, _⟩) (v := _) rfl (by kernel_rfl) (by kernel_rfl) (by kernel_rfl) (by kernel_rfl) (fun _ _ _ h => h) (yieldsIf_load_row (by rfl) 36 _ rfl P rfl c1 36 (0, 0) _ (fun w hw => hw.1) Tryd.underlying36 rfl (by rw [HS1.out]; exact map_size)) (by assumption) ?_
              (try simp only [Act.put, List.setIfInBounds_toArray, List.set_cons_zero, List.set_cons_succ])
              refine wpAnyT_take (i := 11) (oi := ⟨some 138, _, _, _, _, _⟩) (v := _) rfl (by kernel_rfl) (by kernel_rfl) (by kernel_rfl) (by kernel_rfl) (fun _ _ _ h => h) (yieldsIf_load_row (by rfl) 36 _ rfl Q rfl c2 36 (0, 0) _ (fun w hw => hw.2) Tryd.underlying36 rfl (by rw [HS2.out]; exact map_size)) (by assumption) ?_
              (try simp only [Act.put, List.setIfInBounds_toArray, List.set_cons_zero, List.set_cons_succ])
              refine wpAnyT_one (i := 10) (o := ⟨some 137, _, _, _, _, _⟩) (by kernel_rfl) rfl (fun K hK => ?_)
              go_simp
              go_at_call 19
              (with_reducible refine (HLEN1.out _).mono ?_)
              rintro e wz1 ⟨rfl, hb⟩
              replace HL1 := Lib.hid (HL1.out.later hb)
              replace HL2 := Lib.hid (HL2.out.later hb)
              replace HW := Lib.hid (HW.out.trans (hb.mono HW.out.size))
              clear hb
              dsimp only
              refine hK.out _ _ (by exact HKS.out _ HW.out) (fun hHeld => ?_)
              clear hK K
              (try simp only [Act.put, List.setIfInBounds_toArray, List.set_cons_zero, List.set_cons_succ])
              refine wpAnyT_one (i := 12) (o := ⟨some 139, _, _, _, _, _⟩) (by kernel_rfl) rfl (fun K hK => ?_)
              go_simp
              go_at_call 19
              (with_reducible refine (HLEN2.out _).mono ?_)
              rintro e wz2 ⟨rfl, hb⟩
              replace HL1 := Lib.hid (HL1.out.later hb)
              replace HL2 := Lib.hid (HL2.out.later hb)
              replace HW := Lib.hid (HW.out.trans (hb.mono HW.out.size))
              clear hb
              dsimp only
              refine hK.out _ _ (by exact HKS.out _ HW.out) (fun hHeld => ?_)
              clear hK K
              (try simp only [Act.put, List.setIfInBounds_toArray, List.set_cons_zero, List.set_cons_succ])
              refine wpAnyT_take (i := 13) (oi := ⟨some 140, _, _, _, _, _⟩) (v := ?vg5_13) rfl (by kernel_rfl) (by kernel_rfl) (by kernel_rfl) (by kernel_rfl) (fun _ _ _ h => h) (Or.inl ⟨by rfl, ?hg5_13⟩) (by assumption) ?rg5_13
              case hg5_13 => (intro w hSw; (try dsimp only at hSw); first | (go_simp; done) | (go_simp; with_reducible rfl))
              (try simp only [Act.put, List.setIfInBounds_toArray, List.set_cons_zero, List.set_cons_succ])
              refine wpAnyT_take (i := 14) (oi := ⟨some 141, _, _, _, _, _⟩) (v := ?vg5_14) rfl (by kernel_rfl) (by kernel_rfl) (by kernel_rfl) (by kernel_rfl) (fun _ _ _ h => h) (Or.inl ⟨by rfl, ?hg5_14⟩) (by assumption) ?rg5_14
              case hg5_14 => (intro w hSw; (try dsimp only at hSw); first | (go_simp; done) | (go_simp; with_reducible rfl))
              (try simp only [Act.put, List.setIfInBounds_toArray, List.set_cons_zero, List.set_cons_succ])
              refine wpAnyT_take (i := 15) (oi := ⟨some 142, _, _, _, _, _⟩) (v := ?vg5_15) rfl (by kernel_rfl) (by kernel_rfl) (by kernel_rfl) (by kernel_rfl) (fun _ _ _ h => h) (Or.inl ⟨by rfl, ?hg5_15⟩) (by assumption) ?rg5_15
              case hg5_15 => (intro w hSw; (try dsimp only at hSw); first | (go_simp; done) | (go_simp; with_reducible rfl))
              (try simp only [Act.put, List.setIfInBounds_toArray, List.set_cons_zero, List.set_cons_succ])
              refine wpAnyT_take (i := 16) (oi := ⟨some 143, _, _, _, _, _⟩) (v := _) rfl (by kernel_rfl) (by kernel_rfl) (by kernel_rfl) (by kernel_rfl) (fun _ _ _ h => h) (yieldsIf_load_row (by rfl) 36 _ rfl P rfl c1 36 (0, 0) _ (fun w hw => hw.1) Tryd.underlying36 rfl (by rw [HS1.out]; exact map_size)) (by assumption) ?_
              (try simp only [Act.put, List.setIfInBounds_toArray, List.set_cons_zero, List.set_cons_succ])
              refine wpAnyT_take (i := 18) (oi := ⟨some 145, _, _, _, _, _⟩) (v := _) rfl (by kernel_rfl) (by kernel_rfl) (by kernel_rfl) (by kernel_rfl) (fun _ _ _ h => h) (yieldsIf_load_row (by rfl) 36 _ rfl Q rfl c2 36 (0, 0) _ (fun w hw => hw.2) Tryd.underlying36 rfl (by rw [HS2.out]; exact map_size)) (by assumption) ?_
              (try simp only [Act.put, List.setIfInBounds_toArray, List.set_cons_zero, List.set_cons_succ])
              refine wpAnyT_one (i := 17) (o := ⟨some 144, _, _, _, _, _⟩) (by kernel_rfl) rfl (fun K hK => ?_)
              go_simp
              go_at_call 14
              (with_reducible refine (ml_Keys wz2 s n D c1 HL1.out HRD.out.1 HN5.out (HTB.out.later (HB.out.trans (HW.out.mono HB.out.size))).six).mono ?_)
              rintro e wz3 ⟨v3, rfl, hk3, hb⟩
              have HK3 := Lib.hid hk3
              clear hk3
              replace HL1 := Lib.hid (HL1.out.later hb)
              replace HL2 := Lib.hid (HL2.out.later hb)
              replace HW := Lib.hid (HW.out.trans (hb.mono HW.out.size))
              clear hb
              dsimp only
              refine hK.out _ _ (by exact HKS.out _ HW.out) (fun hHeld => ?_)
              clear hK K
              (try simp only [Act.put, List.setIfInBounds_toArray, List.set_cons_zero, List.set_cons_succ])
              refine wpAnyT_one (i := 19) (o := ⟨some 146, _, _, _, _, _⟩) (by kernel_rfl) rfl (fun K hK => ?_)
              go_simp
              go_at_call 14
              (with_reducible refine (ml_Keys wz3 s2 n2 D c2 HL2.out HRD.out.1 HN5.out (HTB.out.later (HB.out.trans (HW.out.mono HB.out.size))).six).mono ?_)
              rintro e wz4 ⟨v4, rfl, hk4, hb⟩
              have HK4 := Lib.hid hk4
              replace HK3 := Lib.hid (HK3.out.later hb)
              clear hk4
              replace HL1 := Lib.hid (HL1.out.later hb)
              replace HL2 := Lib.hid (HL2.out.later hb)
              replace HW := Lib.hid (HW.out.trans (hb.mono HW.out.size))
              clear hb
              dsimp only
              refine hK.out _ _ (by exact HKS.out _ HW.out) (fun hHeld => ?_)
              clear hK K
              (try simp only [Act.put, List.setIfInBounds_toArray, List.set_cons_zero, List.set_cons_succ])
              refine wpAnyT_one (i := 20) (o := ⟨some 147, _, _, _, _, _⟩) (by kernel_rfl) rfl (fun K hK => ?_)
              go_simp
              go_at_call 15
              (with_reducible refine (ref_Words9 v3 v4 (keysE D) wz4 HK3.out.cutS HK4.out.cutS HN6.out).mono ?_)
              rintro e wz5 ⟨rfl, hb⟩
              replace HL1 := Lib.hid (HL1.out.later hb)
              replace HL2 := Lib.hid (HL2.out.later hb)
              replace HW := Lib.hid (HW.out.trans (hb.mono HW.out.size))
              clear hb
              dsimp only
              refine hK.out _ _ (by exact HKS.out _ HW.out) (fun hHeld => ?_)
              clear hK K
              (try simp only [Act.put, List.setIfInBounds_toArray, List.set_cons_zero, List.set_cons_succ])
              refine wpAnyT_take (i := 21) (oi := ⟨some 148, _, _, _, _, _⟩) (v := ?vg5_21) rfl (by kernel_rfl) (by kernel_rfl) (by kernel_rfl) (by kernel_rfl) (fun _ _ _ h => h) (Or.inl ⟨by rfl, ?hg5_21⟩) (by assumption) ?rg5_21
              case hg5_21 => (intro w hSw; (try dsimp only at hSw); first | (go_simp; done) | (go_simp; with_reducible rfl))
              (try simp only [Act.put, List.setIfInBounds_toArray, List.set_cons_zero, List.set_cons_succ])
              refine wpAnyT_take (i := 22) (oi := ⟨some 10, _, _, _, _, _⟩) (v := ?vg5_22) rfl (by kernel_rfl) (by kernel_rfl) (by kernel_rfl) (by kernel_rfl) (fun _ _ _ h => h) (Or.inl ⟨by rfl, ?hg5_22⟩) (by assumption) ?rg5_22
              case hg5_22 => (intro w hSw; (try dsimp only at hSw); first | (go_simp; done) | (go_simp; with_reducible rfl))
              (try simp only [Act.put, List.setIfInBounds_toArray, List.set_cons_zero, List.set_cons_succ])
              refine wpAnyT_done (by kernel_rfl) ?_ _
              go_wp2_with fail
              go_ret
              exact ⟨rfl, HB.out.trans (HW.out.mono HB.out.size)⟩
          | false =>
            obtain rfl : g = some x := HGD.out
            have h1 := HG1.out
            simp only [Option.getD_some, Option.isSome_some] at h1
            replace HG1 := Lib.hid h1
            clear h1
            have hlen : ∀ W, Calls Tryd.prog 19 #[.agg c1] W fun r w' => r = .returned (.int .i64 (D.length : Int)) ∧ Below W.heap.size W w' := fun W => by
              obtain ⟨bb, p1, q1, r1, p2, q2, r2, e, _⟩ := HL1.out
              rw [e]
              exact hm_Len W s n D.length bb p1 q1 r1 p2 q2 r2
            have hlen2 : ∀ W, Calls Tryd.prog 19 #[.agg c2] W fun r w' => r = .returned (.int .i64 (D.length : Int)) ∧ Below W.heap.size W w' := fun W => by
              obtain ⟨bb, p1, q1, r1, p2, q2, r2, e, _⟩ := HL2.out
              rw [e]
              exact hm_Len W s2 n2 D.length bb p1 q1 r1 p2 q2 r2
            have HLEN1 := Lib.hid hlen
            have HLEN2 := Lib.hid hlen2
            have HN5 : Hid (D.length ≤ 50000) := by show _ ≤ _; have := HRD.out.2; omega
            have HN6 : Hid ((keysE D).length ≤ 1000000) := by show _ ≤ _; rw [keysE_len]; have := HRD.out.2; omega
            clear hlen hlen2
            by_cases hk : other = k
            · have hkk : (other.toList == k.toList) = true := by rw [hk]; simp
              clear hk
              go_upto_region 11 with (first | (refine ld_if (by rfl) 36 _ rfl P rfl 36 _ _ _ HX1.out Tryd.underlying36 rfl (by rw [HS1.out]; exact map_size) ?_) | (go_at_call 17; (with_reducible refine (HG1.out _ HL1.out).mono ?_); rintro e wg1 ⟨rfl, hb⟩; replace HX1 := Lib.hid ((hb.block _ (Array.getElem?_eq_some_iff.1 HX1.out).1).trans HX1.out); replace HX2 := Lib.hid ((hb.block _ (Array.getElem?_eq_some_iff.1 HX2.out).1).trans HX2.out); replace HX3 := Lib.hid ((hb.block _ (Array.getElem?_eq_some_iff.1 HX3.out).1).trans HX3.out); replace HL1 := Lib.hid (HL1.out.later hb); replace HL2 := Lib.hid (HL2.out.later hb); replace HL3 := Lib.hid (HL3.out.later hb); replace HO := Lib.hid ((hb.block _ (Array.getElem?_eq_some_iff.1 HO.out).1).trans HO.out); replace HB := Lib.hid (HB.out.trans (hb.mono HB.out.size)); have ck0 : wg1.cell? ⟨w.heap.size + 1 + 1, 0, none⟩ = some (.string k) := cell_in HO.out rfl; have ck1 : wg1.cell? ⟨w.heap.size + 1 + 1, 1, none⟩ = some (.int .i64 x) := cell_in HO.out rfl; have ck2 : wg1.cell? ⟨w.heap.size + 1 + 1, 2, none⟩ = some (.bool false) := cell_in HO.out rfl; clear hb))
              clear HG1
              go_upto_region 13 with fail
              clear ck0 ck1 ck2
              go_upto_region 14 with (first | (refine ld_if (by rfl) 36 _ rfl X rfl 36 _ _ _ HX3.out Tryd.underlying36 rfl (by rw [HS3.out]; exact map_size) ?_) | (go_at_call 17; (with_reducible refine (HG2.out _ HL3.out).mono ?_); rintro e wg2 ⟨rfl, hb⟩; replace HX1 := Lib.hid ((hb.block _ (Array.getElem?_eq_some_iff.1 HX1.out).1).trans HX1.out); replace HX2 := Lib.hid ((hb.block _ (Array.getElem?_eq_some_iff.1 HX2.out).1).trans HX2.out); replace HX3 := Lib.hid ((hb.block _ (Array.getElem?_eq_some_iff.1 HX3.out).1).trans HX3.out); replace HL1 := Lib.hid (HL1.out.later hb); replace HL2 := Lib.hid (HL2.out.later hb); replace HL3 := Lib.hid (HL3.out.later hb); replace HO := Lib.hid ((hb.block _ (Array.getElem?_eq_some_iff.1 HO.out).1).trans HO.out); replace HB := Lib.hid (HB.out.trans (hb.mono HB.out.size)); have ck0 : wg2.cell? ⟨w.heap.size + 1 + 1, 0, none⟩ = some (.string k) := cell_in HO.out rfl; have ck1 : wg2.cell? ⟨w.heap.size + 1 + 1, 1, none⟩ = some (.int .i64 x) := cell_in HO.out rfl; have ck2 : wg2.cell? ⟨w.heap.size + 1 + 1, 2, none⟩ = some (.bool false) := cell_in HO.out rfl; clear hb))
              clear HG2 ck0 ck1 ck2
              go_upto_region 15 with (first | (refine ld_if (by rfl) 36 _ rfl P rfl 36 _ _ _ HX1.out Tryd.underlying36 rfl (by rw [HS1.out]; exact map_size) ?_) | (go_at_call 17; (with_reducible refine (HG3.out _ HL1.out).mono ?_); rintro e wg3 ⟨rfl, hb⟩; replace HX1 := Lib.hid ((hb.block _ (Array.getElem?_eq_some_iff.1 HX1.out).1).trans HX1.out); replace HX2 := Lib.hid ((hb.block _ (Array.getElem?_eq_some_iff.1 HX2.out).1).trans HX2.out); replace HX3 := Lib.hid ((hb.block _ (Array.getElem?_eq_some_iff.1 HX3.out).1).trans HX3.out); replace HL1 := Lib.hid (HL1.out.later hb); replace HL2 := Lib.hid (HL2.out.later hb); replace HL3 := Lib.hid (HL3.out.later hb); replace HO := Lib.hid ((hb.block _ (Array.getElem?_eq_some_iff.1 HO.out).1).trans HO.out); replace HB := Lib.hid (HB.out.trans (hb.mono HB.out.size)); have ck0 : wg3.cell? ⟨w.heap.size + 1 + 1, 0, none⟩ = some (.string k) := cell_in HO.out rfl; have ck1 : wg3.cell? ⟨w.heap.size + 1 + 1, 1, none⟩ = some (.int .i64 x) := cell_in HO.out rfl; have ck2 : wg3.cell? ⟨w.heap.size + 1 + 1, 2, none⟩ = some (.bool false) := cell_in HO.out rfl; clear hb))
              clear HG3
              go_upto_region 17 with fail
              clear ck0 ck1 ck2
              go_upto_region 18 with (first | (refine ld_if (by rfl) 36 _ rfl Q rfl 36 _ _ _ HX2.out Tryd.underlying36 rfl (by rw [HS2.out]; exact map_size) ?_) | (go_at_call 17; (with_reducible refine (HG4.out _ HL2.out).mono ?_); rintro e wg4 ⟨rfl, hb⟩; replace HX1 := Lib.hid ((hb.block _ (Array.getElem?_eq_some_iff.1 HX1.out).1).trans HX1.out); replace HX2 := Lib.hid ((hb.block _ (Array.getElem?_eq_some_iff.1 HX2.out).1).trans HX2.out); replace HX3 := Lib.hid ((hb.block _ (Array.getElem?_eq_some_iff.1 HX3.out).1).trans HX3.out); replace HL1 := Lib.hid (HL1.out.later hb); replace HL2 := Lib.hid (HL2.out.later hb); replace HL3 := Lib.hid (HL3.out.later hb); replace HO := Lib.hid ((hb.block _ (Array.getElem?_eq_some_iff.1 HO.out).1).trans HO.out); replace HB := Lib.hid (HB.out.trans (hb.mono HB.out.size)); have ck0 : wg4.cell? ⟨w.heap.size + 1 + 1, 0, none⟩ = some (.string k) := cell_in HO.out rfl; have ck1 : wg4.cell? ⟨w.heap.size + 1 + 1, 1, none⟩ = some (.int .i64 x) := cell_in HO.out rfl; have ck2 : wg4.cell? ⟨w.heap.size + 1 + 1, 2, none⟩ = some (.bool false) := cell_in HO.out rfl; clear hb))
              clear HG4
              have HKS : Hid (∀ V, Below wg4.heap.size wg4 V → V.heap[P]? = some (.cells c1 36 (0, 0)) ∧ V.heap[Q]? = some (.cells c2 36 (0, 0))) := fun V hV => ⟨(hV.block _ (Array.getElem?_eq_some_iff.1 HX1.out).1).trans HX1.out, (hV.block _ (Array.getElem?_eq_some_iff.1 HX2.out).1).trans HX2.out⟩
              have HW : Hid (Below wg4.heap.size wg4 wg4.drew) := drawn_below wg4
              replace HL1 := Lib.hid (HL1.out.later HW.out)
              replace HL2 := Lib.hid (HL2.out.later HW.out)
              clear HX1 HX2 HX3 HL3 HO ck0 ck1 ck2
              refine wp_region_T (S := (fun V => V.heap[P]? = some (.cells c1 36 (0, 0)) ∧ V.heap[Q]? = some (.cells c2 36 (0, 0)))) [] (by kernel_rfl) (by exact HKS.out _ HW.out) (fun hHeld => ?_)
              refine wpAnyT_take (i := 0) (oi := ⟨some 127, _, _, _, _, _⟩) (v := ?vg6_0) rfl (by kernel_rfl) (by kernel_rfl) (by kernel_rfl) (by kernel_rfl) (fun _ _ _ h => h) (Or.inl ⟨by rfl, ?hg6_0⟩) (by assumption) ?rg6_0
              case hg6_0 => (intro w hSw; (try dsimp only at hSw); first | (go_simp; done) | (go_simp; with_reducible rfl))
              (try simp only [Act.put, List.setIfInBounds_toArray, List.set_cons_zero, List.set_cons_succ])
              refine wpAnyT_take (i := 1) (oi := ⟨some 128, _, _, _, _, _⟩) (v := ?vg6_1) rfl (by kernel_rfl) (by kernel_rfl) (by kernel_rfl) (by kernel_rfl) (fun _ _ _ h => h) (Or.inl ⟨by rfl, ?hg6_1⟩) (by assumption) ?rg6_1
              case hg6_1 => (intro w hSw; (try dsimp only at hSw); first | (go_simp; done) | (go_simp; with_reducible rfl))
              (try simp only [Act.put, List.setIfInBounds_toArray, List.set_cons_zero, List.set_cons_succ])
              refine wpAnyT_take (i := 2) (oi := ⟨some 129, _, _, _, _, _⟩) (v := ?vg6_2) rfl (by kernel_rfl) (by kernel_rfl) (by kernel_rfl) (by kernel_rfl) (fun _ _ _ h => h) (Or.inl ⟨by rfl, ?hg6_2⟩) (by assumption) ?rg6_2
              case hg6_2 => (intro w hSw; (try dsimp only at hSw); first | (go_simp; done) | (go_simp; with_reducible rfl))
              (try simp only [Act.put, List.setIfInBounds_toArray, List.set_cons_zero, List.set_cons_succ])
              refine wpAnyT_take (i := 3) (oi := ⟨some 130, _, _, _, _, _⟩) (v := ?vg6_3) rfl (by kernel_rfl) (by kernel_rfl) (by kernel_rfl) (by kernel_rfl) (fun _ _ _ h => h) (Or.inl ⟨by rfl, ?hg6_3⟩) (by assumption) ?rg6_3
              case hg6_3 => (intro w hSw; (try dsimp only at hSw); first | (go_simp; done) | (go_simp; with_reducible rfl))
              (try simp only [Act.put, List.setIfInBounds_toArray, List.set_cons_zero, List.set_cons_succ])
              refine wpAnyT_take (i := 4) (oi := ⟨some 131, _, _, _, _, _⟩) (v := ?vg6_4) rfl (by kernel_rfl) (by kernel_rfl) (by kernel_rfl) (by kernel_rfl) (fun _ _ _ h => h) (Or.inl ⟨by rfl, ?hg6_4⟩) (by assumption) ?rg6_4
              case hg6_4 => (intro w hSw; (try dsimp only at hSw); first | (go_simp; done) | (go_simp; with_reducible rfl))
              (try simp only [Act.put, List.setIfInBounds_toArray, List.set_cons_zero, List.set_cons_succ])
              refine wpAnyT_take (i := 5) (oi := ⟨some 132, _, _, _, _, _⟩) (v := ?vg6_5) rfl (by kernel_rfl) (by kernel_rfl) (by kernel_rfl) (by kernel_rfl) (fun _ _ _ h => h) (Or.inl ⟨by rfl, ?hg6_5⟩) (by assumption) ?rg6_5
              case hg6_5 => (intro w hSw; (try dsimp only at hSw); first | (go_simp; done) | (go_simp; with_reducible rfl))
              (try simp only [Act.put, List.setIfInBounds_toArray, List.set_cons_zero, List.set_cons_succ])
              refine wpAnyT_take (i := 6) (oi := ⟨some 133, _, _, _, _, _⟩) (v := ?vg6_6) rfl (by kernel_rfl) (by kernel_rfl) (by kernel_rfl) (by kernel_rfl) (fun _ _ _ h => h) (Or.inl ⟨by rfl, ?hg6_6⟩) (by assumption) ?rg6_6
              case hg6_6 => (intro w hSw; (try dsimp only at hSw); first | (go_simp; done) | (go_simp; with_reducible rfl))
              (try simp only [Act.put, List.setIfInBounds_toArray, List.set_cons_zero, List.set_cons_succ])
              refine wpAnyT_take (i := 7) (oi := ⟨some 134, _, _, _, _, _⟩) (v := ?vg6_7) rfl (by kernel_rfl) (by kernel_rfl) (by kernel_rfl) (by kernel_rfl) (fun _ _ _ h => h) (Or.inl ⟨by rfl, ?hg6_7⟩) (by assumption) ?rg6_7
              case hg6_7 => (intro w hSw; (try dsimp only at hSw); first | (go_simp; done) | (go_simp; with_reducible rfl))
              (try simp only [Act.put, List.setIfInBounds_toArray, List.set_cons_zero, List.set_cons_succ])
              refine wpAnyT_take (i := 8) (oi := ⟨some 135, _, _, _, _, _⟩) (v := ?vg6_8) rfl (by kernel_rfl) (by kernel_rfl) (by kernel_rfl) (by kernel_rfl) (fun _ _ _ h => h) (Or.inl ⟨by rfl, ?hg6_8⟩) (by assumption) ?rg6_8
              case hg6_8 => (intro w hSw; (try dsimp only at hSw); first | (go_simp; done) | (go_simp; with_reducible rfl))
              (try simp only [Act.put, List.setIfInBounds_toArray, List.set_cons_zero, List.set_cons_succ])
              refine wpAnyT_take (i := 9) (oi := ⟨some 136, _, _, _, _, _⟩) (v := _) rfl (by kernel_rfl) (by kernel_rfl) (by kernel_rfl) (by kernel_rfl) (fun _ _ _ h => h) (yieldsIf_load_row (by rfl) 36 _ rfl P rfl c1 36 (0, 0) _ (fun w hw => hw.1) Tryd.underlying36 rfl (by rw [HS1.out]; exact map_size)) (by assumption) ?_
              (try simp only [Act.put, List.setIfInBounds_toArray, List.set_cons_zero, List.set_cons_succ])
              refine wpAnyT_take (i := 11) (oi := ⟨some 138, _, _, _, _, _⟩) (v := _) rfl (by kernel_rfl) (by kernel_rfl) (by kernel_rfl) (by kernel_rfl) (fun _ _ _ h => h) (yieldsIf_load_row (by rfl) 36 _ rfl Q rfl c2 36 (0, 0) _ (fun w hw => hw.2) Tryd.underlying36 rfl (by rw [HS2.out]; exact map_size)) (by assumption) ?_
              (try simp only [Act.put, List.setIfInBounds_toArray, List.set_cons_zero, List.set_cons_succ])
              refine wpAnyT_one (i := 10) (o := ⟨some 137, _, _, _, _, _⟩) (by kernel_rfl) rfl (fun K hK => ?_)
              go_simp
              go_at_call 19
              (with_reducible refine (HLEN1.out _).mono ?_)
              rintro e wz1 ⟨rfl, hb⟩
              replace HL1 := Lib.hid (HL1.out.later hb)
              replace HL2 := Lib.hid (HL2.out.later hb)
              replace HW := Lib.hid (HW.out.trans (hb.mono HW.out.size))
              clear hb
              dsimp only
              refine hK.out _ _ (by exact HKS.out _ HW.out) (fun hHeld => ?_)
              clear hK K
              (try simp only [Act.put, List.setIfInBounds_toArray, List.set_cons_zero, List.set_cons_succ])
              refine wpAnyT_one (i := 12) (o := ⟨some 139, _, _, _, _, _⟩) (by kernel_rfl) rfl (fun K hK => ?_)
              go_simp
              go_at_call 19
              (with_reducible refine (HLEN2.out _).mono ?_)
              rintro e wz2 ⟨rfl, hb⟩
              replace HL1 := Lib.hid (HL1.out.later hb)
              replace HL2 := Lib.hid (HL2.out.later hb)
              replace HW := Lib.hid (HW.out.trans (hb.mono HW.out.size))
              clear hb
              dsimp only
              refine hK.out _ _ (by exact HKS.out _ HW.out) (fun hHeld => ?_)
              clear hK K
              (try simp only [Act.put, List.setIfInBounds_toArray, List.set_cons_zero, List.set_cons_succ])
              refine wpAnyT_take (i := 13) (oi := ⟨some 140, _, _, _, _, _⟩) (v := ?vg6_13) rfl (by kernel_rfl) (by kernel_rfl) (by kernel_rfl) (by kernel_rfl) (fun _ _ _ h => h) (Or.inl ⟨by rfl, ?hg6_13⟩) (by assumption) ?rg6_13
              case hg6_13 => (intro w hSw; (try dsimp only at hSw); first | (go_simp; done) | (go_simp; with_reducible rfl))
              (try simp only [Act.put, List.setIfInBounds_toArray, List.set_cons_zero, List.set_cons_succ])
              refine wpAnyT_take (i := 14) (oi := ⟨some 141, _, _, _, _, _⟩) (v := ?vg6_14) rfl (by kernel_rfl) (by kernel_rfl) (by kernel_rfl) (by kernel_rfl) (fun _ _ _ h => h) (Or.inl ⟨by rfl, ?hg6_14⟩) (by assumption) ?rg6_14
              case hg6_14 => (intro w hSw; (try dsimp only at hSw); first | (go_simp; done) | (go_simp; with_reducible rfl))
              (try simp only [Act.put, List.setIfInBounds_toArray, List.set_cons_zero, List.set_cons_succ])
              refine wpAnyT_take (i := 15) (oi := ⟨some 142, _, _, _, _, _⟩) (v := ?vg6_15) rfl (by kernel_rfl) (by kernel_rfl) (by kernel_rfl) (by kernel_rfl) (fun _ _ _ h => h) (Or.inl ⟨by rfl, ?hg6_15⟩) (by assumption) ?rg6_15
              case hg6_15 => (intro w hSw; (try dsimp only at hSw); first | (go_simp; done) | (go_simp; with_reducible rfl))
              (try simp only [Act.put, List.setIfInBounds_toArray, List.set_cons_zero, List.set_cons_succ])
              refine wpAnyT_take (i := 16) (oi := ⟨some 143, _, _, _, _, _⟩) (v := _) rfl (by kernel_rfl) (by kernel_rfl) (by kernel_rfl) (by kernel_rfl) (fun _ _ _ h => h) (yieldsIf_load_row (by rfl) 36 _ rfl P rfl c1 36 (0, 0) _ (fun w hw => hw.1) Tryd.underlying36 rfl (by rw [HS1.out]; exact map_size)) (by assumption) ?_
              (try simp only [Act.put, List.setIfInBounds_toArray, List.set_cons_zero, List.set_cons_succ])
              refine wpAnyT_take (i := 18) (oi := ⟨some 145, _, _, _, _, _⟩) (v := _) rfl (by kernel_rfl) (by kernel_rfl) (by kernel_rfl) (by kernel_rfl) (fun _ _ _ h => h) (yieldsIf_load_row (by rfl) 36 _ rfl Q rfl c2 36 (0, 0) _ (fun w hw => hw.2) Tryd.underlying36 rfl (by rw [HS2.out]; exact map_size)) (by assumption) ?_
              (try simp only [Act.put, List.setIfInBounds_toArray, List.set_cons_zero, List.set_cons_succ])
              refine wpAnyT_one (i := 17) (o := ⟨some 144, _, _, _, _, _⟩) (by kernel_rfl) rfl (fun K hK => ?_)
              go_simp
              go_at_call 14
              (with_reducible refine (ml_Keys wz2 s n D c1 HL1.out HRD.out.1 HN5.out (HTB.out.later (HB.out.trans (HW.out.mono HB.out.size))).six).mono ?_)
              rintro e wz3 ⟨v3, rfl, hk3, hb⟩
              have HK3 := Lib.hid hk3
              clear hk3
              replace HL1 := Lib.hid (HL1.out.later hb)
              replace HL2 := Lib.hid (HL2.out.later hb)
              replace HW := Lib.hid (HW.out.trans (hb.mono HW.out.size))
              clear hb
              dsimp only
              refine hK.out _ _ (by exact HKS.out _ HW.out) (fun hHeld => ?_)
              clear hK K
              (try simp only [Act.put, List.setIfInBounds_toArray, List.set_cons_zero, List.set_cons_succ])
              refine wpAnyT_one (i := 19) (o := ⟨some 146, _, _, _, _, _⟩) (by kernel_rfl) rfl (fun K hK => ?_)
              go_simp
              go_at_call 14
              (with_reducible refine (ml_Keys wz3 s2 n2 D c2 HL2.out HRD.out.1 HN5.out (HTB.out.later (HB.out.trans (HW.out.mono HB.out.size))).six).mono ?_)
              rintro e wz4 ⟨v4, rfl, hk4, hb⟩
              have HK4 := Lib.hid hk4
              replace HK3 := Lib.hid (HK3.out.later hb)
              clear hk4
              replace HL1 := Lib.hid (HL1.out.later hb)
              replace HL2 := Lib.hid (HL2.out.later hb)
              replace HW := Lib.hid (HW.out.trans (hb.mono HW.out.size))
              clear hb
              dsimp only
              refine hK.out _ _ (by exact HKS.out _ HW.out) (fun hHeld => ?_)
              clear hK K
              (try simp only [Act.put, List.setIfInBounds_toArray, List.set_cons_zero, List.set_cons_succ])
              refine wpAnyT_one (i := 20) (o := ⟨some 147, _, _, _, _, _⟩) (by kernel_rfl) rfl (fun K hK => ?_)
              go_simp
              go_at_call 15
              (with_reducible refine (ref_Words9 v3 v4 (keysE D) wz4 HK3.out.cutS HK4.out.cutS HN6.out).mono ?_)
              rintro e wz5 ⟨rfl, hb⟩
              replace HL1 := Lib.hid (HL1.out.later hb)
              replace HL2 := Lib.hid (HL2.out.later hb)
              replace HW := Lib.hid (HW.out.trans (hb.mono HW.out.size))
              clear hb
              dsimp only
              refine hK.out _ _ (by exact HKS.out _ HW.out) (fun hHeld => ?_)
              clear hK K
              (try simp only [Act.put, List.setIfInBounds_toArray, List.set_cons_zero, List.set_cons_succ])
              refine wpAnyT_take (i := 21) (oi := ⟨some 148, _, _, _, _, _⟩) (v := ?vg6_21) rfl (by kernel_rfl) (by kernel_rfl) (by kernel_rfl) (by kernel_rfl) (fun _ _ _ h => h) (Or.inl ⟨by rfl, ?hg6_21⟩) (by assumption) ?rg6_21
              case hg6_21 => (intro w hSw; (try dsimp only at hSw); first | (go_simp; done) | (go_simp; with_reducible rfl))
              (try simp only [Act.put, List.setIfInBounds_toArray, List.set_cons_zero, List.set_cons_succ])
              refine wpAnyT_take (i := 22) (oi := ⟨some 10, _, _, _, _, _⟩) (v := ?vg6_22) rfl (by kernel_rfl) (by kernel_rfl) (by kernel_rfl) (by kernel_rfl) (fun _ _ _ h => h) (Or.inl ⟨by rfl, ?hg6_22⟩) (by assumption) ?rg6_22
              case hg6_22 => (intro w hSw; (try dsimp only at hSw); first | (go_simp; done) | (go_simp; with_reducible rfl))
              (try simp only [Act.put, List.setIfInBounds_toArray, List.set_cons_zero, List.set_cons_succ])
              refine wpAnyT_done (by kernel_rfl) ?_ _
              go_wp2_with fail
              go_ret
              exact ⟨rfl, HB.out.trans (HW.out.mono HB.out.size)⟩
            · have hkk : (other.toList == k.toList) = false := beq_eq_false_iff_ne.2 fun h => hk (kb_inj (by rw [ByteArray.toList_eq, ByteArray.toList_eq] at h; exact h))
              obtain rfl : ho = hy := HGO.out hk
              clear hk
              go_upto_region 11 with (first | (refine ld_if (by rfl) 36 _ rfl P rfl 36 _ _ _ HX1.out Tryd.underlying36 rfl (by rw [HS1.out]; exact map_size) ?_) | (go_at_call 17; (with_reducible refine (HG1.out _ HL1.out).mono ?_); rintro e wg1 ⟨rfl, hb⟩; replace HX1 := Lib.hid ((hb.block _ (Array.getElem?_eq_some_iff.1 HX1.out).1).trans HX1.out); replace HX2 := Lib.hid ((hb.block _ (Array.getElem?_eq_some_iff.1 HX2.out).1).trans HX2.out); replace HX3 := Lib.hid ((hb.block _ (Array.getElem?_eq_some_iff.1 HX3.out).1).trans HX3.out); replace HL1 := Lib.hid (HL1.out.later hb); replace HL2 := Lib.hid (HL2.out.later hb); replace HL3 := Lib.hid (HL3.out.later hb); replace HO := Lib.hid ((hb.block _ (Array.getElem?_eq_some_iff.1 HO.out).1).trans HO.out); replace HB := Lib.hid (HB.out.trans (hb.mono HB.out.size)); have ck0 : wg1.cell? ⟨w.heap.size + 1 + 1, 0, none⟩ = some (.string k) := cell_in HO.out rfl; have ck1 : wg1.cell? ⟨w.heap.size + 1 + 1, 1, none⟩ = some (.int .i64 x) := cell_in HO.out rfl; have ck2 : wg1.cell? ⟨w.heap.size + 1 + 1, 2, none⟩ = some (.bool false) := cell_in HO.out rfl; clear hb))
              clear HG1
              go_upto_region 13 with fail
              clear ck0 ck1 ck2
              go_upto_region 14 with (first | (refine ld_if (by rfl) 36 _ rfl X rfl 36 _ _ _ HX3.out Tryd.underlying36 rfl (by rw [HS3.out]; exact map_size) ?_) | (go_at_call 17; (with_reducible refine (HG2.out _ HL3.out).mono ?_); rintro e wg2 ⟨rfl, hb⟩; replace HX1 := Lib.hid ((hb.block _ (Array.getElem?_eq_some_iff.1 HX1.out).1).trans HX1.out); replace HX2 := Lib.hid ((hb.block _ (Array.getElem?_eq_some_iff.1 HX2.out).1).trans HX2.out); replace HX3 := Lib.hid ((hb.block _ (Array.getElem?_eq_some_iff.1 HX3.out).1).trans HX3.out); replace HL1 := Lib.hid (HL1.out.later hb); replace HL2 := Lib.hid (HL2.out.later hb); replace HL3 := Lib.hid (HL3.out.later hb); replace HO := Lib.hid ((hb.block _ (Array.getElem?_eq_some_iff.1 HO.out).1).trans HO.out); replace HB := Lib.hid (HB.out.trans (hb.mono HB.out.size)); have ck0 : wg2.cell? ⟨w.heap.size + 1 + 1, 0, none⟩ = some (.string k) := cell_in HO.out rfl; have ck1 : wg2.cell? ⟨w.heap.size + 1 + 1, 1, none⟩ = some (.int .i64 x) := cell_in HO.out rfl; have ck2 : wg2.cell? ⟨w.heap.size + 1 + 1, 2, none⟩ = some (.bool false) := cell_in HO.out rfl; clear hb))
              clear HG2 ck0 ck1 ck2
              go_upto_region 15 with (first | (refine ld_if (by rfl) 36 _ rfl P rfl 36 _ _ _ HX1.out Tryd.underlying36 rfl (by rw [HS1.out]; exact map_size) ?_) | (go_at_call 17; (with_reducible refine (HG3.out _ HL1.out).mono ?_); rintro e wg3 ⟨rfl, hb⟩; replace HX1 := Lib.hid ((hb.block _ (Array.getElem?_eq_some_iff.1 HX1.out).1).trans HX1.out); replace HX2 := Lib.hid ((hb.block _ (Array.getElem?_eq_some_iff.1 HX2.out).1).trans HX2.out); replace HX3 := Lib.hid ((hb.block _ (Array.getElem?_eq_some_iff.1 HX3.out).1).trans HX3.out); replace HL1 := Lib.hid (HL1.out.later hb); replace HL2 := Lib.hid (HL2.out.later hb); replace HL3 := Lib.hid (HL3.out.later hb); replace HO := Lib.hid ((hb.block _ (Array.getElem?_eq_some_iff.1 HO.out).1).trans HO.out); replace HB := Lib.hid (HB.out.trans (hb.mono HB.out.size)); have ck0 : wg3.cell? ⟨w.heap.size + 1 + 1, 0, none⟩ = some (.string k) := cell_in HO.out rfl; have ck1 : wg3.cell? ⟨w.heap.size + 1 + 1, 1, none⟩ = some (.int .i64 x) := cell_in HO.out rfl; have ck2 : wg3.cell? ⟨w.heap.size + 1 + 1, 2, none⟩ = some (.bool false) := cell_in HO.out rfl; clear hb))
              clear HG3
              go_upto_region 17 with fail
              clear ck0 ck1 ck2
              go_upto_region 18 with (first | (refine ld_if (by rfl) 36 _ rfl Q rfl 36 _ _ _ HX2.out Tryd.underlying36 rfl (by rw [HS2.out]; exact map_size) ?_) | (go_at_call 17; (with_reducible refine (HG4.out _ HL2.out).mono ?_); rintro e wg4 ⟨rfl, hb⟩; replace HX1 := Lib.hid ((hb.block _ (Array.getElem?_eq_some_iff.1 HX1.out).1).trans HX1.out); replace HX2 := Lib.hid ((hb.block _ (Array.getElem?_eq_some_iff.1 HX2.out).1).trans HX2.out); replace HX3 := Lib.hid ((hb.block _ (Array.getElem?_eq_some_iff.1 HX3.out).1).trans HX3.out); replace HL1 := Lib.hid (HL1.out.later hb); replace HL2 := Lib.hid (HL2.out.later hb); replace HL3 := Lib.hid (HL3.out.later hb); replace HO := Lib.hid ((hb.block _ (Array.getElem?_eq_some_iff.1 HO.out).1).trans HO.out); replace HB := Lib.hid (HB.out.trans (hb.mono HB.out.size)); have ck0 : wg4.cell? ⟨w.heap.size + 1 + 1, 0, none⟩ = some (.string k) := cell_in HO.out rfl; have ck1 : wg4.cell? ⟨w.heap.size + 1 + 1, 1, none⟩ = some (.int .i64 x) := cell_in HO.out rfl; have ck2 : wg4.cell? ⟨w.heap.size + 1 + 1, 2, none⟩ = some (.bool false) := cell_in HO.out rfl; clear hb))
              clear HG4
              have HKS : Hid (∀ V, Below wg4.heap.size wg4 V → V.heap[P]? = some (.cells c1 36 (0, 0)) ∧ V.heap[Q]? = some (.cells c2 36 (0, 0))) := fun V hV => ⟨(hV.block _ (Array.getElem?_eq_some_iff.1 HX1.out).1).trans HX1.out, (hV.block _ (Array.getElem?_eq_some_iff.1 HX2.out).1).trans HX2.out⟩
              have HW : Hid (Below wg4.heap.size wg4 wg4.drew) := drawn_below wg4
              replace HL1 := Lib.hid (HL1.out.later HW.out)
              replace HL2 := Lib.hid (HL2.out.later HW.out)
              clear HX1 HX2 HX3 HL3 HO ck0 ck1 ck2
              refine wp_region_T (S := (fun V => V.heap[P]? = some (.cells c1 36 (0, 0)) ∧ V.heap[Q]? = some (.cells c2 36 (0, 0)))) [] (by kernel_rfl) (by exact HKS.out _ HW.out) (fun hHeld => ?_)
              refine wpAnyT_take (i := 0) (oi := ⟨some 127, _, _, _, _, _⟩) (v := ?vg7_0) rfl (by kernel_rfl) (by kernel_rfl) (by kernel_rfl) (by kernel_rfl) (fun _ _ _ h => h) (Or.inl ⟨by rfl, ?hg7_0⟩) (by assumption) ?rg7_0
              case hg7_0 => (intro w hSw; (try dsimp only at hSw); first | (go_simp; done) | (go_simp; with_reducible rfl))
              (try simp only [Act.put, List.setIfInBounds_toArray, List.set_cons_zero, List.set_cons_succ])
              refine wpAnyT_take (i := 1) (oi := ⟨some 128, _, _, _, _, _⟩) (v := ?vg7_1) rfl (by kernel_rfl) (by kernel_rfl) (by kernel_rfl) (by kernel_rfl) (fun _ _ _ h => h) (Or.inl ⟨by rfl, ?hg7_1⟩) (by assumption) ?rg7_1
              case hg7_1 => (intro w hSw; (try dsimp only at hSw); first | (go_simp; done) | (go_simp; with_reducible rfl))
              (try simp only [Act.put, List.setIfInBounds_toArray, List.set_cons_zero, List.set_cons_succ])
              refine wpAnyT_take (i := 2) (oi := ⟨some 129, _, _, _, _, _⟩) (v := ?vg7_2) rfl (by kernel_rfl) (by kernel_rfl) (by kernel_rfl) (by kernel_rfl) (fun _ _ _ h => h) (Or.inl ⟨by rfl, ?hg7_2⟩) (by assumption) ?rg7_2
              case hg7_2 => (intro w hSw; (try dsimp only at hSw); first | (go_simp; done) | (go_simp; with_reducible rfl))
              (try simp only [Act.put, List.setIfInBounds_toArray, List.set_cons_zero, List.set_cons_succ])
              refine wpAnyT_take (i := 3) (oi := ⟨some 130, _, _, _, _, _⟩) (v := ?vg7_3) rfl (by kernel_rfl) (by kernel_rfl) (by kernel_rfl) (by kernel_rfl) (fun _ _ _ h => h) (Or.inl ⟨by rfl, ?hg7_3⟩) (by assumption) ?rg7_3
              case hg7_3 => (intro w hSw; (try dsimp only at hSw); first | (go_simp; done) | (go_simp; with_reducible rfl))
              (try simp only [Act.put, List.setIfInBounds_toArray, List.set_cons_zero, List.set_cons_succ])
              refine wpAnyT_take (i := 4) (oi := ⟨some 131, _, _, _, _, _⟩) (v := ?vg7_4) rfl (by kernel_rfl) (by kernel_rfl) (by kernel_rfl) (by kernel_rfl) (fun _ _ _ h => h) (Or.inl ⟨by rfl, ?hg7_4⟩) (by assumption) ?rg7_4
              case hg7_4 => (intro w hSw; (try dsimp only at hSw); first | (go_simp; done) | (go_simp; with_reducible rfl))
              (try simp only [Act.put, List.setIfInBounds_toArray, List.set_cons_zero, List.set_cons_succ])
              refine wpAnyT_take (i := 5) (oi := ⟨some 132, _, _, _, _, _⟩) (v := ?vg7_5) rfl (by kernel_rfl) (by kernel_rfl) (by kernel_rfl) (by kernel_rfl) (fun _ _ _ h => h) (Or.inl ⟨by rfl, ?hg7_5⟩) (by assumption) ?rg7_5
              case hg7_5 => (intro w hSw; (try dsimp only at hSw); first | (go_simp; done) | (go_simp; with_reducible rfl))
              (try simp only [Act.put, List.setIfInBounds_toArray, List.set_cons_zero, List.set_cons_succ])
              refine wpAnyT_take (i := 6) (oi := ⟨some 133, _, _, _, _, _⟩) (v := ?vg7_6) rfl (by kernel_rfl) (by kernel_rfl) (by kernel_rfl) (by kernel_rfl) (fun _ _ _ h => h) (Or.inl ⟨by rfl, ?hg7_6⟩) (by assumption) ?rg7_6
              case hg7_6 => (intro w hSw; (try dsimp only at hSw); first | (go_simp; done) | (go_simp; with_reducible rfl))
              (try simp only [Act.put, List.setIfInBounds_toArray, List.set_cons_zero, List.set_cons_succ])
              refine wpAnyT_take (i := 7) (oi := ⟨some 134, _, _, _, _, _⟩) (v := ?vg7_7) rfl (by kernel_rfl) (by kernel_rfl) (by kernel_rfl) (by kernel_rfl) (fun _ _ _ h => h) (Or.inl ⟨by rfl, ?hg7_7⟩) (by assumption) ?rg7_7
              case hg7_7 => (intro w hSw; (try dsimp only at hSw); first | (go_simp; done) | (go_simp; with_reducible rfl))
              (try simp only [Act.put, List.setIfInBounds_toArray, List.set_cons_zero, List.set_cons_succ])
              refine wpAnyT_take (i := 8) (oi := ⟨some 135, _, _, _, _, _⟩) (v := ?vg7_8) rfl (by kernel_rfl) (by kernel_rfl) (by kernel_rfl) (by kernel_rfl) (fun _ _ _ h => h) (Or.inl ⟨by rfl, ?hg7_8⟩) (by assumption) ?rg7_8
              case hg7_8 => (intro w hSw; (try dsimp only at hSw); first | (go_simp; done) | (go_simp; with_reducible rfl))
              (try simp only [Act.put, List.setIfInBounds_toArray, List.set_cons_zero, List.set_cons_succ])
              refine wpAnyT_take (i := 9) (oi := ⟨some 136, _, _, _, _, _⟩) (v := _) rfl (by kernel_rfl) (by kernel_rfl) (by kernel_rfl) (by kernel_rfl) (fun _ _ _ h => h) (yieldsIf_load_row (by rfl) 36 _ rfl P rfl c1 36 (0, 0) _ (fun w hw => hw.1) Tryd.underlying36 rfl (by rw [HS1.out]; exact map_size)) (by assumption) ?_
              (try simp only [Act.put, List.setIfInBounds_toArray, List.set_cons_zero, List.set_cons_succ])
              refine wpAnyT_take (i := 11) (oi := ⟨some 138, _, _, _, _, _⟩) (v := _) rfl (by kernel_rfl) (by kernel_rfl) (by kernel_rfl) (by kernel_rfl) (fun _ _ _ h => h) (yieldsIf_load_row (by rfl) 36 _ rfl Q rfl c2 36 (0, 0) _ (fun w hw => hw.2) Tryd.underlying36 rfl (by rw [HS2.out]; exact map_size)) (by assumption) ?_
              (try simp only [Act.put, List.setIfInBounds_toArray, List.set_cons_zero, List.set_cons_succ])
              refine wpAnyT_one (i := 10) (o := ⟨some 137, _, _, _, _, _⟩) (by kernel_rfl) rfl (fun K hK => ?_)
              go_simp
              go_at_call 19
              (with_reducible refine (HLEN1.out _).mono ?_)
              rintro e wz1 ⟨rfl, hb⟩
              replace HL1 := Lib.hid (HL1.out.later hb)
              replace HL2 := Lib.hid (HL2.out.later hb)
              replace HW := Lib.hid (HW.out.trans (hb.mono HW.out.size))
              clear hb
              dsimp only
              refine hK.out _ _ (by exact HKS.out _ HW.out) (fun hHeld => ?_)
              clear hK K
              (try simp only [Act.put, List.setIfInBounds_toArray, List.set_cons_zero, List.set_cons_succ])
              refine wpAnyT_one (i := 12) (o := ⟨some 139, _, _, _, _, _⟩) (by kernel_rfl) rfl (fun K hK => ?_)
              go_simp
              go_at_call 19
              (with_reducible refine (HLEN2.out _).mono ?_)
              rintro e wz2 ⟨rfl, hb⟩
              replace HL1 := Lib.hid (HL1.out.later hb)
              replace HL2 := Lib.hid (HL2.out.later hb)
              replace HW := Lib.hid (HW.out.trans (hb.mono HW.out.size))
              clear hb
              dsimp only
              refine hK.out _ _ (by exact HKS.out _ HW.out) (fun hHeld => ?_)
              clear hK K
              (try simp only [Act.put, List.setIfInBounds_toArray, List.set_cons_zero, List.set_cons_succ])
              refine wpAnyT_take (i := 13) (oi := ⟨some 140, _, _, _, _, _⟩) (v := ?vg7_13) rfl (by kernel_rfl) (by kernel_rfl) (by kernel_rfl) (by kernel_rfl) (fun _ _ _ h => h) (Or.inl ⟨by rfl, ?hg7_13⟩) (by assumption) ?rg7_13
              case hg7_13 => (intro w hSw; (try dsimp only at hSw); first | (go_simp; done) | (go_simp; with_reducible rfl))
              (try simp only [Act.put, List.setIfInBounds_toArray, List.set_cons_zero, List.set_cons_succ])
              refine wpAnyT_take (i := 14) (oi := ⟨some 141, _, _, _, _, _⟩) (v := ?vg7_14) rfl (by kernel_rfl) (by kernel_rfl) (by kernel_rfl) (by kernel_rfl) (fun _ _ _ h => h) (Or.inl ⟨by rfl, ?hg7_14⟩) (by assumption) ?rg7_14
              case hg7_14 => (intro w hSw; (try dsimp only at hSw); first | (go_simp; done) | (go_simp; with_reducible rfl))
              (try simp only [Act.put, List.setIfInBounds_toArray, List.set_cons_zero, List.set_cons_succ])
              refine wpAnyT_take (i := 15) (oi := ⟨some 142, _, _, _, _, _⟩) (v := ?vg7_15) rfl (by kernel_rfl) (by kernel_rfl) (by kernel_rfl) (by kernel_rfl) (fun _ _ _ h => h) (Or.inl ⟨by rfl, ?hg7_15⟩) (by assumption) ?rg7_15
              case hg7_15 => (intro w hSw; (try dsimp only at hSw); first | (go_simp; done) | (go_simp; with_reducible rfl))
              (try simp only [Act.put, List.setIfInBounds_toArray, List.set_cons_zero, List.set_cons_succ])
              refine wpAnyT_take (i := 16) (oi := ⟨some 143, _, _, _, _, _⟩) (v := _) rfl (by kernel_rfl) (by kernel_rfl) (by kernel_rfl) (by kernel_rfl) (fun _ _ _ h => h) (yieldsIf_load_row (by rfl) 36 _ rfl P rfl c1 36 (0, 0) _ (fun w hw => hw.1) Tryd.underlying36 rfl (by rw [HS1.out]; exact map_size)) (by assumption) ?_
              (try simp only [Act.put, List.setIfInBounds_toArray, List.set_cons_zero, List.set_cons_succ])
              refine wpAnyT_take (i := 18) (oi := ⟨some 145, _, _, _, _, _⟩) (v := _) rfl (by kernel_rfl) (by kernel_rfl) (by kernel_rfl) (by kernel_rfl) (fun _ _ _ h => h) (yieldsIf_load_row (by rfl) 36 _ rfl Q rfl c2 36 (0, 0) _ (fun w hw => hw.2) Tryd.underlying36 rfl (by rw [HS2.out]; exact map_size)) (by assumption) ?_
              (try simp only [Act.put, List.setIfInBounds_toArray, List.set_cons_zero, List.set_cons_succ])
              refine wpAnyT_one (i := 17) (o := ⟨some 144, _, _, _, _, _⟩) (by kernel_rfl) rfl (fun K hK => ?_)
              go_simp
              go_at_call 14
              (with_reducible refine (ml_Keys wz2 s n D c1 HL1.out HRD.out.1 HN5.out (HTB.out.later (HB.out.trans (HW.out.mono HB.out.size))).six).mono ?_)
              rintro e wz3 ⟨v3, rfl, hk3, hb⟩
              have HK3 := Lib.hid hk3
              clear hk3
              replace HL1 := Lib.hid (HL1.out.later hb)
              replace HL2 := Lib.hid (HL2.out.later hb)
              replace HW := Lib.hid (HW.out.trans (hb.mono HW.out.size))
              clear hb
              dsimp only
              refine hK.out _ _ (by exact HKS.out _ HW.out) (fun hHeld => ?_)
              clear hK K
              (try simp only [Act.put, List.setIfInBounds_toArray, List.set_cons_zero, List.set_cons_succ])
              refine wpAnyT_one (i := 19) (o := ⟨some 146, _, _, _, _, _⟩) (by kernel_rfl) rfl (fun K hK => ?_)
              go_simp
              go_at_call 14
              (with_reducible refine (ml_Keys wz3 s2 n2 D c2 HL2.out HRD.out.1 HN5.out (HTB.out.later (HB.out.trans (HW.out.mono HB.out.size))).six).mono ?_)
              rintro e wz4 ⟨v4, rfl, hk4, hb⟩
              have HK4 := Lib.hid hk4
              replace HK3 := Lib.hid (HK3.out.later hb)
              clear hk4
              replace HL1 := Lib.hid (HL1.out.later hb)
              replace HL2 := Lib.hid (HL2.out.later hb)
              replace HW := Lib.hid (HW.out.trans (hb.mono HW.out.size))
              clear hb
              dsimp only
              refine hK.out _ _ (by exact HKS.out _ HW.out) (fun hHeld => ?_)
              clear hK K
              (try simp only [Act.put, List.setIfInBounds_toArray, List.set_cons_zero, List.set_cons_succ])
              refine wpAnyT_one (i := 20) (o := ⟨some 147, _, _, _, _, _⟩) (by kernel_rfl) rfl (fun K hK => ?_)
              go_simp
              go_at_call 15
              (with_reducible refine (ref_Words9 v3 v4 (keysE D) wz4 HK3.out.cutS HK4.out.cutS HN6.out).mono ?_)
              rintro e wz5 ⟨rfl, hb⟩
              replace HL1 := Lib.hid (HL1.out.later hb)
              replace HL2 := Lib.hid (HL2.out.later hb)
              replace HW := Lib.hid (HW.out.trans (hb.mono HW.out.size))
              clear hb
              dsimp only
              refine hK.out _ _ (by exact HKS.out _ HW.out) (fun hHeld => ?_)
              clear hK K
              (try simp only [Act.put, List.setIfInBounds_toArray, List.set_cons_zero, List.set_cons_succ])
              refine wpAnyT_take (i := 21) (oi := ⟨some 148, _, _, _, _, _⟩) (v := ?vg7_21) rfl (by kernel_rfl) (by kernel_rfl) (by kernel_rfl) (by kernel_rfl) (fun _ _ _ h => h) (Or.inl ⟨by rfl, ?hg7_21⟩) (by assumption) ?rg7_21
              case hg7_21 => (intro w hSw; (try dsimp only at hSw); first | (go_simp; done) | (go_simp; with_reducible rfl))
              (try simp only [Act.put, List.setIfInBounds_toArray, List.set_cons_zero, List.set_cons_succ])
              refine wpAnyT_take (i := 22) (oi := ⟨some 10, _, _, _, _, _⟩) (v := ?vg7_22) rfl (by kernel_rfl) (by kernel_rfl) (by kernel_rfl) (by kernel_rfl) (fun _ _ _ h => h) (Or.inl ⟨by rfl, ?hg7_22⟩) (by assumption) ?rg7_22
              case hg7_22 => (intro w hSw; (try dsimp only at hSw); first | (go_simp; done) | (go_simp; with_reducible rfl))
              (try simp only [Act.put, List.setIfInBounds_toArray, List.set_cons_zero, List.set_cons_succ])
              refine wpAnyT_done (by kernel_rfl) ?_ _
              go_wp2_with fail
              go_ret
              exact ⟨rfl, HB.out.trans (HW.out.mono HB.out.size)⟩
theorem hamtApart_walk (s : Nat) (n : Int) (s2 : Nat) (n2 : Int) (va : Value) (l : List Op9) (o : Op9) (other : ByteArray) (hss : s < 18446744073709551616) (hss2 : s2 < 18446744073709551616) (_ : other.size ≤ maxLen) (w : World) (hl : Ops9 w va l) (hT : Tabs w) : Calls Tryd.prog 6 #[.agg #[.int .u64 (s : Int), .int .i64 n], .agg #[.int .u64 (s2 : Int), .int .i64 n2], va, .agg (op9C o), .string other] w fun e w' => e = .returned (.bool true) ∧ Below w.heap.size w w' := hamtApart_of s n s2 n2 va l o other w hss hss2 hl hT
end Go.Proofs.YtlngjabjeodkpaaDoor
