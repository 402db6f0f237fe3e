/- Layer 9's law HamtOneShape, over package hamt as it landed. (written by tools/gen09/oneshape9.py) -/
import Derived.Test.YtlngjabjeodkpaaDoorLaw09B
namespace Go.Proofs.YtlngjabjeodkpaaDoor
open Go.RowKit
set_option maxRecDepth 1000000
set_option linter.unusedSimpArgs false

/-- Which keys there are. -/
def hasE (L : List Ent) (k : ByteArray) : Prop := (getE L k).isSome = true
theorem hasE_mem {L : List Ent} (hL : Rise L) {k : ByteArray} : hasE L k ↔ k ∈ keysE L := by
  unfold hasE keysE
  rw [List.mem_map]
  constructor
  · intro h
    obtain ⟨x, hx⟩ := Option.isSome_iff_exists.1 h
    exact ⟨_, (get_mem hL).1 hx, rfl⟩
  · rintro ⟨e, he, rfl⟩
    rw [(get_mem hL).2 he]
    rfl
theorem hasE_ins {L : List Ent} (hL : Rise L) {k j : ByteArray} {x : Int} : hasE (insE L k x) j ↔ j = k ∨ hasE L j := by
  unfold hasE
  by_cases h : j = k
  · subst h
    rw [get_ins_same L j x hL]
    simp
  · rw [get_ins_other hL x h]
    simp [h]
theorem hasE_del {L : List Ent} {k j : ByteArray} : hasE (delE L k) j ↔ j ≠ k ∧ hasE L j := by
  unfold hasE
  by_cases h : j = k
  · subst h
    rw [get_del_same]
    simp
  · rw [get_del_other h]
    simp [h]
/-- Lists that rise and have the same keys have them in the same order. -/
theorem keys_same {L M : List Ent} (hL : Rise L) (hM : Rise M) (h : ∀ k, hasE L k ↔ hasE M k) : keysE L = keysE M := by
  have key : ∀ L : List Ent, Rise L → (keysE L).Pairwise fun a b => kb a < kb b := fun L hL => by
    unfold keysE
    rw [List.pairwise_map]
    exact hL
  have hm : ∀ k, k ∈ keysE L ↔ k ∈ keysE M := fun k => by rw [← hasE_mem hL, ← hasE_mem hM]; exact h k
  have hnd : ∀ L : List Ent, Rise L → (keysE L).Nodup := fun L hL => List.Pairwise.imp (fun h => lt_ne h) (key L hL)
  have hp : (keysE L).Perm (keysE M) := by
    rw [List.perm_ext_iff_of_nodup (hnd L hL) (hnd M hM)]
    exact hm
  exact hp.eq_of_pairwise (fun _ _ _ _ h1 h2 => absurd h2 (lt_asym h1)) (key L hL) (key M hM)
/-- The keys of more are set to 1. -/
def setAll (L : List Ent) (ks : List ByteArray) (x : Int) : List Ent := ks.foldl (fun L k => insE L k x) L
theorem setAll_snoc (L : List Ent) (ks : List ByteArray) (k : ByteArray) (x : Int) : setAll L (ks ++ [k]) x = insE (setAll L ks x) k x := by simp [setAll]
theorem setAll_rise {L : List Ent} (hL : Rise L) (x : Int) : ∀ ks : List ByteArray, Rise (setAll L ks x) := by
  intro ks
  induction ks generalizing L with
  | nil => exact hL
  | cons k ks ih => exact ih (hL.ins k x)
theorem ins_len_le {L : List Ent} (hL : Rise L) (k : ByteArray) (x : Int) : (insE L k x).length ≤ L.length + 1 := by
  rw [len_ins hL]
  split <;> omega
theorem del_len_le (L : List Ent) (k : ByteArray) : (delE L k).length ≤ L.length := List.length_filter_le _ _
theorem setAll_len {L : List Ent} (hL : Rise L) (x : Int) : ∀ ks : List ByteArray, (setAll L ks x).length ≤ L.length + ks.length := by
  intro ks
  induction ks generalizing L with
  | nil => exact Nat.le_refl _
  | cons k ks ih =>
    have h1 := ih (hL.ins k x)
    have h2 := ins_len_le hL k x
    rw [List.length_cons]
    show (setAll (insE L k x) ks x).length ≤ _
    omega
theorem setAll_has {L : List Ent} (hL : Rise L) (x : Int) {j : ByteArray} : ∀ ks : List ByteArray, hasE (setAll L ks x) j ↔ j ∈ ks ∨ hasE L j := by
  intro ks
  induction ks generalizing L with
  | nil => simp [setAll]
  | cons k ks ih =>
    have h := ih (hL.ins k x)
    rw [hasE_ins hL] at h
    show hasE (setAll (insE L k x) ks x) j ↔ _
    rw [h, List.mem_cons]
    constructor
    · rintro (h | h | h)
      · exact .inl (.inr h)
      · exact .inl (.inl h)
      · exact .inr h
    · rintro ((h | h) | h)
      · exact .inr (.inl h)
      · exact .inl h
      · exact .inr (.inr h)
/-- Those that L has not are cut. -/
def cutAll (L : List Ent) (N : List Ent) (ks : List ByteArray) : List Ent := ks.foldl (fun N k => if (getE L k).isSome = true then N else delE N k) N
theorem cutAll_snoc (L N : List Ent) (ks : List ByteArray) (k : ByteArray) : cutAll L N (ks ++ [k]) = if (getE L k).isSome = true then cutAll L N ks else delE (cutAll L N ks) k := by simp [cutAll]
theorem cutAll_rise (L : List Ent) {N : List Ent} (hN : Rise N) : ∀ ks : List ByteArray, Rise (cutAll L N ks) := by
  intro ks
  induction ks generalizing N with
  | nil => exact hN
  | cons k ks ih =>
    show Rise (cutAll L (if (getE L k).isSome = true then N else delE N k) ks)
    split
    · exact ih hN
    · exact ih (hN.del k)
theorem cutAll_len (L : List Ent) (N : List Ent) : ∀ ks : List ByteArray, (cutAll L N ks).length ≤ N.length := by
  intro ks
  induction ks generalizing N with
  | nil => exact Nat.le_refl _
  | cons k ks ih =>
    show (cutAll L (if (getE L k).isSome = true then N else delE N k) ks).length ≤ _
    split
    · exact ih N
    · exact Nat.le_trans (ih _) (del_len_le N k)
theorem cutAll_has (L : List Ent) {j : ByteArray} : ∀ (ks : List ByteArray) (N : List Ent), hasE (cutAll L N ks) j ↔ hasE N j ∧ (hasE L j ∨ j ∉ ks) := by
  intro ks
  induction ks with
  | nil => intro N; simp [cutAll]
  | cons k ks ih =>
    intro N
    show hasE (cutAll L (if (getE L k).isSome = true then N else delE N k) ks) j ↔ _
    rw [ih, List.mem_cons, not_or]
    by_cases hk : (getE L k).isSome = true
    · rw [if_pos hk]
      by_cases hj : hasE L j
      · simp [hj]
      · have hne : j ≠ k := fun e => hj (by rw [e]; exact hk)
        simp [hj, hne]
    · rw [if_neg hk, hasE_del]
      by_cases hj : hasE L j
      · have hne : j ≠ k := fun e => hk (by rw [← e]; exact hj)
        simp [hj, hne]
      · constructor
        · rintro ⟨⟨h1, h2⟩, h3⟩
          exact ⟨h2, .inr ⟨h1, h3.resolve_left hj⟩⟩
        · rintro ⟨h1, h2⟩
          obtain ⟨h3, h4⟩ := h2.resolve_left hj
          exact ⟨⟨h3, h1⟩, .inr h4⟩
/-- What HamtOneShape makes has just the keys. -/
theorem one_keys {L : List Ent} (hL : Rise L) (more : List ByteArray) : keysE (cutAll L (setAll (setAll [] more 1) (keysE L).reverse 2) more) = keysE L := by
  have h1 := setAll_rise Rise.nil 1 more
  have h2 := setAll_rise h1 2 (keysE L).reverse
  refine keys_same (cutAll_rise L h2 more) hL fun k => ?_
  rw [cutAll_has, setAll_has h1, setAll_has Rise.nil, List.mem_reverse, ← hasE_mem hL]
  have h0 : ¬ hasE [] k := by simp [hasE, getE]
  by_cases hk : hasE L k
  · simp [hk]
  · simp [hk, h0]
set_option maxHeartbeats 8000000 in
theorem hamtOneShape_of (s : Nat) (n : Int) (va : Value) (l : List Op9) (vm : Value) (more : List ByteArray) (w : World) (hss : s < 18446744073709551616) (hl : Ops9 w va l) (hm : StrsAt w vm more) (hT : Tabs w) :
    Calls Tryd.prog 5 #[.agg #[.int .u64 (s : Int), .int .i64 n], va, vm] w fun e w' => e = .returned (.bool true) ∧ Below w.heap.size w w' := by
  have HTB := Lib.hid hT
  have HFEWl := Lib.hid (fun W (h : Below w.heap.size w W) => few9 va l W (hl.later h))
  obtain ⟨adl, capl, bbl, ool, rfl, hl1, hl2, hl3⟩ := hl
  have HLl := Lib.hid (And.intro hl1 hl2)
  have HMO := Lib.hid hm
  obtain ⟨adm, capm, rfl, hmm⟩ := hm.shape
  have hm63 : (more.length : Int) ≤ 9223372036854775807 := by unfold maxLen at hmm; omega
  clear hT hl1 hl2 hl3 hm hmm
  by_cases hf1 : few9B l = true
  case neg =>
    rw [show few9B l = false by simpa using hf1] at HFEWl
    as_aux_lemma =>
    go_enter Tryd.func5, Tryd.ntmps5
    go_upto_region 1 with fail
    obtain ⟨w0, hw0⟩ : ∃ w0, w.alloc (.cells #[.int .u64 (s : Int), .int .i64 n] 24) = w0 := ⟨_, rfl⟩
    obtain ⟨hb, hx, hs0⟩ := new_below hw0
    have HC := Lib.hid hx
    have HB := Lib.hid hb
    rw [hw0]
    clear hx hb hw0 hs0
    go_wp2_with (first
      | (go_at_call 7; (with_reducible refine (live9 _ (HTB.out.later HB.out)).mono ?_); rintro e w1 ⟨rfl, hb⟩; replace HC := Lib.hid ((hb.block _ (Array.getElem?_eq_some_iff.1 HC.out).1).trans HC.out); replace HB := Lib.hid (HB.out.trans (hb.mono HB.out.size)); clear hb)
      | (go_at_call 8; (with_reducible refine (HFEWl.out _ HB.out).mono ?_); rintro e w1 ⟨rfl, hb⟩; replace HC := Lib.hid ((hb.block _ (Array.getElem?_eq_some_iff.1 HC.out).1).trans HC.out); replace HB := Lib.hid (HB.out.trans (hb.mono HB.out.size)); clear hb))
    go_ret
    exact ⟨rfl, HB.out⟩
  have HFl := Lib.hid (few9_ops hf1)
  rw [hf1] at HFEWl
  clear hf1
  by_cases hf3 : (more.length : Int) ≤ 60
  case neg =>
    have hf3' : (60 : Int) < (more.length : Int) := by omega
    clear hf3
    as_aux_lemma =>
    go_enter Tryd.func5, Tryd.ntmps5
    go_upto_region 1 with fail
    obtain ⟨w0, hw0⟩ : ∃ w0, w.alloc (.cells #[.int .u64 (s : Int), .int .i64 n] 24) = w0 := ⟨_, rfl⟩
    obtain ⟨hb, hx, hs0⟩ := new_below hw0
    have HC := Lib.hid hx
    have HB := Lib.hid hb
    rw [hw0]
    clear hx hb hw0 hs0
    go_wp2_with (first
      | (go_at_call 7; (with_reducible refine (live9 _ (HTB.out.later HB.out)).mono ?_); rintro e w1 ⟨rfl, hb⟩; replace HC := Lib.hid ((hb.block _ (Array.getElem?_eq_some_iff.1 HC.out).1).trans HC.out); replace HB := Lib.hid (HB.out.trans (hb.mono HB.out.size)); clear hb)
      | (go_at_call 8; (with_reducible refine (HFEWl.out _ HB.out).mono ?_); rintro e w1 ⟨rfl, hb⟩; replace HC := Lib.hid ((hb.block _ (Array.getElem?_eq_some_iff.1 HC.out).1).trans HC.out); replace HB := Lib.hid (HB.out.trans (hb.mono HB.out.size)); clear hb))
    go_ret
    exact ⟨rfl, HB.out⟩
  have HM60 : Hid (more.length ≤ 60) := by show _ ≤ _; omega
  have hl120 : (l.length : Int) ≤ 120 := by have := HFl.out.2; omega
  go_enter Tryd.func5, Tryd.ntmps5
  go_upto_region 1 with fail
  obtain ⟨w0, hw0⟩ : ∃ w0, w.alloc (.cells #[.int .u64 (s : Int), .int .i64 n] 24) = w0 := ⟨_, rfl⟩
  obtain ⟨hb, hx, hs0⟩ := new_below hw0
  have HC := Lib.hid hx
  have HB := Lib.hid hb
  rw [hw0]
  clear hx hb hw0 hs0
  go_upto_region 3 with (first
      | (go_at_call 7; (with_reducible refine (live9 _ (HTB.out.later HB.out)).mono ?_); rintro e w1 ⟨rfl, hb⟩; replace HC := Lib.hid ((hb.block _ (Array.getElem?_eq_some_iff.1 HC.out).1).trans HC.out); replace HB := Lib.hid (HB.out.trans (hb.mono HB.out.size)); clear hb)
      | (go_at_call 8; (with_reducible refine (HFEWl.out _ HB.out).mono ?_); rintro e w1 ⟨rfl, hb⟩; replace HC := Lib.hid ((hb.block _ (Array.getElem?_eq_some_iff.1 HC.out).1).trans HC.out); replace HB := Lib.hid (HB.out.trans (hb.mono HB.out.size)); clear hb))
  have HD : Hid (w.heap.size < w1.heap.size) := (Array.getElem?_eq_some_iff.1 HC.out).1
  have HKS : Hid (∀ V, Below w1.heap.size w1 V → V.heap[w.heap.size]? = some (.cells #[.int .u64 (s : Int), .int .i64 n] 24 (0, 0))) := fun V hV => (hV.block _ (Array.getElem?_eq_some_iff.1 HC.out).1).trans HC.out
  have HW : Hid (Below w1.heap.size w1 w1.drew) := drawn_below w1
  refine wp_region_T (S := (fun V => V.heap[w.heap.size]? = some (.cells #[.int .u64 (s : Int), .int .i64 n] 24 (0, 0)))) [6, 7] (by kernel_rfl) (by exact HKS.out _ HW.out) (fun hHeld => ?_)
  refine wpAnyT_take (i := 0) (oi := ⟨some 32, _, _, _, _, _⟩) (v := _) rfl (by kernel_rfl) (by kernel_rfl) (by kernel_rfl) (by kernel_rfl) (fun _ _ _ h => h) (yieldsIf_load_row (by rfl) 24 _ rfl w.heap.size rfl #[.int .u64 (s : Int), .int .i64 n] 24 (0, 0) _ (fun w hw => hw) Tryd.underlying24 rfl (by exact api_size)) (by assumption) ?_
  (try simp only [Act.put, List.setIfInBounds_toArray, List.set_cons_zero, List.set_cons_succ])
  refine wpAnyT_take (i := 2) (oi := ⟨some 34, _, _, _, _, _⟩) (v := _) rfl (by kernel_rfl) (by kernel_rfl) (by kernel_rfl) (by kernel_rfl) (fun _ _ _ h => h) (yieldsIf_load_row (by rfl) 24 _ rfl w.heap.size rfl #[.int .u64 (s : Int), .int .i64 n] 24 (0, 0) _ (fun w hw => hw) Tryd.underlying24 rfl (by exact api_size)) (by assumption) ?_
  (try simp only [Act.put, List.setIfInBounds_toArray, List.set_cons_zero, List.set_cons_succ])
  refine wpAnyT_groupA (n := 2) [1, 3, 4, 5] (fun a0 m b V => ∃ val : Nat → Value, b = ((((a0.put (some 33) (val 1)).put (some 35) (val 3)).put (some 7) (val 4)).put (some 8) (val 5)) ∧ Gr GotM 36 #[.int .u64 0, .int .i64 0, .int .i64 0, .int .u32 0, .slice none 0 0, .slice none 0 0] [4, 5] [(1, (s, n, [])), (3, (s, n, []))] w1.drew V m val) rfl (by kernel_rfl) ⟨fun _ => undef, rfl, Gr.start _⟩ (by assumption) ?step3 ?done3
  case step3 =>
    as_aux_lemma =>
    clear hHeld
    rintro m i b V hi - hw ⟨val, rfl, hG⟩ hS
    (try simp only [Act.put, List.setIfInBounds_toArray, List.set_cons_zero, List.set_cons_succ])
    have HG := Lib.hid hG
    clear hG hS hw
    rcases (by simp only [List.mem_cons, List.not_mem_nil, or_false] at hi; omega : i = 1 ∨ i = 3 ∨ i = 4 ∨ i = 5) with rfl | rfl | rfl | rfl
    · refine group_one (o := ⟨some 33, _, _, _, _, _⟩) rfl (fun K hK => ?_)
      go_simp
      go_at_call 9
      (with_reducible refine (hm_New V s n (fun _ => True)).mono ?_)
      rintro e V2 ⟨c, rfl, hr, hb⟩

      dsimp only
      refine hK.out _ _ (by exact HKS.out _ (HW.out.trans ((HG.out.bel.trans (hb.mono HG.out.bel.size)).mono HW.out.size))) ⟨_, rfl, Gr.call (R := GotM) (fun A B v x h hb => gotM_later h hb) HG.out hb (by decide) (fun g hg e => ?_)⟩
      · simp only [List.mem_cons, List.not_mem_nil, or_false] at hg
        rcases hg with rfl | rfl <;> first | (exfalso; simp at e; done) | exact ⟨_, rfl, hr⟩
    · refine group_one (o := ⟨some 35, _, _, _, _, _⟩) rfl (fun K hK => ?_)
      go_simp
      go_at_call 9
      (with_reducible refine (hm_New V s n (fun _ => True)).mono ?_)
      rintro e V2 ⟨c, rfl, hr, hb⟩

      dsimp only
      refine hK.out _ _ (by exact HKS.out _ (HW.out.trans ((HG.out.bel.trans (hb.mono HG.out.bel.size)).mono HW.out.size))) ⟨_, rfl, Gr.call (R := GotM) (fun A B v x h hb => gotM_later h hb) HG.out hb (by decide) (fun g hg e => ?_)⟩
      · simp only [List.mem_cons, List.not_mem_nil, or_false] at hg
        rcases hg with rfl | rfl <;> first | (exfalso; simp at e; done) | exact ⟨_, rfl, hr⟩
    · refine group_one (o := ⟨some 7, _, _, _, _, _⟩) rfl (fun K hK => ?_)
      go_simp
      refine hK.out _ _ (by exact HKS.out _ (HW.out.trans ((HG.out.bel.trans ((Below.newly' V _).mono HG.out.bel.size)).mono HW.out.size))) ⟨_, rfl, Gr.alloc (R := GotM) (gots := [(1, (s, n, [])), (3, (s, n, []))]) (fun A B v x h hb => gotM_later h hb) HG.out (fun g hg e => by simp only [List.mem_cons, List.not_mem_nil, or_false] at hg; rcases hg with rfl | rfl <;> (simp at e))⟩
    · refine group_one (o := ⟨some 8, _, _, _, _, _⟩) rfl (fun K hK => ?_)
      go_simp
      refine hK.out _ _ (by exact HKS.out _ (HW.out.trans ((HG.out.bel.trans ((Below.newly' V _).mono HG.out.bel.size)).mono HW.out.size))) ⟨_, rfl, Gr.alloc (R := GotM) (gots := [(1, (s, n, [])), (3, (s, n, []))]) (fun A B v x h hb => gotM_later h hb) HG.out (fun g hg e => by simp only [List.mem_cons, List.not_mem_nil, or_false] at hg; rcases hg with rfl | rfl <;> (simp at e))⟩
  case done3 =>
    clear hHeld
    rintro m b V hm ⟨val, rfl, hG⟩ -
    obtain ⟨X, e1, g1, z1⟩ := hG.made 4 (by decide) (hm 4 rfl)
    obtain ⟨X2, e2, g2, z2⟩ := hG.made 5 (by decide) (hm 5 rfl)
    have n12 : X ≠ X2 := fun e => hG.apart 4 (by decide) 5 (by decide) (hm 4 rfl) (hm 5 rfl) (by decide) (by rw [e1, e2, e])
    obtain ⟨cg1, f1, hr1⟩ := hG.got (1, (s, n, [])) (by simp) (hm 1 rfl)
    obtain ⟨cg2, f2, hr2⟩ := hG.got (3, (s, n, [])) (by simp) (hm 3 rfl)
    have HBL : Hid (Below w1.heap.size w1 V) := HW.out.trans (hG.bel.mono HW.out.size)
    rw [e1, e2, f1, f2]
    dsimp only at hr1 hr2
    have g1' : w1.heap.size ≤ X := g1
    have g2' : w1.heap.size ≤ X2 := g2
    have HRS1 := Lib.hid hr1
    have HRS2 := Lib.hid hr2
    have HNE := Lib.hid (And.intro n12 (And.intro g1' g2'))
    have HZV1 := Lib.hid z1
    have HZV2 := Lib.hid z2
    clear hG hm e1 e2 g1 g2 z1 z2 n12 g1' g2' f1 hr1 f2 hr2
    (try simp only [Act.put, List.setIfInBounds_toArray, List.set_cons_zero, List.set_cons_succ])
    have hml1 : ML V s n [] cg1 := HRS1.out
    have hml2 : ML V s n [] cg2 := HRS2.out
    refine wpAnyT_last (i := 6) (o := ⟨none, _, _, _, _, _⟩) (by kernel_rfl) (by decide) rfl (fun K hK => ?_)
    rw [if_pos (by rfl)]
    refine st_agg_wp 36 _ _ rfl X cg1 rfl rfl 36 #[.int .u64 0, .int .i64 0, .int .i64 0, .int .u32 0, .slice none 0 0, .slice none 0 0] (HZV1.out) (by rw [hml1.size]; exact map_size) (by rw [hml1.size]; rfl) hml1.one ?_
    intro wS1 hs1 ks1
    refine hK.out _ _ ?_
    clear hK K
    (try simp only [Act.put, List.setIfInBounds_toArray, List.set_cons_zero, List.set_cons_succ])
    have hz2 := ks1.other HZV2.out (fun e => HNE.out.1 e.symm)
    refine wpAnyT_last (i := 7) (o := ⟨none, _, _, _, _, _⟩) (by kernel_rfl) (by decide) rfl (fun K hK => ?_)
    rw [if_pos (by rfl)]
    refine st_agg_wp 36 _ _ rfl X2 cg2 rfl rfl 36 #[.int .u64 0, .int .i64 0, .int .i64 0, .int .u32 0, .slice none 0 0, .slice none 0 0] (hz2) (by rw [hml2.size]; exact map_size) (by rw [hml2.size]; rfl) hml2.one ?_
    intro wS2 hs2 ks2
    refine hK.out _ _ ?_
    clear hK K
    (try simp only [Act.put, List.setIfInBounds_toArray, List.set_cons_zero, List.set_cons_succ])
    refine wpAnyT_done (by kernel_rfl) ?_ _
    have HM : Hid (MB wS2 s n [] X) := MB.only (MB.wrote hs1 ks1 HZV1.out hml1) ks2 hz2 HNE.out.1 (by decide)
    have HN : Hid (MB wS2 s n [] X2) := MB.wrote hs2 ks2 hz2 (hml2.but ks1 HZV1.out (by decide))
    replace HB := Lib.hid (HB.out.trans (HBL.out.mono HB.out.size))
    have HNE2 := HNE.out
    replace HB := Lib.hid (HB.out.trans (ks1.below (by have h := HD.out; have h2 := HNE.out; omega)))
    replace HB := Lib.hid (HB.out.trans (ks2.below (by have h := HD.out; have h2 := HNE.out; omega)))
    clear HKS HW HBL HZV1 HZV2 hz2 hs1 hs2 ks1 ks2 hml1 hml2 HNE2 HRS1 HRS2
    have HD0 : Hid (w.heap.size < X ∧ w.heap.size < X2 ∧ X ≠ X2) := by
      show _ ∧ _ ∧ _
      have h1 := HD.out
      have h2 := HNE.out
      omega
    clear HD HNE HC
    have HD := HD0
    clear HD0
    go_wp2_with fail
    go_loopw [38] (fun i wl => ∃ j : Nat, i = .int .i64 (j : Int) ∧ j ≤ l.length ∧ Hid (MB wl s n (runE [] (l.take j)) X) ∧ Hid (MB wl s n [] X2) ∧ Hid (Below w.heap.size w wl)) (fun i _ => l.length - (intOf i).toNat)
    case atStart => exact ⟨0, rfl, Nat.zero_le _, HM, HN, HB⟩
    case round =>
      clear HM HN HB
      obtain ⟨j, rfl, hj, HM, HN, HB⟩ := hrel
      by_cases hlt : j < l.length
      · as_aux_lemma =>
        have hlt' : (j : Int) < (l.length : Int) := by omega
        have had : adl = some ⟨bbl, ool, none⟩ := HLl.out.1 (by omega)
        subst had
        have HOP := Lib.hid ((HLl.out.2 j hlt).later HB.out)
        have HRI := Lib.hid (run_rise l j)
        have HLN : Hid ((runE [] (l.take j)).length ≤ 40000) := by show _ ≤ _; have := run_len l j; have := HFl.out.2; omega
        have HKL := Lib.hid (HFl.out.1 _ (List.getElem_mem hlt))
        have HEA := Lib.hid (run_take l hlt)
        obtain ⟨o, ho⟩ : ∃ o, o = l[j] := ⟨_, rfl⟩
        obtain ⟨D, hDD⟩ : ∃ D, D = runE [] (l.take j) := ⟨_, rfl⟩
        rw [← ho] at HOP HKL HEA
        rw [← hDD] at HM HRI HLN HEA
        have HLT := Lib.hid hlt
        clear ho hDD
        go_upto_region 7 with (refine ld_op9 (by rfl) _ rfl bbl (ool + j * 3) rfl o HOP.out ?_)
        obtain ⟨OB, hOB⟩ : ∃ OB, OB = wr.heap.size := ⟨_, rfl⟩
        have hb6 := Below.newly' wr (.cells (op9C o) 43)
        have HO : Hid ((wr.alloc (.cells (op9C o) 43)).heap[OB]? = some (.cells (op9C o) 43 (0, 0))) := by show _ = _; rw [hOB]; exact heap_alloc_last _ _
        replace HM := Lib.hid (HM.out.later hb6)
        replace HN := Lib.hid (HN.out.later hb6)
        replace HB := Lib.hid (HB.out.trans (hb6.mono HB.out.size))
        obtain ⟨w6, hw6⟩ : ∃ w6, wr.alloc (.cells (op9C o) 43) = w6 := ⟨_, rfl⟩
        rw [hw6] at HM HN HB HO
        rw [hw6, ← hOB]
        clear hb6 hw6 hOB HOP
        obtain ⟨ca, hxa, hma⟩ := HM.out
        have HXa := Lib.hid hxa
        have HLa := Lib.hid hma
        have HSa := Lib.hid hma.size
        clear hxa hma
        go_wp2_with (first
        | (refine ld_if (by rfl) 36 _ rfl X rfl 36 _ _ _ HXa.out Tryd.underlying36 rfl (by rw [HSa.out]; exact map_size) ?_)
        | (refine ld_if (by rfl) 43 _ rfl OB rfl 43 _ _ _ HO.out Tryd.underlying43 rfl (by exact op9_size) ?_)
        | (go_at_call 10; (with_reducible refine (does9 _ s hss n D _ o HLa.out HRI.out HLN.out HKL.out (HTB.out.later HB.out).six).mono ?_); rintro e wq1 ⟨cq, rfl, hq, hb⟩; have HQ := Lib.hid hq; replace HXa := Lib.hid ((hb.block _ (Array.getElem?_eq_some_iff.1 HXa.out).1).trans HXa.out); replace HN := Lib.hid (HN.out.later hb); replace HB := Lib.hid (HB.out.trans (hb.mono HB.out.size)); clear hq hb)
        | (refine st_agg rfl 36 _ _ rfl X cq rfl rfl 36 _ HXa.out (by rw [HQ.out.size]; exact map_size) (by rw [HSa.out, HQ.out.size]) HQ.out.one ?_
           intro wq2 hs2 ks2
           replace HN := Lib.hid (HN.out.only ks2 HXa.out (by have h := HD.out; omega) (by decide))
           replace HB := Lib.hid (HB.out.trans (ks2.below (by have h := HD.out; omega)))
           replace HM : Hid (MB wq2 s n (doE D o) X) := MB.wrote hs2 ks2 HXa.out HQ.out
           clear hs2 ks2))
        go_roundw
        case rel => exact ⟨j + 1, by simp, by have := HLT.out; omega, by rw [HEA.out]; exact HM, HN, HB⟩
        case measure => have := HLT.out; simp [intOf]; omega
      · obtain rfl : j = l.length := by omega
        have hRI := run_rise l l.length
        have hLN : (runE [] (l.take l.length)).length ≤ 120 := by have := run_len l l.length; have := HFl.out.2; omega
        have hSH := run_short l HFl.out.1 l.length
        obtain ⟨L, hL⟩ : ∃ L, L = runE [] (l.take l.length) := ⟨_, rfl⟩
        rw [← hL] at hRI hLN HM hSH
        have HRL := Lib.hid (And.intro hRI (And.intro hLN hSH))
        clear hL hRI hLN hSH
        go_wp2_with fail
        go_loopw [48] (fun i wl => ∃ j : Nat, i = .int .i64 (j : Int) ∧ j ≤ more.length ∧ Hid (MB wl s n L X) ∧ Hid (MB wl s n (setAll [] (more.take j) 1) X2) ∧ Hid (∀ k ∈ more.take j, k.size ≤ 200) ∧ Hid (Below w.heap.size w wl)) (fun i _ => more.length - (intOf i).toNat)
        case atStart => exact ⟨0, rfl, Nat.zero_le _, HM, HN, (by simp : ∀ k ∈ more.take 0, k.size ≤ 200), HB⟩
        case round =>
          clear HM HN HB
          obtain ⟨j, rfl, hj, HM, HN, H2H, HB⟩ := hrel
          by_cases hlt : j < more.length
          · as_aux_lemma =>
            have hlt' : (j : Int) < (more.length : Int) := by omega
            obtain ⟨gm, om, cm, em, _, hcm⟩ := (HMO.out.later HB.out).cell hlt
            simp only [Value.slice.injEq] at em
            obtain ⟨rfl, hem, rfl⟩ := em
            clear hem
            have HEA : Hid (setAll [] (more.take (j + 1)) 1 = insE (setAll [] (more.take j) 1) more[j] 1) := by show _ = _; rw [List.take_succ_eq_append_getElem hlt, setAll_snoc]
            have HRI := Lib.hid (setAll_rise Rise.nil 1 (more.take j))
            have HLN : Hid ((setAll [] (more.take j) 1).length ≤ 60) := by show _ ≤ _; have h := setAll_len Rise.nil 1 (more.take j); rw [List.length_take, List.length_nil] at h; have := HM60.out; omega
            have HTKM := Lib.hid (List.take_succ_eq_append_getElem hlt)
            obtain ⟨ky, hky⟩ : ∃ ky, ky = more[j] := ⟨_, rfl⟩
            obtain ⟨D, hDD⟩ : ∃ D, D = setAll [] (more.take j) 1 := ⟨_, rfl⟩
            rw [← hky] at hcm HEA HTKM
            rw [← hDD] at HN HRI HLN HEA
            have HLT := Lib.hid hlt
            clear hky hDD
            by_cases hk2 : (200 : Int) < (ky.size : Int)
            · go_wp2_with fail
              go_ret
              exact ⟨rfl, HB.out⟩
            · have HKL : Hid (ky.size ≤ 200) := by show _ ≤ _; omega
              obtain ⟨cb, hxb, hmb⟩ := HN.out
              have HXb := Lib.hid hxb
              have HLb := Lib.hid hmb
              have HSb := Lib.hid hmb.size
              clear hxb hmb
              go_wp2_with (first
            | (refine ld_if (by rfl) 36 _ rfl X2 rfl 36 _ _ _ HXb.out Tryd.underlying36 rfl (by rw [HSb.out]; exact map_size) ?_)
            | (go_at_call 16; (with_reducible refine (ml_Set _ s hss n D _ ky 1 (by have := HKL.out; omega) HLb.out HRI.out (by have := HLN.out; omega) (HTB.out.later HB.out).six).mono ?_); rintro e wq1 ⟨cq, rfl, hq, hb⟩; have HQ := Lib.hid hq; replace HXb := Lib.hid ((hb.block _ (Array.getElem?_eq_some_iff.1 HXb.out).1).trans HXb.out); replace HM := Lib.hid (HM.out.later hb); replace HB := Lib.hid (HB.out.trans (hb.mono HB.out.size)); clear hq hb)
            | (refine st_agg rfl 36 _ _ rfl X2 cq rfl rfl 36 _ HXb.out (by rw [HQ.out.size]; exact map_size) (by rw [HSb.out, HQ.out.size]) HQ.out.one ?_
               intro wq2 hs2 ks2
               replace HM := Lib.hid (HM.out.only ks2 HXb.out (by have h := HD.out; omega) (by decide))
               replace HB := Lib.hid (HB.out.trans (ks2.below (by have h := HD.out; omega)))
               replace HN : Hid (MB wq2 s n (insE D ky 1) X2) := MB.wrote hs2 ks2 HXb.out HQ.out
               clear hs2 ks2))
              go_roundw
              case rel => exact ⟨j + 1, by simp, by have := HLT.out; omega, HM, by rw [HEA.out]; exact HN, (by
                  show ∀ k ∈ more.take (j + 1), k.size ≤ 200
                  intro k hk
                  rw [HTKM.out, List.mem_append, List.mem_singleton] at hk
                  rcases hk with hk | rfl
                  · exact H2H.out k hk
                  · exact HKL.out), HB⟩
              case measure => have := HLT.out; simp [intOf]; omega
          · obtain rfl : j = more.length := by omega
            rw [List.take_length] at HN
            rw [List.take_length] at H2H
            obtain ⟨N1, hN1⟩ : ∃ N1, N1 = setAll [] more 1 := ⟨_, rfl⟩
            have HN1 : Hid (Rise N1 ∧ N1.length ≤ 60) := by
              show _ ∧ _
              rw [hN1]
              have h := setAll_len Rise.nil 1 more
              rw [List.length_nil] at h
              exact ⟨setAll_rise Rise.nil 1 more, by have := HM60.out; omega⟩
            rw [← hN1] at HN
            have HN1E := Lib.hid hN1
            clear hN1
            obtain ⟨ca, hxa, hma⟩ := HM.out
            have HXa := Lib.hid hxa
            have HLa := Lib.hid hma
            have HSa := Lib.hid hma.size
            clear hxa hma
            go_upto_region 17 with (first
                | (refine ld_if (by rfl) 36 _ rfl X rfl 36 _ _ _ HXa.out Tryd.underlying36 rfl (by rw [HSa.out]; exact map_size) ?_)
                | (go_at_call 14; (with_reducible refine (ml_Keys _ s n L _ HLa.out HRL.out.1 (by have := HRL.out.2.1; omega) (HTB.out.later HB.out).six).mono ?_); rintro e wk ⟨vk, rfl, hk, hb⟩; have HKE := Lib.hid hk.lsS; replace HM := Lib.hid (HM.out.later hb); replace HN := Lib.hid (HN.out.later hb); replace HB := Lib.hid (HB.out.trans (hb.mono HB.out.size)); clear hk hb))
            clear HXa HLa HSa
            obtain ⟨ak, ck, rfl, _⟩ := HKE.out.shape
            obtain ⟨K, hK⟩ : ∃ K, K = (keysE L).length := ⟨_, rfl⟩
            have HKL2 := Lib.hid hK
            have hK3 : (K : Int) ≤ 120 := by rw [hK, keysE_len]; have := HRL.out.2.1; omega
            rw [← hK] at HKE ⊢
            clear hK
            go_wp2_with fail
            go_loopw [63] (fun i wl => ∃ j : Nat, i = .int .i64 (j : Int) ∧ j ≤ K ∧ Hid (MB wl s n L X) ∧ Hid (MB wl s n (setAll N1 ((keysE L).reverse.take j) 2) X2) ∧ Hid (LsS wl (.slice ak K ck) (keysE L)) ∧ Hid (Below w.heap.size w wl)) (fun i _ => K - (intOf i).toNat)
            case atStart => exact ⟨0, rfl, Nat.zero_le _, HM, HN, HKE, HB⟩
            case round =>
              clear HM HN HKE HB
              obtain ⟨j, rfl, hj, HM, HN, HKE, HB⟩ := hrel
              by_cases hlt : j < K
              · as_aux_lemma =>
                obtain ⟨J, hJ⟩ : ∃ J, J = K - 1 - j := ⟨_, rfl⟩
                obtain ⟨K1, hK1⟩ : ∃ K1, K1 = K - 1 := ⟨_, rfl⟩
                have hJK : J < (keysE L).length := by rw [← HKL2.out]; omega
                obtain ⟨gk, dk, ek, hck⟩ := HKE.out.cell hJK
                simp only [Value.slice.injEq] at ek
                obtain ⟨rfl, hek, rfl⟩ := ek
                clear hek
                have hrj : j < (keysE L).reverse.length := by rw [List.length_reverse, ← HKL2.out]; exact hlt
                have hrev : (keysE L).reverse[j] = (keysE L)[J] := by
                  rw [List.getElem_reverse]
                  congr 1
                  rw [← HKL2.out]
                  exact hJ.symm
                have HEA : Hid (setAll N1 ((keysE L).reverse.take (j + 1)) 2 = insE (setAll N1 ((keysE L).reverse.take j) 2) (keysE L)[J] 2) := by show _ = _; rw [List.take_succ_eq_append_getElem hrj, setAll_snoc, hrev]
                have HRI := Lib.hid (setAll_rise HN1.out.1 2 ((keysE L).reverse.take j))
                have HLN : Hid ((setAll N1 ((keysE L).reverse.take j) 2).length ≤ 200) := by
                  show _ ≤ _
                  have h := setAll_len HN1.out.1 2 ((keysE L).reverse.take j)
                  rw [List.length_take, List.length_reverse, ← HKL2.out] at h
                  have := HN1.out.2
                  omega
                have hkm : (keysE L)[J].size ≤ 200 := by
                  have hm := List.getElem_mem hJK
                  unfold keysE at hm
                  obtain ⟨e, he, hee⟩ := List.mem_map.1 hm
                  have := HRL.out.2.2 e he
                  rw [hee] at this
                  exact this
                obtain ⟨ky, hky⟩ : ∃ ky, ky = (keysE L)[J] := ⟨_, rfl⟩
                obtain ⟨D, hDD⟩ : ∃ D, D = setAll N1 ((keysE L).reverse.take j) 2 := ⟨_, rfl⟩
                rw [← hky] at hck HEA hkm
                rw [← hDD] at HN HRI HLN HEA
                have HLT := Lib.hid hlt
                have HKL := Lib.hid hkm
                have hlt' : (j : Int) < (K : Int) := by omega
                have i0 : (0 : Int) ≤ (j : Int) := by omega
                have w1e : IntKind.i64.wrap ((K : Int) - 1) = (K1 : Int) := by rw [IntKind.wrap_i64]; omega
                have w2e : IntKind.i64.wrap ((K1 : Int) - (j : Int)) = (J : Int) := by rw [IntKind.wrap_i64]; omega
                have hJi : (J : Int) < (K : Int) := by omega
                have hJn : J < K := by omega
                have hJ0 : (0 : Int) ≤ (J : Int) := by omega
                have HCK := Lib.hid hck
                clear hky hDD hkm hrev hrj hJK hck hJ hK1
                obtain ⟨cb, hxb, hmb⟩ := HN.out
                have HXb := Lib.hid hxb
                have HLb := Lib.hid hmb
                have HSb := Lib.hid hmb.size
                clear hxb hmb
                go_upto_region 20 with fail
                have HKS : Hid (∀ V, Below wr.heap.size wr V → V.heap[X2]? = some (.cells cb 36 (0, 0)) ∧ V.cell? ⟨gk, J, none⟩ = some (.string ky)) := fun V hV => ⟨(hV.block _ (Array.getElem?_eq_some_iff.1 HXb.out).1).trans HXb.out, (hV.cell (World.block_lt_of_cell? wr _ HCK.out)).trans HCK.out⟩
                have HW : Hid (Below wr.heap.size wr wr.drew) := drawn_below wr
                refine wp_region_T (S := (fun V => V.heap[X2]? = some (.cells cb 36 (0, 0)) ∧ V.cell? ⟨gk, J, none⟩ = some (.string ky))) [10] (by kernel_rfl) (by exact HKS.out _ HW.out) (fun hHeld => ?_)
                refine wpAnyT_take (i := 0) (oi := ⟨some 66, _, _, _, _, _⟩) (v := _) rfl (by kernel_rfl) (by kernel_rfl) (by kernel_rfl) (by kernel_rfl) (fun _ _ _ h => h) (yieldsIf_load_row (by rfl) 36 _ rfl X2 rfl cb 36 (0, 0) _ (fun w hw => hw.1) Tryd.underlying36 rfl (by rw [HSb.out]; exact map_size)) (by assumption) ?_
                (try simp only [Act.put, List.setIfInBounds_toArray, List.set_cons_zero, List.set_cons_succ])
                refine wpAnyT_take (i := 1) (oi := ⟨some 67, _, _, _, _, _⟩) (v := ?vg2_1) rfl (by kernel_rfl) (by kernel_rfl) (by kernel_rfl) (by kernel_rfl) (fun _ _ _ h => h) (Or.inl ⟨by rfl, ?hg2_1⟩) (by assumption) ?rg2_1
                case hg2_1 => (intro w hSw; (try dsimp only at hSw); first | (go_simp; done) | (go_simp; with_reducible rfl))
                (try simp only [Act.put, List.setIfInBounds_toArray, List.set_cons_zero, List.set_cons_succ])
                refine wpAnyT_take (i := 2) (oi := ⟨some 68, _, _, _, _, _⟩) (v := ?vg2_2) rfl (by kernel_rfl) (by kernel_rfl) (by kernel_rfl) (by kernel_rfl) (fun _ _ _ h => h) (Or.inl ⟨by rfl, ?hg2_2⟩) (by assumption) ?rg2_2
                case hg2_2 => (intro w hSw; (try dsimp only at hSw); first | (go_simp; done) | (go_simp; with_reducible rfl))
                (try simp only [Act.put, List.setIfInBounds_toArray, List.set_cons_zero, List.set_cons_succ])
                refine wpAnyT_take (i := 3) (oi := ⟨some 69, _, _, _, _, _⟩) (v := ?vg2_3) rfl (by kernel_rfl) (by kernel_rfl) (by kernel_rfl) (by kernel_rfl) (fun _ _ _ h => h) (Or.inl ⟨by rfl, ?hg2_3⟩) (by assumption) ?rg2_3
                case hg2_3 => (intro w hSw; (try dsimp only at hSw); first | (go_simp; done) | (go_simp; with_reducible rfl))
                (try simp only [Act.put, List.setIfInBounds_toArray, List.set_cons_zero, List.set_cons_succ])
                refine wpAnyT_take (i := 4) (oi := ⟨some 70, _, _, _, _, _⟩) (v := ?vg2_4) rfl (by kernel_rfl) (by kernel_rfl) (by kernel_rfl) (by kernel_rfl) (fun _ _ _ h => h) (Or.inl ⟨by rfl, ?hg2_4⟩) (by assumption) ?rg2_4
                case hg2_4 => (intro w hSw; (try dsimp only at hSw); first | (go_simp; done) | (go_simp; with_reducible rfl))
                (try simp only [Act.put, List.setIfInBounds_toArray, List.set_cons_zero, List.set_cons_succ])
                refine wpAnyT_take (i := 5) (oi := ⟨some 71, _, _, _, _, _⟩) (v := ?vg2_5) rfl (by kernel_rfl) (by kernel_rfl) (by kernel_rfl) (by kernel_rfl) (fun _ _ _ h => h) (Or.inl ⟨by rfl, ?hg2_5⟩) (by assumption) ?rg2_5
                case hg2_5 => (intro w hSw; (try dsimp only at hSw); first | (go_simp; done) | (go_simp; with_reducible rfl))
                (try simp only [Act.put, List.setIfInBounds_toArray, List.set_cons_zero, List.set_cons_succ])
                refine wpAnyT_take (i := 6) (oi := ⟨some 72, _, _, _, _, _⟩) (v := ?vg2_6) rfl (by kernel_rfl) (by kernel_rfl) (by kernel_rfl) (by kernel_rfl) (fun _ _ _ h => h) (Or.inl ⟨by rfl, ?hg2_6⟩) (by assumption) ?rg2_6
                case hg2_6 => (intro w hSw; (try dsimp only at hSw); first | (go_simp; done) | (go_simp; with_reducible rfl))
                (try simp only [Act.put, List.setIfInBounds_toArray, List.set_cons_zero, List.set_cons_succ])
                refine wpAnyT_take (i := 7) (oi := ⟨some 73, _, _, _, _, _⟩) (v := ?vg2_7) rfl (by kernel_rfl) (by kernel_rfl) (by kernel_rfl) (by kernel_rfl) (fun _ _ _ h => h) (Or.inl ⟨by rfl, ?hg2_7⟩) (by assumption) ?rg2_7
                case hg2_7 => (intro w hSw; (try dsimp only at hSw); first | (go_simp; done) | (go_simp; with_reducible rfl))
                (try simp only [Act.put, List.setIfInBounds_toArray, List.set_cons_zero, List.set_cons_succ])
                refine wpAnyT_take (i := 8) (oi := ⟨some 74, _, _, _, _, _⟩) (v := ?vg2_8) rfl (by kernel_rfl) (by kernel_rfl) (by kernel_rfl) (by kernel_rfl) (fun _ _ _ h => h) (Or.inl ⟨by rfl, ?hg2_8⟩) (by assumption) ?rg2_8
                case hg2_8 => (intro w hSw; (try dsimp only at hSw); first | (go_simp; done) | (go_simp; with_reducible rfl))
                (try simp only [Act.put, List.setIfInBounds_toArray, List.set_cons_zero, List.set_cons_succ])
                refine wpAnyT_one (i := 9) (o := ⟨some 75, _, _, _, _, _⟩) (by kernel_rfl) rfl (fun K hK => ?_)
                go_simp
                go_at_call 16
                (with_reducible refine (ml_Set _ s hss n D _ ky 2 (by have := HKL.out; omega) (HLb.out.later HW.out) HRI.out (by have := HLN.out; omega) (HTB.out.later (HB.out.trans (HW.out.mono HB.out.size))).six).mono ?_)
                rintro e wq1 ⟨cq, rfl, hq, hb⟩
                have HQ := Lib.hid hq
                replace HW := Lib.hid (HW.out.trans (hb.mono HW.out.size))
                clear hq hb
                dsimp only
                refine hK.out _ _ (by exact HKS.out _ HW.out) (fun hHeld => ?_)
                clear hK K
                (try simp only [Act.put, List.setIfInBounds_toArray, List.set_cons_zero, List.set_cons_succ])
                refine wpAnyT_last (i := 10) (o := ⟨none, _, _, _, _, _⟩) (by kernel_rfl) (by decide) rfl (fun K hK => ?_)
                have hr1 := (HKS.out _ HW.out).1
                rw [if_pos (by rfl)]
                refine st_agg_wp 36 _ _ rfl X2 cq rfl rfl 36 _ hr1 (by rw [HQ.out.size]; exact map_size) (by rw [HSb.out, HQ.out.size]) HQ.out.one ?_
                intro wq2 hs2 ks2
                refine hK.out _ _ ?_
                clear hK K
                (try simp only [Act.put, List.setIfInBounds_toArray, List.set_cons_zero, List.set_cons_succ])
                refine wpAnyT_done (by kernel_rfl) ?_ _
                replace HM := Lib.hid (HM.out.later HW.out)
                replace HKE := Lib.hid (HKE.out.later HW.out)
                replace HB := Lib.hid (HB.out.trans (HW.out.mono HB.out.size))
                replace HM := Lib.hid (HM.out.only ks2 hr1 (by have h := HD.out; omega) (by decide))
                replace HKE := Lib.hid (HKE.out.but ks2 hr1 (by decide))
                replace HB := Lib.hid (HB.out.trans (ks2.below (by have h := HD.out; omega)))
                replace HN : Hid (MB wq2 s n (insE D ky 2) X2) := MB.wrote hs2 ks2 hr1 HQ.out
                clear hs2 ks2 hr1 HKS HW HXb HLb HSb hHeld HCK
                go_wp2_with fail
                go_roundw
                case rel => exact ⟨j + 1, by simp, by have := HLT.out; omega, HM, by rw [HEA.out]; exact HN, HKE, HB⟩
                case measure => have := HLT.out; simp [intOf]; omega
              · obtain rfl : j = K := by omega
                rw [List.take_of_length_le (by rw [List.length_reverse, ← HKL2.out]; exact Nat.le_refl _)] at HN
                obtain ⟨N2, hN2⟩ : ∃ N2, N2 = setAll N1 (keysE L).reverse 2 := ⟨_, rfl⟩
                have HN2 : Hid (Rise N2 ∧ N2.length ≤ 200) := by
                  show _ ∧ _
                  rw [hN2]
                  have h := setAll_len HN1.out.1 2 (keysE L).reverse
                  rw [List.length_reverse, ← HKL2.out] at h
                  exact ⟨setAll_rise HN1.out.1 2 _, by have := HN1.out.2; omega⟩
                have HN2E : Hid (N2 = setAll (setAll [] more 1) (keysE L).reverse 2) := by show _ = _; rw [hN2, HN1E.out]
                rw [← hN2] at HN
                clear hN2
                go_wp2_with fail
                go_loopw [79] (fun i wl => ∃ qq : Nat, i = .int .i64 (qq : Int) ∧ qq ≤ more.length ∧ Hid (MB wl s n L X) ∧ Hid (MB wl s n (cutAll L N2 (more.take qq)) X2) ∧ Hid (LsS wl (.slice ak j ck) (keysE L)) ∧ Hid (Below w.heap.size w wl)) (fun i _ => more.length - (intOf i).toNat)
                case atStart => exact ⟨0, rfl, Nat.zero_le _, HM, HN, HKE, HB⟩
                case round =>
                  clear HM HN HKE HB
                  obtain ⟨qq, rfl, hj, HM, HN, HKE, HB⟩ := hrel
                  by_cases hlt : qq < more.length
                  · as_aux_lemma =>
                    have hlt' : (qq : Int) < (more.length : Int) := by omega
                    obtain ⟨gm, om, cm, em, _, hcm⟩ := (HMO.out.later HB.out).cell hlt
                    simp only [Value.slice.injEq] at em
                    obtain ⟨rfl, hem, rfl⟩ := em
                    clear hem
                    have HEA : Hid (cutAll L N2 (more.take (qq + 1)) = if (getE L more[qq]).isSome = true then cutAll L N2 (more.take qq) else delE (cutAll L N2 (more.take qq)) more[qq]) := by show _ = _; rw [List.take_succ_eq_append_getElem hlt, cutAll_snoc]
                    have HRI := Lib.hid (cutAll_rise L HN2.out.1 (more.take qq))
                    have HLN : Hid ((cutAll L N2 (more.take qq)).length ≤ 200) := by show _ ≤ _; have h := cutAll_len L N2 (more.take qq); have := HN2.out.2; omega
                    have HKL := Lib.hid (H2H.out _ (List.getElem_mem hlt))
                    obtain ⟨ky, hky⟩ : ∃ ky, ky = more[qq] := ⟨_, rfl⟩
                    obtain ⟨D, hDD⟩ : ∃ D, D = cutAll L N2 (more.take qq) := ⟨_, rfl⟩
                    rw [← hky] at hcm HEA HKL
                    rw [← hDD] at HN HRI HLN HEA
                    have HLT := Lib.hid hlt
                    clear hky hDD
                    have hget := fun W cx (h : ML W s n L cx) => ml_Get W s hss n L cx ky (by have := HKL.out; omega) h HRL.out.1 (by have := HRL.out.2.1; omega)
                    obtain ⟨ca, hxa, hma⟩ := HM.out
                    have HXa := Lib.hid hxa
                    have HLa := Lib.hid hma
                    have HSa := Lib.hid hma.size
                    clear hxa hma
                    obtain ⟨cb, hxb, hmb⟩ := HN.out
                    have HXb := Lib.hid hxb
                    have HLb := Lib.hid hmb
                    have HSb := Lib.hid hmb.size
                    clear hxb hmb
                    cases hgk : (getE L ky).isSome with
                    | true =>
                      rw [hgk] at HEA hget
                      have HGET := Lib.hid hget
                      clear hget hgk
                      go_wp2_with (first
                    | (refine ld_if (by rfl) 36 _ rfl X rfl 36 _ _ _ HXa.out Tryd.underlying36 rfl (by rw [HSa.out]; exact map_size) ?_)
                    | (go_at_call 17; (with_reducible refine (HGET.out _ _ HLa.out).mono ?_); rintro e wq1 ⟨rfl, hb⟩; replace HM := Lib.hid (HM.out.later hb); replace HN := Lib.hid (HN.out.later hb); replace HKE := Lib.hid (HKE.out.later hb); replace HB := Lib.hid (HB.out.trans (hb.mono HB.out.size)); clear hb))
                      go_roundw
                      case rel => exact ⟨qq + 1, by simp, by have := HLT.out; omega, HM, by rw [HEA.out]; exact HN, HKE, HB⟩
                      case measure => have := HLT.out; simp [intOf]; omega
                    | false =>
                      rw [hgk] at HEA hget
                      have HGET := Lib.hid hget
                      clear hget hgk
                      go_wp2_with (first
                    | (refine ld_if (by rfl) 36 _ rfl X rfl 36 _ _ _ HXa.out Tryd.underlying36 rfl (by rw [HSa.out]; exact map_size) ?_)
                    | (refine ld_if (by rfl) 36 _ rfl X2 rfl 36 _ _ _ HXb.out Tryd.underlying36 rfl (by rw [HSb.out]; exact map_size) ?_)
                    | (go_at_call 17; (with_reducible refine (HGET.out _ _ HLa.out).mono ?_); rintro e wq1 ⟨rfl, hb⟩; replace HM := Lib.hid (HM.out.later hb); replace HXb := Lib.hid ((hb.block _ (Array.getElem?_eq_some_iff.1 HXb.out).1).trans HXb.out); replace HLb := Lib.hid (HLb.out.later hb); replace HKE := Lib.hid (HKE.out.later hb); replace HB := Lib.hid (HB.out.trans (hb.mono HB.out.size)); clear hb)
                    | (go_at_call 18; (with_reducible refine (ml_Cut _ s hss n D _ ky (by have := HKL.out; omega) HLb.out HRI.out (by have := HLN.out; omega) (HTB.out.later HB.out).six).mono ?_); rintro e wq1 ⟨cq, rfl, hq, hb⟩; have HQ := Lib.hid hq; replace HXb := Lib.hid ((hb.block _ (Array.getElem?_eq_some_iff.1 HXb.out).1).trans HXb.out); replace HM := Lib.hid (HM.out.later hb); replace HKE := Lib.hid (HKE.out.later hb); replace HB := Lib.hid (HB.out.trans (hb.mono HB.out.size)); clear hq hb)
                    | (refine st_agg rfl 36 _ _ rfl X2 cq rfl rfl 36 _ HXb.out (by rw [HQ.out.size]; exact map_size) (by rw [HSb.out, HQ.out.size]) HQ.out.one ?_
                       intro wq2 hs2 ks2
                       replace HM := Lib.hid (HM.out.only ks2 HXb.out (by have h := HD.out; omega) (by decide))
                       replace HKE := Lib.hid (HKE.out.but ks2 HXb.out (by decide))
                       replace HB := Lib.hid (HB.out.trans (ks2.below (by have h := HD.out; omega)))
                       replace HN : Hid (MB wq2 s n (delE D ky) X2) := MB.wrote hs2 ks2 HXb.out HQ.out
                       clear hs2 ks2))
                      go_roundw
                      case rel => exact ⟨qq + 1, by simp, by have := HLT.out; omega, HM, by rw [HEA.out]; exact HN, HKE, HB⟩
                      case measure => have := HLT.out; simp [intOf]; omega
                  · obtain rfl : qq = more.length := by omega
                    rw [List.take_length] at HN
                    have hke := one_keys HRL.out.1 more
                    rw [← HN2E.out] at hke
                    have hr3 := cutAll_rise L HN2.out.1 more
                    have hl3 := cutAll_len L N2 more
                    obtain ⟨N3, hN3⟩ : ∃ N3, N3 = cutAll L N2 more := ⟨_, rfl⟩
                    rw [← hN3] at HN hke hr3 hl3
                    have HR3 : Hid (Rise N3 ∧ N3.length ≤ 200) := ⟨hr3, by have := HN2.out.2; omega⟩
                    have hlen : N3.length = L.length := by rw [← keysE_len, hke, keysE_len]
                    clear hN3 hr3 hl3
                    obtain ⟨ca, hxa, hma⟩ := HM.out
                    have HXa := Lib.hid hxa
                    have HLa := Lib.hid hma
                    have HSa := Lib.hid hma.size
                    clear hxa hma
                    obtain ⟨cb, hxb, hmb⟩ := HN.out
                    have HXb := Lib.hid hxb
                    have HLb := Lib.hid hmb
                    have HSb := Lib.hid hmb.size
                    clear hxb hmb
                    have hsh1 := fun W (h : ML W s n N3 cb) (hT : Tabs W) => ml_Shape W s n N3 cb h (by have := HR3.out.2; omega) hT
                    have hsh2 := fun W (h : ML W s n L ca) (hT : Tabs W) => ml_Shape W s n L ca h (by have := HRL.out.2.1; omega) hT
                    have hln1 := fun W => ml_Len _ s n N3 cb HLb.out W
                    have hln2 := fun W => ml_Len _ s n L ca HLa.out W
                    have hky := fun W (h : ML W s n N3 cb) (hT : Tab6 W) => ml_Keys W s n N3 cb h HR3.out.1 (by have := HR3.out.2; omega) hT
                    rw [hke] at hsh1 hky
                    rw [hlen] at hln1
                    obtain ⟨sh, hsh⟩ : ∃ sh : ByteArray, sh = ⟨(shapeF (hsN s n) 13 (keysE L)).toArray⟩ := ⟨_, rfl⟩
                    rw [← hsh] at hsh1 hsh2
                    have HSH1 := Lib.hid hsh1
                    have HSH2 := Lib.hid hsh2
                    have HLN1 := Lib.hid hln1
                    have HLN2 := Lib.hid hln2
                    have HKY := Lib.hid hky
                    have HN6 : Hid ((keysE L).length ≤ 1000000) := by show _ ≤ _; rw [keysE_len]; have := HRL.out.2.1; omega
                    clear hsh1 hsh2 hln1 hln2 hky hsh hke hlen HM HN
                    go_upto_region 29 with fail
                    have HKS : Hid (∀ V, Below wr.heap.size wr V → V.heap[X2]? = some (.cells cb 36 (0, 0)) ∧ V.heap[X]? = some (.cells ca 36 (0, 0))) := fun V hV => ⟨(hV.block _ (Array.getElem?_eq_some_iff.1 HXb.out).1).trans HXb.out, (hV.block _ (Array.getElem?_eq_some_iff.1 HXa.out).1).trans HXa.out⟩
                    have HW : Hid (Below wr.heap.size wr wr.drew) := drawn_below wr
                    replace HLa := Lib.hid (HLa.out.later HW.out)
                    replace HLb := Lib.hid (HLb.out.later HW.out)
                    replace HKE := Lib.hid (HKE.out.later HW.out)
                    refine wp_region_T (S := (fun V => V.heap[X2]? = some (.cells cb 36 (0, 0)) ∧ V.heap[X]? = some (.cells ca 36 (0, 0)))) [] (by kernel_rfl) (by exact HKS.out _ HW.out) (fun hHeld => ?_)
                    refine wpAnyT_take (i := 0) (oi := ⟨some 95, _, _, _, _, _⟩) (v := _) rfl (by kernel_rfl) (by kernel_rfl) (by kernel_rfl) (by kernel_rfl) (fun _ _ _ h => h) (yieldsIf_load_row (by rfl) 36 _ rfl X2 rfl cb 36 (0, 0) _ (fun w hw => hw.1) Tryd.underlying36 rfl (by rw [HSb.out]; exact map_size)) (by assumption) ?_
                    (try simp only [Act.put, List.setIfInBounds_toArray, List.set_cons_zero, List.set_cons_succ])
                    refine wpAnyT_take (i := 2) (oi := ⟨some 97, _, _, _, _, _⟩) (v := _) rfl (by kernel_rfl) (by kernel_rfl) (by kernel_rfl) (by kernel_rfl) (fun _ _ _ h => h) (yieldsIf_load_row (by rfl) 36 _ rfl X rfl ca 36 (0, 0) _ (fun w hw => hw.2) Tryd.underlying36 rfl (by rw [HSa.out]; exact map_size)) (by assumption) ?_
                    (try simp only [Act.put, List.setIfInBounds_toArray, List.set_cons_zero, List.set_cons_succ])
                    refine wpAnyT_one (i := 1) (o := ⟨some 96, _, _, _, _, _⟩) (by kernel_rfl) rfl (fun K hK => ?_)
                    go_simp
                    go_at_call 19
                    (with_reducible refine (HLN1.out _).mono ?_)
                    rintro e wz1 ⟨rfl, hb⟩
                    replace HLa := Lib.hid (HLa.out.later hb)
                    replace HLb := Lib.hid (HLb.out.later hb)
                    replace HKE := Lib.hid (HKE.out.later hb)
                    replace HW := Lib.hid (HW.out.trans (hb.mono HW.out.size))
                    clear hb
                    dsimp only
                    refine hK.out _ _ (by exact HKS.out _ HW.out) (fun hHeld => ?_)
                    clear hK K
                    (try simp only [Act.put, List.setIfInBounds_toArray, List.set_cons_zero, List.set_cons_succ])
                    refine wpAnyT_one (i := 3) (o := ⟨some 98, _, _, _, _, _⟩) (by kernel_rfl) rfl (fun K hK => ?_)
                    go_simp
                    go_at_call 19
                    (with_reducible refine (HLN2.out _).mono ?_)
                    rintro e wz2 ⟨rfl, hb⟩
                    replace HLa := Lib.hid (HLa.out.later hb)
                    replace HLb := Lib.hid (HLb.out.later hb)
                    replace HKE := Lib.hid (HKE.out.later hb)
                    replace HW := Lib.hid (HW.out.trans (hb.mono HW.out.size))
                    clear hb
                    dsimp only
                    refine hK.out _ _ (by exact HKS.out _ HW.out) (fun hHeld => ?_)
                    clear hK K
                    (try simp only [Act.put, List.setIfInBounds_toArray, List.set_cons_zero, List.set_cons_succ])
                    refine wpAnyT_take (i := 4) (oi := ⟨some 99, _, _, _, _, _⟩) (v := ?vg3_4) rfl (by kernel_rfl) (by kernel_rfl) (by kernel_rfl) (by kernel_rfl) (fun _ _ _ h => h) (Or.inl ⟨by rfl, ?hg3_4⟩) (by assumption) ?rg3_4
                    case hg3_4 => (intro w hSw; (try dsimp only at hSw); first | (go_simp; done) | (go_simp; with_reducible rfl))
                    (try simp only [Act.put, List.setIfInBounds_toArray, List.set_cons_zero, List.set_cons_succ])
                    refine wpAnyT_take (i := 5) (oi := ⟨some 100, _, _, _, _, _⟩) (v := ?vg3_5) rfl (by kernel_rfl) (by kernel_rfl) (by kernel_rfl) (by kernel_rfl) (fun _ _ _ h => h) (Or.inl ⟨by rfl, ?hg3_5⟩) (by assumption) ?rg3_5
                    case hg3_5 => (intro w hSw; (try dsimp only at hSw); first | (go_simp; done) | (go_simp; with_reducible rfl))
                    (try simp only [Act.put, List.setIfInBounds_toArray, List.set_cons_zero, List.set_cons_succ])
                    refine wpAnyT_take (i := 6) (oi := ⟨some 101, _, _, _, _, _⟩) (v := _) rfl (by kernel_rfl) (by kernel_rfl) (by kernel_rfl) (by kernel_rfl) (fun _ _ _ h => h) (yieldsIf_load_row (by rfl) 36 _ rfl X2 rfl cb 36 (0, 0) _ (fun w hw => hw.1) Tryd.underlying36 rfl (by rw [HSb.out]; exact map_size)) (by assumption) ?_
                    (try simp only [Act.put, List.setIfInBounds_toArray, List.set_cons_zero, List.set_cons_succ])
                    refine wpAnyT_take (i := 8) (oi := ⟨some 103, _, _, _, _, _⟩) (v := _) rfl (by kernel_rfl) (by kernel_rfl) (by kernel_rfl) (by kernel_rfl) (fun _ _ _ h => h) (yieldsIf_load_row (by rfl) 36 _ rfl X rfl ca 36 (0, 0) _ (fun w hw => hw.2) Tryd.underlying36 rfl (by rw [HSa.out]; exact map_size)) (by assumption) ?_
                    (try simp only [Act.put, List.setIfInBounds_toArray, List.set_cons_zero, List.set_cons_succ])
                    refine wpAnyT_one (i := 7) (o := ⟨some 102, _, _, _, _, _⟩) (by kernel_rfl) rfl (fun K hK => ?_)
                    go_simp
                    go_at_call 20
                    (with_reducible refine (HSH1.out _ HLb.out (HTB.out.later (HB.out.trans (HW.out.mono HB.out.size)))).mono ?_)
                    rintro e wz3 ⟨rfl, hb⟩
                    replace HLa := Lib.hid (HLa.out.later hb)
                    replace HLb := Lib.hid (HLb.out.later hb)
                    replace HKE := Lib.hid (HKE.out.later hb)
                    replace HW := Lib.hid (HW.out.trans (hb.mono HW.out.size))
                    clear hb
                    dsimp only
                    refine hK.out _ _ (by exact HKS.out _ HW.out) (fun hHeld => ?_)
                    clear hK K
                    (try simp only [Act.put, List.setIfInBounds_toArray, List.set_cons_zero, List.set_cons_succ])
                    refine wpAnyT_one (i := 9) (o := ⟨some 104, _, _, _, _, _⟩) (by kernel_rfl) rfl (fun K hK => ?_)
                    go_simp
                    go_at_call 20
                    (with_reducible refine (HSH2.out _ HLa.out (HTB.out.later (HB.out.trans (HW.out.mono HB.out.size)))).mono ?_)
                    rintro e wz4 ⟨rfl, hb⟩
                    replace HLa := Lib.hid (HLa.out.later hb)
                    replace HLb := Lib.hid (HLb.out.later hb)
                    replace HKE := Lib.hid (HKE.out.later hb)
                    replace HW := Lib.hid (HW.out.trans (hb.mono HW.out.size))
                    clear hb
                    dsimp only
                    refine hK.out _ _ (by exact HKS.out _ HW.out) (fun hHeld => ?_)
                    clear hK K
                    (try simp only [Act.put, List.setIfInBounds_toArray, List.set_cons_zero, List.set_cons_succ])
                    refine wpAnyT_take (i := 10) (oi := ⟨some 105, _, _, _, _, _⟩) (v := ?vg3_10) rfl (by kernel_rfl) (by kernel_rfl) (by kernel_rfl) (by kernel_rfl) (fun _ _ _ h => h) (Or.inl ⟨by rfl, ?hg3_10⟩) (by assumption) ?rg3_10
                    case hg3_10 => (intro w hSw; (try dsimp only at hSw); first | (go_simp; done) | (go_simp; with_reducible rfl))
                    (try simp only [Act.put, List.setIfInBounds_toArray, List.set_cons_zero, List.set_cons_succ])
                    refine wpAnyT_take (i := 11) (oi := ⟨some 106, _, _, _, _, _⟩) (v := ?vg3_11) rfl (by kernel_rfl) (by kernel_rfl) (by kernel_rfl) (by kernel_rfl) (fun _ _ _ h => h) (Or.inl ⟨by rfl, ?hg3_11⟩) (by assumption) ?rg3_11
                    case hg3_11 => (intro w hSw; (try dsimp only at hSw); first | (go_simp; done) | (go_simp; with_reducible rfl))
                    (try simp only [Act.put, List.setIfInBounds_toArray, List.set_cons_zero, List.set_cons_succ])
                    refine wpAnyT_take (i := 12) (oi := ⟨some 107, _, _, _, _, _⟩) (v := ?vg3_12) rfl (by kernel_rfl) (by kernel_rfl) (by kernel_rfl) (by kernel_rfl) (fun _ _ _ h => h) (Or.inl ⟨by rfl, ?hg3_12⟩) (by assumption) ?rg3_12
                    case hg3_12 => (intro w hSw; (try dsimp only at hSw); first | (go_simp; done) | (go_simp; with_reducible rfl))
                    (try simp only [Act.put, List.setIfInBounds_toArray, List.set_cons_zero, List.set_cons_succ])
                    refine wpAnyT_take (i := 13) (oi := ⟨some 108, _, _, _, _, _⟩) (v := _) rfl (by kernel_rfl) (by kernel_rfl) (by kernel_rfl) (by kernel_rfl) (fun _ _ _ h => h) (yieldsIf_load_row (by rfl) 36 _ rfl X2 rfl cb 36 (0, 0) _ (fun w hw => hw.1) Tryd.underlying36 rfl (by rw [HSb.out]; exact map_size)) (by assumption) ?_
                    (try simp only [Act.put, List.setIfInBounds_toArray, List.set_cons_zero, List.set_cons_succ])
                    refine wpAnyT_take (i := 15) (oi := ⟨some 110, _, _, _, _, _⟩) (v := ?vg3_15) rfl (by kernel_rfl) (by kernel_rfl) (by kernel_rfl) (by kernel_rfl) (fun _ _ _ h => h) (Or.inl ⟨by rfl, ?hg3_15⟩) (by assumption) ?rg3_15
                    case hg3_15 => (intro w hSw; (try dsimp only at hSw); first | (go_simp; done) | (go_simp; with_reducible rfl))
                    (try simp only [Act.put, List.setIfInBounds_toArray, List.set_cons_zero, List.set_cons_succ])
                    refine wpAnyT_one (i := 14) (o := ⟨some 109, _, _, _, _, _⟩) (by kernel_rfl) rfl (fun K hK => ?_)
                    go_simp
                    go_at_call 14
                    (with_reducible refine (HKY.out _ HLb.out (HTB.out.later (HB.out.trans (HW.out.mono HB.out.size))).six).mono ?_)
                    rintro e wz5 ⟨v5, rfl, hk5, hb⟩
                    have HK5 := Lib.hid hk5
                    clear hk5
                    replace HLa := Lib.hid (HLa.out.later hb)
                    replace HLb := Lib.hid (HLb.out.later hb)
                    replace HKE := Lib.hid (HKE.out.later hb)
                    replace HW := Lib.hid (HW.out.trans (hb.mono HW.out.size))
                    clear hb
                    dsimp only
                    refine hK.out _ _ (by exact HKS.out _ HW.out) (fun hHeld => ?_)
                    clear hK K
                    (try simp only [Act.put, List.setIfInBounds_toArray, List.set_cons_zero, List.set_cons_succ])
                    refine wpAnyT_one (i := 16) (o := ⟨some 111, _, _, _, _, _⟩) (by kernel_rfl) rfl (fun K hK => ?_)
                    go_simp
                    go_at_call 15
                    (with_reducible refine (ref_Words9 _ _ (keysE L) _ HK5.out.cutS HKE.out.cutS HN6.out).mono ?_)
                    rintro e wz6 ⟨rfl, hb⟩
                    replace HLa := Lib.hid (HLa.out.later hb)
                    replace HLb := Lib.hid (HLb.out.later hb)
                    replace HKE := Lib.hid (HKE.out.later hb)
                    replace HW := Lib.hid (HW.out.trans (hb.mono HW.out.size))
                    clear hb
                    dsimp only
                    refine hK.out _ _ (by exact HKS.out _ HW.out) (fun hHeld => ?_)
                    clear hK K
                    (try simp only [Act.put, List.setIfInBounds_toArray, List.set_cons_zero, List.set_cons_succ])
                    refine wpAnyT_take (i := 17) (oi := ⟨some 112, _, _, _, _, _⟩) (v := ?vg3_17) rfl (by kernel_rfl) (by kernel_rfl) (by kernel_rfl) (by kernel_rfl) (fun _ _ _ h => h) (Or.inl ⟨by rfl, ?hg3_17⟩) (by assumption) ?rg3_17
                    case hg3_17 => (intro w hSw; (try dsimp only at hSw); first | (go_simp; done) | (go_simp; with_reducible rfl))
                    (try simp only [Act.put, List.setIfInBounds_toArray, List.set_cons_zero, List.set_cons_succ])
                    refine wpAnyT_take (i := 18) (oi := ⟨some 6, _, _, _, _, _⟩) (v := ?vg3_18) rfl (by kernel_rfl) (by kernel_rfl) (by kernel_rfl) (by kernel_rfl) (fun _ _ _ h => h) (Or.inl ⟨by rfl, ?hg3_18⟩) (by assumption) ?rg3_18
                    case hg3_18 => (intro w hSw; (try dsimp only at hSw); first | (go_simp; done) | (go_simp; with_reducible rfl))
                    (try simp only [Act.put, List.setIfInBounds_toArray, List.set_cons_zero, List.set_cons_succ])
                    refine wpAnyT_done (by kernel_rfl) ?_ _
                    clear hHeld
                    go_wp2_with fail
                    go_ret
                    exact ⟨rfl, HB.out.trans (HW.out.mono HB.out.size)⟩
theorem hamtOneShape_walk (s : Nat) (n : Int) (va : Value) (l : List Op9) (vm : Value) (more : List ByteArray) (hss : s < 18446744073709551616) (w : World) (hl : Ops9 w va l) (hm : StrsAt w vm more) (hT : Tabs w) : Calls Tryd.prog 5 #[.agg #[.int .u64 (s : Int), .int .i64 n], va, vm] w fun e w' => e = .returned (.bool true) ∧ Below w.heap.size w w' := hamtOneShape_of s n va l vm more w hss hl hm hT
end Go.Proofs.YtlngjabjeodkpaaDoor
