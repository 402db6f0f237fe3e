/- Package rope: joined, concat. (written by tools/gen08/joined8.py) -/
import Derived.Test.YtldemoflgahdgaaRp5
import Derived.Test.YtldemoflgahdgaaRegionY
import Derived.Deep.MidRow
namespace Go.Proofs.Ytldemoflgahdgaa
open Go.RowKit
set_option maxRecDepth 1000000
set_option linter.unusedSimpArgs false

theorem kids_len {S : Nat → Prop} {W : World} {h : Nat} {p : Kid} (hn : NodeR S W h p) : ∃ q n c, p.a = .slice q n c ∧ n ≤ 16 := by
  cases h with
  | zero => exact ⟨none, 0, 0, hn.1, by omega⟩
  | succ h => obtain ⟨_, _, h3, ks, h4, _⟩ := hn; obtain ⟨q, c, e, _⟩ := h4.shape; exact ⟨q, _, c, e, h3⟩
theorem lists_new {α : Type} (w : World) (ls : List (Value × α)) (T : TypeId) : ∀ k (hk : k < ls.length), (w.alloc (.cells (ls.map (·.1)).toArray T)).cell? ⟨w.heap.size, k, none⟩ = some ls[k].1 := fun k hk =>
  cell_in (heap_alloc_last w _) (by rw [List.getElem?_toArray, List.getElem?_map, List.getElem?_eq_getElem hk]; rfl)
theorem kid_one (h : Nat) (p : Kid) : (kidc h p).toArray.all (·.oneCell') = true := by
  rw [Array.all_eq_true_iff_forall_mem]
  intro u hu
  exact kidc_one h p u (by simpa using hu)
theorem two_new {W : World} {c d : Array Value} {T T' : TypeId} {w2 : World} (e : (W.alloc (.cells c T)).alloc (.cells d T') = w2) :
    Below W.heap.size W w2 ∧ w2.heap[W.heap.size]? = some (.cells c T (0, 0)) ∧ w2.heap[W.heap.size + 1]? = some (.cells d T' (0, 0)) ∧ w2.heap.size = W.heap.size + 2 := by
  subst e
  refine ⟨Below.more (Below.newly' _ _) _, ((Below.newly' _ _).block _ (by simp)).trans (heap_alloc_last _ _), ?_, by simp⟩
  have h := heap_alloc_last (W.alloc (.cells c T)) (.cells d T')
  rwa [World.size_alloc] at h
theorem range_later {W W' : World} {g o : Nat} {vs : List Value} (h : W.rangeAt g o vs) (hb : Below W.heap.size W W') : W'.rangeAt g o vs :=
  fun j v hv => (hb.cell (p := ⟨g, o + j, none⟩) (World.block_lt_of_cell? W _ (h j v hv))).trans (h j v hv)
/-- inners of lists that the statement lays itself. -/
theorem inners_new (w : World) {S : Nat → Prop} (h : Nat) (ls : List (Value × List Kid)) (hcut : ∀ p ∈ ls, CutAt S w 4 p.1 (en (kidc h) p.2) p.2.length)
    (xs : List Kid) (hxs : catE ls ls.length = xs) (hx : ∀ q ∈ xs, 8 ≤ q.k ∧ NodeR S w h q) (hN : (catK xs).length ≤ 100000) (hl : ls.length ≤ 1000) :
    Calls Try.prog 45 #[.slice (some ⟨w.heap.size, 0, none⟩) ls.length ls.length] (w.alloc (.cells (ls.map (·.1)).toArray 30)) fun e w' => ∃ v, e = .returned v ∧ ∃ ks, NodesR (fun g => S g ∨ w.heap.size ≤ g) w' (h + 1) v ks ∧ catK ks = catK xs ∧ Fit xs.length ks ∧ Below w.heap.size w w' := by
  have hb := Below.newly' w (.cells (ls.map (·.1)).toArray 30)
  refine (rp_inners (S := S) _ h w.heap.size ls (lists_new w ls _) (fun p hp => (hcut p hp).later hb) xs hxs (fun q hq => ⟨(hx q hq).1, (hx q hq).2.later hb⟩) hN hl).mono ?_
  rintro e w' ⟨v, rfl, ks, h1, h2, h3, h4⟩
  exact ⟨v, rfl, ks, h1.weak fun g hg => hg.imp_right fun h => (by simp at h; omega), h2, h3, hb.trans (h4.mono hb.size)⟩
/-- leaves of lists that the statement lays itself. -/
theorem leaves_new (w : World) {S : Nat → Prop} (ls : List (Value × List Int)) (hcut : ∀ p ∈ ls, CutAt S w 1 p.1 (iv p.2) p.2.length)
    (xs : List Int) (hxs : catE ls ls.length = xs) (hN : xs.length ≤ 100000) (hl : ls.length ≤ 1000) :
    Calls Try.prog 31 #[.slice (some ⟨w.heap.size, 0, none⟩) ls.length ls.length] (w.alloc (.cells (ls.map (·.1)).toArray 31)) fun e w' => ∃ v, e = .returned v ∧ ∃ ks, NodesR (fun g => w.heap.size ≤ g) w' 0 v ks ∧ catK ks = xs ∧ Fit xs.length ks ∧ Below w.heap.size w w' := by
  have hb := Below.newly' w (.cells (ls.map (·.1)).toArray 31)
  refine (rp_leaves (S := S) _ w.heap.size ls (lists_new w ls _) (fun p hp => (hcut p hp).later hb) xs hxs hN hl).mono ?_
  rintro e w' ⟨v, rfl, ks, h1, h2, h3, h4⟩
  exact ⟨v, rfl, ks, h1.weak fun g hg => (by simp at hg; omega), h2, h3, hb.trans (h4.mono hb.size)⟩
/-- What joined does at roots of these heights. -/
def JoinDoes (ha hb : Nat) : Prop := ∀ (S : Nat → Prop) (W : World) (p q : Kid) (m : Nat), NodeR S W ha p → NodeR S W hb q → p.l.length + q.l.length ≤ 100000 → m ≤ 8 → ((hb ≤ ha ∧ m ≤ p.k) ∨ (ha ≤ hb ∧ m ≤ q.k)) →
    Calls Try.prog 48 #[.agg (kidc ha p).toArray, .agg (kidc hb q).toArray] W fun e W' => ∃ v, e = .returned v ∧ ∃ ks, NodesR (fun g => S g ∨ W.heap.size ≤ g) W' (max ha hb) v ks ∧ catK ks = p.l ++ q.l ∧ (1 ≤ ks.length ∧ ks.length ≤ 2) ∧
      (∀ x ∈ ks, m ≤ x.k ∧ (2 ≤ ks.length → 8 ≤ x.k)) ∧ Below W.heap.size W W'
theorem fit_ends {N m : Nat} {ks : List Kid} (hf : Fit N ks) (h0 : 1 ≤ N) (h1 : N ≤ 32) (hm : m ≤ 8) (hN : m ≤ N) : (1 ≤ ks.length ∧ ks.length ≤ 2) ∧ ∀ x ∈ ks, m ≤ x.k ∧ (2 ≤ ks.length → 8 ≤ x.k) := by
  have hl : 1 ≤ ks.length ∧ ks.length ≤ 2 := by rw [hf.1]; unfold cntN; omega
  refine ⟨hl, fun x hx => ⟨?_, (hf.2 x hx).1⟩⟩
  by_cases h2 : 2 ≤ ks.length
  · have := (hf.2 x hx).1 h2; omega
  · have := (hf.2 x hx).2 (by omega); omega
set_option maxHeartbeats 4000000 in
theorem join_gt (ha hb : Nat) (hgt : hb < ha + 1) (ih : JoinDoes ha hb) : JoinDoes (ha + 1) hb := by
  intro S W p q m hp hq hN hm8 hm
  obtain ⟨w2, hw2⟩ : ∃ w2, (W.alloc (.cells (kidc (ha + 1) p).toArray 33)).alloc (.cells (kidc hb q).toArray 33) = w2 := ⟨_, rfl⟩
  obtain ⟨hb2, hx2, hy2, hs2⟩ := two_new hw2
  have HB2 := Lib.hid hb2
  have HY2 := Lib.hid hy2
  have HX2 := Lib.hid hx2
  have HS2 := Lib.hid hs2
  obtain ⟨Na, hNa⟩ : ∃ Na : Nat, Na = (ha + 1) + 1 := ⟨_, rfl⟩
  obtain ⟨Nb, hNb⟩ : ∃ Nb : Nat, Nb = hb + 1 := ⟨_, rfl⟩
  have ca1 : w2.cell? ⟨W.heap.size, 1, none⟩ = some (.int .i64 (Na : Int)) := by rw [hNa]; exact cell_in hx2 rfl
  have ca2 : w2.cell? ⟨W.heap.size, 2, none⟩ = some p.a := cell_in hx2 rfl
  have ca3 : w2.cell? ⟨W.heap.size, 3, none⟩ = some p.b := cell_in hx2 rfl
  have cb1 : w2.cell? ⟨W.heap.size + 1, 1, none⟩ = some (.int .i64 (Nb : Int)) := by rw [hNb]; exact cell_in hy2 rfl
  have cb2 : w2.cell? ⟨W.heap.size + 1, 2, none⟩ = some q.a := cell_in hy2 rfl
  have cb3 : w2.cell? ⟨W.heap.size + 1, 3, none⟩ = some q.b := cell_in hy2 rfl
  obtain ⟨cq, hcq⟩ : ∃ cq, cq = (kidc hb q).toArray := ⟨_, rfl⟩
  have HCQS : Hid (cq.size = 4) := by show _ = _; rw [hcq]; rfl
  obtain ⟨hpb, hk1, hk16, ks, hh, hkl, hl, hks⟩ := hp
  obtain ⟨n, hn⟩ : ∃ n, n = p.k := ⟨_, rfl⟩
  rw [← hn] at hk1 hk16 hh hkl
  have HHO := Lib.hid hh.old
  obtain ⟨g, c, cur, fr, hpa, hcap, hS, hg, hcs⟩ := hh.pos hk1
  rw [hpa] at ca2
  obtain ⟨lst, hlst⟩ : ∃ lst, lst = n - 1 := ⟨_, rfl⟩
  have hlk : lst < ks.length := by omega
  have hrg := en_range (h := ha) hg hcs hlk
  have hyk := hks _ (List.getElem_mem hlk)
  have hcat : catK (ks.take lst) ++ ks[lst].l = catK ks := by
    rw [← catK_one ks[lst], ← catK_app, ← List.take_succ_eq_append_getElem hlk, List.take_of_length_le (by omega)]
  obtain ⟨y, hy⟩ : ∃ y, y = ks[lst] := ⟨_, rfl⟩
  rw [← hy] at hrg hyk hcat
  have hcut := hh.cut
  rw [hpa] at hcut
  obtain ⟨acut, ccut, hcut2, hrun⟩ := cut_h 30 tn_sl tn_size hcut (hi := lst) (by omega)
  rw [en_take (kidc_len ha)] at hcut2
  have HCUT : Hid (CutAt S W 4 (.slice acut lst ccut) (en (kidc ha) (ks.take lst)) (ks.take lst).length) := by
    show CutAt _ _ _ _ _ _
    rwa [show (ks.take lst).length = lst by rw [List.length_take]; omega]
  have hyl : y.l.length ≤ p.l.length := by rw [hl, ← hcat, List.length_append]; omega
  have HREC := Lib.hid (ih (fun g => S g ∧ g < W.heap.size) w2.drew y q 8 (hyk.2.old.later (hb2.trans ((drawn_below w2).mono hb2.size))) (hq.old.later (hb2.trans ((drawn_below w2).mono hb2.size))) (by omega) (Nat.le_refl _) (.inl ⟨by omega, hyk.1⟩))
  rw [← hcq, show max ha hb = ha by omega] at HREC
  rw [← hcq] at HY2
  have HK2 : Hid (w2.drew.cell? ⟨W.heap.size, 2, none⟩ = some (.slice (some ⟨g, 0, none⟩) n c) ∧ w2.drew.rangeAt g (lst * 4) (kidc ha y) ∧ w2.drew.heap[W.heap.size + 1]? = some (.cells cq 33 (0, 0))) :=
    ⟨ca2, range_later hrg (hb2.trans ((drawn_below w2).mono hb2.size)), HY2.out⟩
  have HCAT : Hid (catK (ks.take lst) ++ y.l = p.l) := by show _ = _; rw [hl, hcat]
  have HKS := Lib.hid hks
  have HN : Hid (p.l.length + q.l.length ≤ 100000) := hN
  have HM := Lib.hid hm
  have HM8 := Lib.hid hm8
  have HNN := Lib.hid (And.intro hn (And.intro hlst (And.intro hkl hk16)))
  have HGT := Lib.hid hgt
  have hgt' : (Na : Int) > (Nb : Int) := by omega
  have hl1 : (n : Int) - 1 = (lst : Int) := by omega
  have hl2 : (lst : Int) < n := by omega
  have hn16 : (n : Int) ≤ 16 := by omega
  clear hb2 hx2 hy2 hs2 hpb hk16 hh hkl hl hks hn hS hg hcs hpa hcap hcut hcut2 hlk hrg hyk hcat hy hyl hm hm8 hN hgt hlst hNa hNb ca3 cb2 cb3 hq hcq hk1
  go_enter Try.func48, Try.ntmps48
  go_upto_region 3 with fail
  clear hw2
  refine wp_region_T (S := fun V => V.cell? ⟨W.heap.size, 2, none⟩ = some (.slice (some ⟨g, 0, none⟩) n c) ∧ V.rangeAt g (lst * 4) (kidc ha y) ∧ V.heap[W.heap.size + 1]? = some (.cells cq 33 (0, 0))) [13] (by kernel_rfl) (by first | exact HK2.out | exact HK3.out | exact HK4.out | exact HK5.out) (fun hHeld => ?_)
  refine wpAnyT_take (i := 0) (oi := ⟨some 16, _, _, _, _, _⟩) (v := ?vg1_0) rfl (by kernel_rfl) (by kernel_rfl) (by kernel_rfl) (by kernel_rfl) (fun _ _ _ h => h) (Or.inl ⟨by rfl, ?hg1_0⟩) (by assumption) ?rg1_0
  case hg1_0 => (intro w hSw; (try dsimp only at hSw); first | (go_simp; done) | (go_simp; with_reducible rfl))
  (try simp only [Act.put, List.setIfInBounds_toArray, List.set_cons_zero, List.set_cons_succ])
  refine wpAnyT_take (i := 1) (oi := ⟨some 17, _, _, _, _, _⟩) (v := ?vg1_1) rfl (by kernel_rfl) (by kernel_rfl) (by kernel_rfl) (by kernel_rfl) (fun _ _ _ h => h) (Or.inl ⟨by rfl, ?hg1_1⟩) (by assumption) ?rg1_1
  case hg1_1 => (intro w hSw; (try dsimp only at hSw); first | (go_simp; done) | (go_simp; with_reducible rfl))
  (try simp only [Act.put, List.setIfInBounds_toArray, List.set_cons_zero, List.set_cons_succ])
  refine wpAnyT_take (i := 2) (oi := ⟨some 18, _, _, _, _, _⟩) (v := ?vg1_2) rfl (by kernel_rfl) (by kernel_rfl) (by kernel_rfl) (by kernel_rfl) (fun _ _ _ h => h) (Or.inl ⟨by rfl, ?hg1_2⟩) (by assumption) ?rg1_2
  case hg1_2 => (intro w hSw; (try dsimp only at hSw); first | (go_simp; done) | (go_simp; with_reducible rfl))
  (try simp only [Act.put, List.setIfInBounds_toArray, List.set_cons_zero, List.set_cons_succ])
  refine wpAnyT_take (i := 3) (oi := ⟨some 19, _, _, _, _, _⟩) (v := ?vg1_3) rfl (by kernel_rfl) (by kernel_rfl) (by kernel_rfl) (by kernel_rfl) (fun _ _ _ h => h) (Or.inl ⟨by rfl, ?hg1_3⟩) (by assumption) ?rg1_3
  case hg1_3 => (intro w hSw; (try dsimp only at hSw); first | (go_simp; done) | (go_simp; with_reducible rfl))
  (try simp only [Act.put, List.setIfInBounds_toArray, List.set_cons_zero, List.set_cons_succ])
  refine wpAnyT_take (i := 4) (oi := ⟨some 20, _, _, _, _, _⟩) (v := ?vg1_4) rfl (by kernel_rfl) (by kernel_rfl) (by kernel_rfl) (by kernel_rfl) (fun _ _ _ h => h) (Or.inl ⟨by rfl, ?hg1_4⟩) (by assumption) ?rg1_4
  case hg1_4 => (intro w hSw; (try dsimp only at hSw); first | (go_simp; done) | (go_simp; with_reducible rfl))
  (try simp only [Act.put, List.setIfInBounds_toArray, List.set_cons_zero, List.set_cons_succ])
  refine wpAnyT_take (i := 5) (oi := ⟨some 21, _, _, _, _, _⟩) (v := ?vg1_5) rfl (by kernel_rfl) (by kernel_rfl) (by kernel_rfl) (by kernel_rfl) (fun _ _ _ h => h) (Or.inl ⟨by rfl, ?hg1_5⟩) (by assumption) ?rg1_5
  case hg1_5 => (intro w hSw; (try dsimp only at hSw); first | (go_simp; done) | (go_simp; with_reducible rfl))
  (try simp only [Act.put, List.setIfInBounds_toArray, List.set_cons_zero, List.set_cons_succ])
  refine wpAnyT_take (i := 6) (oi := ⟨some 22, _, _, _, _, _⟩) (v := ?vg1_6) rfl (by kernel_rfl) (by kernel_rfl) (by kernel_rfl) (by kernel_rfl) (fun _ _ _ h => h) (Or.inl ⟨by rfl, ?hg1_6⟩) (by assumption) ?rg1_6
  case hg1_6 => (intro w hSw; (try dsimp only at hSw); first | (go_simp; done) | (go_simp; with_reducible rfl))
  (try simp only [Act.put, List.setIfInBounds_toArray, List.set_cons_zero, List.set_cons_succ])
  refine wpAnyT_take (i := 7) (oi := ⟨some 23, _, _, _, _, _⟩) (v := ?vg1_7) rfl (by kernel_rfl) (by kernel_rfl) (by kernel_rfl) (by kernel_rfl) (fun _ _ _ h => h) (Or.inl ⟨by rfl, ?hg1_7⟩) (by assumption) ?rg1_7
  case hg1_7 => (intro w hSw; (try dsimp only at hSw); first | (go_simp; done) | (go_simp; with_reducible rfl))
  (try simp only [Act.put, List.setIfInBounds_toArray, List.set_cons_zero, List.set_cons_succ])
  refine wpAnyT_take (i := 8) (oi := ⟨some 24, _, _, _, _, _⟩) (v := _) rfl (by kernel_rfl) (by kernel_rfl) (by kernel_rfl) (by kernel_rfl) (fun _ _ _ h => h) (yieldsIf_load_mid (by rfl) 33 _ rfl g (lst * 4) rfl (kidc ha y) _ (fun w hw => hw.2.1) Try.underlying33 rfl rnode_size) (by assumption) ?_
  (try simp only [Act.put, List.setIfInBounds_toArray, List.set_cons_zero, List.set_cons_succ])
  refine wpAnyT_take (i := 9) (oi := ⟨some 25, _, _, _, _, _⟩) (v := _) rfl (by kernel_rfl) (by kernel_rfl) (by kernel_rfl) (by kernel_rfl) (fun _ _ _ h => h) (yieldsIf_load_row (by rfl) 33 _ rfl (W.heap.size + 1) rfl cq 33 (0, 0) _ (fun w hw => hw.2.2) Try.underlying33 rfl (by rw [HCQS.out]; exact rnode_size)) (by assumption) ?_
  (try simp only [Act.put, List.setIfInBounds_toArray, List.set_cons_zero, List.set_cons_succ])
  refine wpAnyT_one (i := 10) (o := ⟨some 26, _, _, _, _, _⟩) (by kernel_rfl) rfl (fun K hK => ?_)
  go_simp
  go_at_call 48
  refine HREC.out.mono ?_
  rintro e w3 ⟨v3, rfl, ks3, hn3, hc3, hl3, hx3, hb3⟩
  obtain ⟨a3, n3, rfl, _⟩ := hn3.1.shape
  have HK3 := Lib.hid (show _ ∧ _ ∧ _ from ⟨((hb3).cell (p := ⟨W.heap.size, 2, none⟩) (World.block_lt_of_cell? _ _ HK2.out.1)).trans HK2.out.1, range_later HK2.out.2.1 hb3, ((hb3).block _ (Array.getElem?_eq_some_iff.1 HK2.out.2.2).1).trans HK2.out.2.2⟩)
  have HB3 := Lib.hid (HB2.out.trans ((((drawn_below w2).mono HB2.out.size)).trans (hb3.mono HB2.out.size)))
  have HN3 := Lib.hid hn3
  have HC3 := Lib.hid hc3
  have HL3 := Lib.hid (And.intro hl3 hx3)
  have HB23 := Lib.hid hb3
  have HBW3 : Hid (W.heap.size ≤ w2.heap.size) := HB2.out.size
  clear hb3 hn3 hc3 hl3 hx3
  (try dsimp only)
  refine hK.out _ _ (by first | exact HK2.out | exact HK3.out | exact HK4.out | exact HK5.out) (fun hHeld => ?_)
  clear hK K
  (try simp only [Act.put, List.setIfInBounds_toArray, List.set_cons_zero, List.set_cons_succ])
  refine wpAnyT_one (i := 11) (o := ⟨some 27, _, _, _, _, _⟩) (by kernel_rfl) rfl (fun K hK => ?_)
  go_simp
  have hb4 := Below.newly' w3 (.cells #[.slice acut lst ccut, .slice a3 ks3.length n3] 30)
  have HK4 := Lib.hid (show _ ∧ _ ∧ _ from ⟨((hb4).cell (p := ⟨W.heap.size, 2, none⟩) (World.block_lt_of_cell? _ _ HK3.out.1)).trans HK3.out.1, range_later HK3.out.2.1 hb4, ((hb4).block _ (Array.getElem?_eq_some_iff.1 HK3.out.2.2).1).trans HK3.out.2.2⟩)
  clear hb4
  (try dsimp only)
  refine hK.out _ _ (by first | exact HK2.out | exact HK3.out | exact HK4.out | exact HK5.out) (fun hHeld => ?_)
  clear hK K
  (try simp only [Act.put, List.setIfInBounds_toArray, List.set_cons_zero, List.set_cons_succ])
  refine wpAnyT_one (i := 12) (o := ⟨some 28, _, _, _, _, _⟩) (by kernel_rfl) rfl (fun K hK => ?_)
  go_simp
  go_at_call 45
  refine (inners_new (S := fun g => S g ∨ W.heap.size ≤ g) w3 ha [(.slice acut lst ccut, ks.take lst), (.slice a3 ks3.length n3, ks3)] ?_ (ks.take lst ++ ks3) (by simp [catE]) ?_ ?_ (by simp)).mono ?_
  · intro x hx
    rw [List.mem_cons, List.mem_singleton] at hx
    have hbw := HBW3.out
    rcases hx with rfl | rfl
    · exact ((HCUT.out.later HB3.out).weak fun g hg => .inl hg)
    · exact HN3.out.1.weak fun g hg => hg.imp (fun h => h.1) fun h => Nat.le_trans hbw h
  · intro x hx
    have hbw := HBW3.out
    rcases List.mem_append.1 hx with hx | hx
    · exact ⟨(HKS.out x (List.mem_of_mem_take hx)).1, ((HKS.out x (List.mem_of_mem_take hx)).2.later HB3.out).weak fun g hg => .inl hg⟩
    · exact ⟨(HL3.out.2 x hx).1, (HN3.out.2 x hx).weak fun g hg => hg.imp (fun h => h.1) fun h => Nat.le_trans hbw h⟩
  · rw [catK_app, HC3.out, ← List.append_assoc, HCAT.out]
    simpa using HN.out
  rintro e w5 ⟨v5, rfl, kn, hn5, hc5, hf5, hb5⟩
  have HK5 := Lib.hid (show _ ∧ _ ∧ _ from ⟨((hb5).cell (p := ⟨W.heap.size, 2, none⟩) (World.block_lt_of_cell? _ _ HK3.out.1)).trans HK3.out.1, range_later HK3.out.2.1 hb5, ((hb5).block _ (Array.getElem?_eq_some_iff.1 HK3.out.2.2).1).trans HK3.out.2.2⟩)
  have HN5 := Lib.hid hn5
  have HC5 := Lib.hid hc5
  have HF5 := Lib.hid hf5
  have HB5 := Lib.hid (HB3.out.trans (hb5.mono HB3.out.size))
  clear hb5 hn5 hc5 hf5
  (try dsimp only)
  refine hK.out _ _ (by first | exact HK2.out | exact HK3.out | exact HK4.out | exact HK5.out) (fun hHeld => ?_)
  clear hK K
  (try simp only [Act.put, List.setIfInBounds_toArray, List.set_cons_zero, List.set_cons_succ])
  refine wpAnyT_last (i := 13) (o := ⟨some 4, _, _, _, _, _⟩) (by kernel_rfl) (by decide) rfl (fun K hK => ?_)
  go_simp
  refine hK.out _ _ ?_
  clear hK K
  (try simp only [Act.put, List.setIfInBounds_toArray, List.set_cons_zero, List.set_cons_succ])
  refine wpAnyT_done (by kernel_rfl) ?_ _

  go_wp2_with fail
  go_ret
  have hnn := HNN.out
  have hl3 := HL3.out
  have hxl : (ks.take lst ++ ks3).length = lst + ks3.length := by rw [List.length_append, List.length_take]; omega
  rw [hxl] at HF5
  have hgt := HGT.out
  have hpk : m ≤ p.k := by rcases HM.out with h | h <;> omega
  have he := fit_ends HF5.out (by omega) (by omega) HM8.out (by omega)
  refine ⟨_, rfl, kn, ?_, ?_, he.1, he.2, HB5.out⟩
  · rw [show max (ha + 1) hb = ha + 1 by omega]
    exact HN5.out.weak fun g hg => hg.elim id fun h => .inr (Nat.le_trans HB3.out.size h)
  · rw [HC5.out, catK_app, HC3.out, ← List.append_assoc, HCAT.out]
set_option maxHeartbeats 4000000 in
theorem join_lt (ha hb : Nat) (hlt : ha < hb + 1) (ih : JoinDoes ha hb) : JoinDoes ha (hb + 1) := by
  intro S W p q m hp hq hN hm8 hm
  obtain ⟨w2, hw2⟩ : ∃ w2, (W.alloc (.cells (kidc ha p).toArray 33)).alloc (.cells (kidc (hb + 1) q).toArray 33) = w2 := ⟨_, rfl⟩
  obtain ⟨hb2, hx2, hy2, hs2⟩ := two_new hw2
  have HB2 := Lib.hid hb2
  have HY2 := Lib.hid hy2
  have HX2 := Lib.hid hx2
  have HS2 := Lib.hid hs2
  obtain ⟨Na, hNa⟩ : ∃ Na : Nat, Na = ha + 1 := ⟨_, rfl⟩
  obtain ⟨Nb, hNb⟩ : ∃ Nb : Nat, Nb = (hb + 1) + 1 := ⟨_, rfl⟩
  have ca1 : w2.cell? ⟨W.heap.size, 1, none⟩ = some (.int .i64 (Na : Int)) := by rw [hNa]; exact cell_in hx2 rfl
  have ca2 : w2.cell? ⟨W.heap.size, 2, none⟩ = some p.a := cell_in hx2 rfl
  have ca3 : w2.cell? ⟨W.heap.size, 3, none⟩ = some p.b := cell_in hx2 rfl
  have cb1 : w2.cell? ⟨W.heap.size + 1, 1, none⟩ = some (.int .i64 (Nb : Int)) := by rw [hNb]; exact cell_in hy2 rfl
  have cb2 : w2.cell? ⟨W.heap.size + 1, 2, none⟩ = some q.a := cell_in hy2 rfl
  have cb3 : w2.cell? ⟨W.heap.size + 1, 3, none⟩ = some q.b := cell_in hy2 rfl
  obtain ⟨cp, hcp⟩ : ∃ cp, cp = (kidc ha p).toArray := ⟨_, rfl⟩
  have HCPS : Hid (cp.size = 4) := by show _ = _; rw [hcp]; rfl
  obtain ⟨hqb, hk1, hk16, ks, hh, hkl, hl, hks⟩ := hq
  obtain ⟨n, hn⟩ : ∃ n, n = q.k := ⟨_, rfl⟩
  rw [← hn] at hk1 hk16 hh hkl
  obtain ⟨qa, na, ca, hpa, hna⟩ := kids_len hp
  rw [hpa] at ca2
  have hna' : (na : Int) ≤ 16 := by omega
  obtain ⟨g, c, cur, fr, hqa, hcap, hS, hg, hcs⟩ := hh.pos hk1
  rw [hqa] at cb2
  obtain ⟨lst, hlst⟩ : ∃ lst, lst = n - 1 := ⟨_, rfl⟩
  have hlk : 0 < ks.length := by omega
  have hrg := en_range (h := hb) hg hcs hlk
  rw [Nat.zero_mul] at hrg
  have hyk := hks _ (List.getElem_mem hlk)
  have hcat : ks[0].l ++ catK (ks.drop 1) = catK ks := by
    rw [← catK_cons, List.drop_one]
    match ks, hlk with
    | k :: ks, _ => rfl
  obtain ⟨y, hy⟩ : ∃ y, y = ks[0] := ⟨_, rfl⟩
  rw [← hy] at hrg hyk hcat
  have hcut := hh.cut
  rw [hqa] at hcut
  obtain ⟨acut, ccut, hcut2, hrun'⟩ := cut_l 30 tn_sl tn_size hcut (lo := 1) (by omega)
  rw [en_drop (kidc_len hb), ← hlst] at hcut2
  rw [← hlst] at hrun'
  have hrun : ∀ w, (Instr.slice 30 (.slice (some ⟨g, 0, none⟩) n c) (some (.int .i64 1)) none none).run Try.prog w = .ok (.slice acut lst ccut) w := hrun'
  have HCUT : Hid (CutAt S W 4 (.slice acut lst ccut) (en (kidc hb) (ks.drop 1)) (ks.drop 1).length) := by
    show CutAt _ _ _ _ _ _
    rwa [show (ks.drop 1).length = lst by rw [List.length_drop]; omega]
  have hyl : y.l.length ≤ q.l.length := by rw [hl, ← hcat, List.length_append]; omega
  have HREC := Lib.hid (ih (fun g => S g ∧ g < W.heap.size) w2.drew p y 8 (hp.old.later (hb2.trans ((drawn_below w2).mono hb2.size))) (hyk.2.old.later (hb2.trans ((drawn_below w2).mono hb2.size))) (by omega) (Nat.le_refl _) (.inr ⟨by omega, hyk.1⟩))
  rw [← hcp, show max ha hb = hb by omega] at HREC
  rw [← hcp] at HX2
  have HK2 : Hid (w2.drew.cell? ⟨W.heap.size + 1, 2, none⟩ = some (.slice (some ⟨g, 0, none⟩) n c) ∧ w2.drew.rangeAt g 0 (kidc hb y) ∧ w2.drew.heap[W.heap.size]? = some (.cells cp 33 (0, 0))) :=
    ⟨cb2, range_later hrg (hb2.trans ((drawn_below w2).mono hb2.size)), HX2.out⟩
  have HCAT : Hid (y.l ++ catK (ks.drop 1) = q.l) := by show _ = _; rw [hl, hcat]
  have HKS := Lib.hid hks
  have HN : Hid (p.l.length + q.l.length ≤ 100000) := hN
  have HM := Lib.hid hm
  have HM8 := Lib.hid hm8
  have HNN := Lib.hid (And.intro hn (And.intro hlst (And.intro hkl hk16)))
  have HLT := Lib.hid hlt
  have hgt' : ¬ ((Na : Int) > (Nb : Int)) := by omega
  have hlt' : (Na : Int) < (Nb : Int) := by omega
  have hn0 : (0 : Int) < n := by omega
  have hn00 : 0 < n := by omega
  have hn16 : (n : Int) ≤ 16 := by omega
  clear hb2 hx2 hy2 hs2 hqb hk16 hh hkl hl hks hn hS hg hcs hqa hcap hcut hcut2 hlk hrg hyk hcat hy hyl hm hm8 hN hlt hlst hNa hNb ca3 cb3 hp hcp hk1 hpa hna hrun'
  go_enter Try.func48, Try.ntmps48
  go_upto_region 5 with fail
  clear hw2
  refine wp_region_T (S := fun V => V.cell? ⟨W.heap.size + 1, 2, none⟩ = some (.slice (some ⟨g, 0, none⟩) n c) ∧ V.rangeAt g 0 (kidc hb y) ∧ V.heap[W.heap.size]? = some (.cells cp 33 (0, 0))) [11] (by kernel_rfl) (by first | exact HK2.out | exact HK3.out | exact HK4.out | exact HK5.out) (fun hHeld => ?_)
  refine wpAnyT_take (i := 0) (oi := ⟨some 35, _, _, _, _, _⟩) (v := _) rfl (by kernel_rfl) (by kernel_rfl) (by kernel_rfl) (by kernel_rfl) (fun _ _ _ h => h) (yieldsIf_load_row (by rfl) 33 _ rfl W.heap.size rfl cp 33 (0, 0) _ (fun w hw => hw.2.2) Try.underlying33 rfl (by rw [HCPS.out]; exact rnode_size)) (by assumption) ?_
  (try simp only [Act.put, List.setIfInBounds_toArray, List.set_cons_zero, List.set_cons_succ])
  refine wpAnyT_take (i := 1) (oi := ⟨some 36, _, _, _, _, _⟩) (v := ?vg2_1) rfl (by kernel_rfl) (by kernel_rfl) (by kernel_rfl) (by kernel_rfl) (fun _ _ _ h => h) (Or.inl ⟨by rfl, ?hg2_1⟩) (by assumption) ?rg2_1
  case hg2_1 => (intro w hSw; (try dsimp only at hSw); first | (go_simp; done) | (go_simp; with_reducible rfl))
  (try simp only [Act.put, List.setIfInBounds_toArray, List.set_cons_zero, List.set_cons_succ])
  refine wpAnyT_take (i := 2) (oi := ⟨some 37, _, _, _, _, _⟩) (v := ?vg2_2) rfl (by kernel_rfl) (by kernel_rfl) (by kernel_rfl) (by kernel_rfl) (fun _ _ _ h => h) (Or.inl ⟨by rfl, ?hg2_2⟩) (by assumption) ?rg2_2
  case hg2_2 => (intro w hSw; (try dsimp only at hSw); first | (go_simp; done) | (go_simp; with_reducible rfl))
  (try simp only [Act.put, List.setIfInBounds_toArray, List.set_cons_zero, List.set_cons_succ])
  refine wpAnyT_take (i := 3) (oi := ⟨some 38, _, _, _, _, _⟩) (v := ?vg2_3) rfl (by kernel_rfl) (by kernel_rfl) (by kernel_rfl) (by kernel_rfl) (fun _ _ _ h => h) (Or.inl ⟨by rfl, ?hg2_3⟩) (by assumption) ?rg2_3
  case hg2_3 => (intro w hSw; (try dsimp only at hSw); first | (go_simp; done) | (go_simp; with_reducible rfl))
  (try simp only [Act.put, List.setIfInBounds_toArray, List.set_cons_zero, List.set_cons_succ])
  refine wpAnyT_take (i := 4) (oi := ⟨some 39, _, _, _, _, _⟩) (v := _) rfl (by kernel_rfl) (by kernel_rfl) (by kernel_rfl) (by kernel_rfl) (fun _ _ _ h => h) (yieldsIf_load_mid (by rfl) 33 _ rfl g 0 rfl (kidc hb y) _ (fun w hw => hw.2.1) Try.underlying33 rfl rnode_size) (by assumption) ?_
  (try simp only [Act.put, List.setIfInBounds_toArray, List.set_cons_zero, List.set_cons_succ])
  refine wpAnyT_take (i := 6) (oi := ⟨some 41, _, _, _, _, _⟩) (v := ?vg2_6) rfl (by kernel_rfl) (by kernel_rfl) (by kernel_rfl) (by kernel_rfl) (fun _ _ _ h => h) (Or.inl ⟨by rfl, ?hg2_6⟩) (by assumption) ?rg2_6
  case hg2_6 => (intro w hSw; (try dsimp only at hSw); first | (go_simp; done) | (go_simp; with_reducible rfl))
  (try simp only [Act.put, List.setIfInBounds_toArray, List.set_cons_zero, List.set_cons_succ])
  refine wpAnyT_take (i := 7) (oi := ⟨some 42, _, _, _, _, _⟩) (v := ?vg2_7) rfl (by kernel_rfl) (by kernel_rfl) (by kernel_rfl) (by kernel_rfl) (fun _ _ _ h => h) (Or.inl ⟨by rfl, ?hg2_7⟩) (by assumption) ?rg2_7
  case hg2_7 => (intro w hSw; (try dsimp only at hSw); first | (go_simp; done) | (go_simp; with_reducible rfl))
  (try simp only [Act.put, List.setIfInBounds_toArray, List.set_cons_zero, List.set_cons_succ])
  refine wpAnyT_take (i := 8) (oi := ⟨some 43, _, _, _, _, _⟩) (v := ?vg2_8) rfl (by kernel_rfl) (by kernel_rfl) (by kernel_rfl) (by kernel_rfl) (fun _ _ _ h => h) (Or.inl ⟨by rfl, ?hg2_8⟩) (by assumption) ?rg2_8
  case hg2_8 => (intro w hSw; (try dsimp only at hSw); first | (go_simp; done) | (go_simp; with_reducible rfl))
  (try simp only [Act.put, List.setIfInBounds_toArray, List.set_cons_zero, List.set_cons_succ])
  refine wpAnyT_one (i := 5) (o := ⟨some 40, _, _, _, _, _⟩) (by kernel_rfl) rfl (fun K hK => ?_)
  go_simp
  go_at_call 48
  refine HREC.out.mono ?_
  rintro e w3 ⟨v3, rfl, ks3, hn3, hc3, hl3, hx3, hb3⟩
  obtain ⟨a3, n3, rfl, _⟩ := hn3.1.shape
  have HK3 := Lib.hid (show _ ∧ _ ∧ _ from ⟨((hb3).cell (p := ⟨W.heap.size + 1, 2, none⟩) (World.block_lt_of_cell? _ _ HK2.out.1)).trans HK2.out.1, range_later HK2.out.2.1 hb3, ((hb3).block _ (Array.getElem?_eq_some_iff.1 HK2.out.2.2).1).trans HK2.out.2.2⟩)
  have HB3 := Lib.hid (HB2.out.trans ((((drawn_below w2).mono HB2.out.size)).trans (hb3.mono HB2.out.size)))
  have HN3 := Lib.hid hn3
  have HC3 := Lib.hid hc3
  have HL3 := Lib.hid (And.intro hl3 hx3)
  have HBW3 : Hid (W.heap.size ≤ w2.heap.size) := HB2.out.size
  clear hb3 hn3 hc3 hl3 hx3
  (try dsimp only)
  refine hK.out _ _ (by first | exact HK2.out | exact HK3.out | exact HK4.out | exact HK5.out) (fun hHeld => ?_)
  clear hK K
  (try simp only [Act.put, List.setIfInBounds_toArray, List.set_cons_zero, List.set_cons_succ])
  refine wpAnyT_one (i := 9) (o := ⟨some 44, _, _, _, _, _⟩) (by kernel_rfl) rfl (fun K hK => ?_)
  go_simp
  have hb4 := Below.newly' w3 (.cells #[.slice a3 ks3.length n3, .slice acut lst ccut] 30)
  have HK4 := Lib.hid (show _ ∧ _ ∧ _ from ⟨((hb4).cell (p := ⟨W.heap.size + 1, 2, none⟩) (World.block_lt_of_cell? _ _ HK3.out.1)).trans HK3.out.1, range_later HK3.out.2.1 hb4, ((hb4).block _ (Array.getElem?_eq_some_iff.1 HK3.out.2.2).1).trans HK3.out.2.2⟩)
  clear hb4
  (try dsimp only)
  refine hK.out _ _ (by first | exact HK2.out | exact HK3.out | exact HK4.out | exact HK5.out) (fun hHeld => ?_)
  clear hK K
  (try simp only [Act.put, List.setIfInBounds_toArray, List.set_cons_zero, List.set_cons_succ])
  refine wpAnyT_one (i := 10) (o := ⟨some 45, _, _, _, _, _⟩) (by kernel_rfl) rfl (fun K hK => ?_)
  go_simp
  go_at_call 45
  refine (inners_new (S := fun g => S g ∨ W.heap.size ≤ g) w3 hb [(.slice a3 ks3.length n3, ks3), (.slice acut lst ccut, ks.drop 1)] ?_ (ks3 ++ ks.drop 1) (by simp [catE]) ?_ ?_ (by simp)).mono ?_
  · intro x hx
    rw [List.mem_cons, List.mem_singleton] at hx
    have hbw := HBW3.out
    rcases hx with rfl | rfl
    · exact HN3.out.1.weak fun g hg => hg.imp (fun h => h.1) fun h => Nat.le_trans hbw h
    · exact ((HCUT.out.later HB3.out).weak fun g hg => .inl hg)
  · intro x hx
    have hbw := HBW3.out
    rcases List.mem_append.1 hx with hx | hx
    · exact ⟨(HL3.out.2 x hx).1, (HN3.out.2 x hx).weak fun g hg => hg.imp (fun h => h.1) fun h => Nat.le_trans hbw h⟩
    · exact ⟨(HKS.out x (List.mem_of_mem_drop hx)).1, ((HKS.out x (List.mem_of_mem_drop hx)).2.later HB3.out).weak fun g hg => .inl hg⟩
  · rw [catK_app, HC3.out, List.append_assoc, HCAT.out]
    simpa using HN.out
  rintro e w5 ⟨v5, rfl, kn, hn5, hc5, hf5, hb5⟩
  have HK5 := Lib.hid (show _ ∧ _ ∧ _ from ⟨((hb5).cell (p := ⟨W.heap.size + 1, 2, none⟩) (World.block_lt_of_cell? _ _ HK3.out.1)).trans HK3.out.1, range_later HK3.out.2.1 hb5, ((hb5).block _ (Array.getElem?_eq_some_iff.1 HK3.out.2.2).1).trans HK3.out.2.2⟩)
  have HN5 := Lib.hid hn5
  have HC5 := Lib.hid hc5
  have HF5 := Lib.hid hf5
  have HB5 := Lib.hid (HB3.out.trans (hb5.mono HB3.out.size))
  clear hb5 hn5 hc5 hf5
  (try dsimp only)
  refine hK.out _ _ (by first | exact HK2.out | exact HK3.out | exact HK4.out | exact HK5.out) (fun hHeld => ?_)
  clear hK K
  (try simp only [Act.put, List.setIfInBounds_toArray, List.set_cons_zero, List.set_cons_succ])
  refine wpAnyT_last (i := 11) (o := ⟨some 4, _, _, _, _, _⟩) (by kernel_rfl) (by decide) rfl (fun K hK => ?_)
  go_simp
  refine hK.out _ _ ?_
  clear hK K
  (try simp only [Act.put, List.setIfInBounds_toArray, List.set_cons_zero, List.set_cons_succ])
  refine wpAnyT_done (by kernel_rfl) ?_ _

  go_wp2_with fail
  go_ret
  have hnn := HNN.out
  have hl3 := HL3.out
  have hxl : (ks3 ++ ks.drop 1).length = ks3.length + lst := by rw [List.length_append, List.length_drop]; omega
  rw [hxl] at HF5
  have hlt := HLT.out
  have hpk : m ≤ q.k := by rcases HM.out with h | h <;> omega
  have he := fit_ends HF5.out (by omega) (by omega) HM8.out (by omega)
  refine ⟨_, rfl, kn, ?_, ?_, he.1, he.2, HB5.out⟩
  · rw [show max ha (hb + 1) = hb + 1 by omega]
    exact HN5.out.weak fun g hg => hg.elim id fun h => .inr (Nat.le_trans HB3.out.size h)
  · rw [HC5.out, catK_app, HC3.out, List.append_assoc, HCAT.out]
set_option maxHeartbeats 2000000 in
theorem join_leaf : JoinDoes 0 0 := by
  intro S W p q m hp hq hN hm8 hm
  obtain ⟨w2, hw2⟩ : ∃ w2, (W.alloc (.cells (kidc 0 p).toArray 33)).alloc (.cells (kidc 0 q).toArray 33) = w2 := ⟨_, rfl⟩
  obtain ⟨hb2, hx2, hy2, hs2⟩ := two_new hw2
  have HB2 := Lib.hid hb2
  have HY2 := Lib.hid hy2
  have HX2 := Lib.hid hx2
  have HS2 := Lib.hid hs2
  obtain ⟨Na, hNa⟩ : ∃ Na : Nat, Na = 0 + 1 := ⟨_, rfl⟩
  obtain ⟨Nb, hNb⟩ : ∃ Nb : Nat, Nb = 0 + 1 := ⟨_, rfl⟩
  have ca1 : w2.cell? ⟨W.heap.size, 1, none⟩ = some (.int .i64 (Na : Int)) := by rw [hNa]; exact cell_in hx2 rfl
  have ca2 : w2.cell? ⟨W.heap.size, 2, none⟩ = some p.a := cell_in hx2 rfl
  have ca3 : w2.cell? ⟨W.heap.size, 3, none⟩ = some p.b := cell_in hx2 rfl
  have cb1 : w2.cell? ⟨W.heap.size + 1, 1, none⟩ = some (.int .i64 (Nb : Int)) := by rw [hNb]; exact cell_in hy2 rfl
  have cb2 : w2.cell? ⟨W.heap.size + 1, 2, none⟩ = some q.a := cell_in hy2 rfl
  have cb3 : w2.cell? ⟨W.heap.size + 1, 3, none⟩ = some q.b := cell_in hy2 rfl
  obtain ⟨hpa, hpk, hp1, hp16, hph⟩ := hp
  obtain ⟨hqa, hqk, hq1, hq16, hqh⟩ := hq
  obtain ⟨qp, np, hpb, _⟩ := hph.shape
  obtain ⟨qq, nq, hqb, _⟩ := hqh.shape
  rw [hpa] at ca2
  rw [hpb] at ca3
  rw [hqb] at cb3
  have HL := Lib.hid (leaves_new w2 [(p.b, p.l), (q.b, q.l)] (fun x hx => by
    rw [List.mem_cons, List.mem_singleton] at hx
    rcases hx with rfl | rfl
    · have := hph.cut.later hb2
      rwa [hpk] at this
    · have := hqh.cut.later hb2
      rwa [hqk] at this) (p.l ++ q.l) (by simp [catE]) (by rw [List.length_append]; omega) (by simp))
  simp only [List.map_cons, List.map_nil, hpb, hqb] at HL
  have HK := Lib.hid (And.intro hpk (And.intro hqk (And.intro hp1 (And.intro hp16 (And.intro hq1 hq16)))))
  have HM := Lib.hid hm
  have HM8 := Lib.hid hm8
  have hge : ¬ ((Na : Int) > (Nb : Int)) := by omega
  have hlt : ¬ ((Na : Int) < (Nb : Int)) := by omega
  have hnil := nodes_none
  clear hb2 hx2 hy2 hs2 hpa hpk hp1 hp16 hph hqa hqk hq1 hq16 hqh hpb hqb hm hm8 hN hNa hNb cb2 HX2 HY2 HS2
  go_enter Try.func48, Try.ntmps48
  go_upto_region 1 with fail
  clear hw2
  go_wp2_with (go_at_call 31; refine HL.out.mono ?_; rintro e w3 ⟨v3, rfl, ks, hn3, hc3, hf3, hb3⟩; have HN3 := Lib.hid hn3; have HC3 := Lib.hid hc3; have HF3 := Lib.hid hf3; have HB3 := Lib.hid hb3; clear hn3 hc3 hf3 hb3)
  go_ret
  have hk := HK.out
  rw [List.length_append] at HF3
  have he := fit_ends HF3.out (by omega) (by omega) HM8.out (by rcases HM.out with h | h <;> omega)
  exact ⟨_, rfl, ks, HN3.out.weak fun g hg => .inr (Nat.le_trans HB2.out.size hg), HC3.out, he.1, he.2, HB2.out.trans (HB3.out.mono HB2.out.size)⟩
set_option maxHeartbeats 2000000 in
theorem join_eq (h : Nat) : JoinDoes (h + 1) (h + 1) := by
  intro S W p q m hp hq hN hm8 hm
  obtain ⟨w2, hw2⟩ : ∃ w2, (W.alloc (.cells (kidc (h + 1) p).toArray 33)).alloc (.cells (kidc (h + 1) q).toArray 33) = w2 := ⟨_, rfl⟩
  obtain ⟨hb2, hx2, hy2, hs2⟩ := two_new hw2
  have HB2 := Lib.hid hb2
  have HY2 := Lib.hid hy2
  have HX2 := Lib.hid hx2
  have HS2 := Lib.hid hs2
  obtain ⟨Na, hNa⟩ : ∃ Na : Nat, Na = (h + 1) + 1 := ⟨_, rfl⟩
  obtain ⟨Nb, hNb⟩ : ∃ Nb : Nat, Nb = (h + 1) + 1 := ⟨_, rfl⟩
  have ca1 : w2.cell? ⟨W.heap.size, 1, none⟩ = some (.int .i64 (Na : Int)) := by rw [hNa]; exact cell_in hx2 rfl
  have ca2 : w2.cell? ⟨W.heap.size, 2, none⟩ = some p.a := cell_in hx2 rfl
  have ca3 : w2.cell? ⟨W.heap.size, 3, none⟩ = some p.b := cell_in hx2 rfl
  have cb1 : w2.cell? ⟨W.heap.size + 1, 1, none⟩ = some (.int .i64 (Nb : Int)) := by rw [hNb]; exact cell_in hy2 rfl
  have cb2 : w2.cell? ⟨W.heap.size + 1, 2, none⟩ = some q.a := cell_in hy2 rfl
  have cb3 : w2.cell? ⟨W.heap.size + 1, 3, none⟩ = some q.b := cell_in hy2 rfl
  obtain ⟨hpb, hp1, hp16, ks, hph, hpl, hpc, hpk⟩ := hp
  obtain ⟨hqb, hq1, hq16, kt, hqh, hql, hqc, hqk⟩ := hq
  obtain ⟨g, c, cur, fr, hpa, hcap, hS, hg, hcs⟩ := hph.pos (by omega)
  obtain ⟨qq, nq, hqa, _⟩ := hqh.shape
  have hHI := inners_new (S := S) w2 h [(p.a, ks), (q.a, kt)] (fun x hx => by
    rw [List.mem_cons, List.mem_singleton] at hx
    rcases hx with rfl | rfl
    · have := hph.cut.later hb2
      rwa [← hpl] at this
    · have := hqh.cut.later hb2
      rwa [← hql] at this) (ks ++ kt) (by simp [catE]) (fun x hx => by
    rcases List.mem_append.1 hx with hx | hx
    · exact ⟨(hpk x hx).1, (hpk x hx).2.later hb2⟩
    · exact ⟨(hqk x hx).1, (hqk x hx).2.later hb2⟩) (by rw [catK_app, ← hpc, ← hqc, List.length_append]; exact hN) (by simp)
  rw [hpa] at ca2
  rw [hqa] at cb2
  simp only [List.map_cons, List.map_nil, hpa, hqa] at hHI
  obtain ⟨n, hn⟩ : ∃ n, n = p.k := ⟨_, rfl⟩
  rw [← hn] at ca2 hHI hp1 hp16
  obtain ⟨n2, hn2⟩ : ∃ n2, n2 = q.k := ⟨_, rfl⟩
  rw [← hn2] at cb2 hHI hq1 hq16
  have HL := Lib.hid hHI
  have HK := Lib.hid (And.intro hn (And.intro hn2 (And.intro hp1 (And.intro hp16 (And.intro hq1 (And.intro hq16 (And.intro hpl (And.intro hql (And.intro hpc hqc)))))))))
  have HM := Lib.hid hm
  have HM8 := Lib.hid hm8
  have hge : ¬ ((Na : Int) > (Nb : Int)) := by omega
  have hlt : ¬ ((Na : Int) < (Nb : Int)) := by omega
  have hn16 : (n : Int) ≤ 16 := by omega
  have hnil := fun w => nodes_some ⟨g, 0, none⟩ n c w
  clear hb2 hx2 hy2 hs2 hp1 hp16 hph hpl hpc hpk hq1 hq16 hqh hql hqc hqk hpb hqb hm hm8 hN hNa hNb ca3 cb3 HX2 HY2 HS2 hHI hcap hS hg hcs hpa hqa hn hn2
  go_enter Try.func48, Try.ntmps48
  go_upto_region 1 with fail
  clear hw2
  go_wp2_with (go_at_call 45; refine HL.out.mono ?_; rintro e w3 ⟨v3, rfl, kn, hn3, hc3, hf3, hb3⟩; have HN3 := Lib.hid hn3; have HC3 := Lib.hid hc3; have HF3 := Lib.hid hf3; have HB3 := Lib.hid hb3; clear hn3 hc3 hf3 hb3)
  go_ret
  obtain ⟨k1, k2, k3, k4, k5, k6, k7, k8, k9, k10⟩ := HK.out
  rw [List.length_append] at HF3
  have he := fit_ends HF3.out (by omega) (by omega) HM8.out (by rcases HM.out with h | h <;> omega)
  refine ⟨_, rfl, kn, ?_, by rw [HC3.out, catK_app, k9, k10], he.1, he.2, HB2.out.trans (HB3.out.mono HB2.out.size)⟩
  rw [Nat.max_self]
  exact HN3.out.weak fun g hg => hg.imp_right fun h => Nat.le_trans HB2.out.size h
theorem rp_joined : ∀ (N ha hb : Nat), ha + hb ≤ N → JoinDoes ha hb
  | 0, ha, hb, hle => by obtain rfl : ha = 0 := by omega
                         obtain rfl : hb = 0 := by omega
                         exact join_leaf
  | N + 1, ha, hb, hle => by
    rcases Nat.lt_trichotomy ha hb with h | h | h
    · obtain ⟨hb', rfl⟩ : ∃ x, hb = x + 1 := ⟨hb - 1, by omega⟩
      exact join_lt ha hb' h (rp_joined N ha hb' (by omega))
    · subst h
      cases ha with
      | zero => exact join_leaf
      | succ h => exact join_eq h
    · obtain ⟨ha', rfl⟩ : ∃ x, ha = x + 1 := ⟨ha - 1, by omega⟩
      exact join_gt ha' hb h (rp_joined N ha' hb (by omega))
set_option maxHeartbeats 2000000 in
theorem rp_concat (W : World) {S : Nat → Prop} {ca cb : Array Value} {la lb : List Int} (ha : RootR S W ca la) (hb : RootR S W cb lb) (hN : la.length + lb.length ≤ 100000) :
    Calls Try.prog 37 #[.agg ca, .agg cb] W fun e W' => ∃ c, e = .returned (.agg c) ∧ RootR (fun g => S g ∨ W.heap.size ≤ g) W' c (la ++ lb) ∧ Below W.heap.size W W' := by
  obtain ⟨w2, hw2⟩ : ∃ w2, (W.alloc (.cells ca 33)).alloc (.cells cb 33) = w2 := ⟨_, rfl⟩
  obtain ⟨hb2, hx2, hy2, hs2⟩ := two_new hw2
  obtain ⟨w3, hw3⟩ : ∃ w3, w2.alloc (.cells #[.int .i64 0, .int .i64 0, .slice none 0 0, .slice none 0 0] 33) = w3 := ⟨_, rfl⟩
  obtain ⟨hb3, hz3, hs3⟩ := nodes_new hw3
  rw [← hw2] at hw3
  rw [hs2] at hz3 hs3
  have hB3 := hb2.trans (hb3.mono hb2.size)
  have HX3 := Lib.hid ((hb3.block _ (by omega)).trans hx2)
  have HY3 := Lib.hid ((hb3.block _ (by omega)).trans hy2)
  have HZ3 := Lib.hid hz3
  have HB3 := Lib.hid hB3
  have HS3 := Lib.hid hs3
  have HA3 := Lib.hid (ha.old.later hB3)
  have HBB3 := Lib.hid (hb.old.later hB3)
  have qa : w3.cell? ⟨W.heap.size, 0, none⟩ = some (.int .i64 (la.length : Int)) := cell_in HX3.out ha.n
  have qb : w3.cell? ⟨W.heap.size + 1, 0, none⟩ = some (.int .i64 (lb.length : Int)) := cell_in HY3.out hb.n
  have HAS := Lib.hid (And.intro ha.size ha.one)
  have HBS := Lib.hid (And.intro hb.size hb.one)
  have HN := Lib.hid hN
  have HA := Lib.hid ha
  have HBR := Lib.hid hb
  clear hb2 hx2 hy2 hs2 hb3 hz3 hs3 hw2 hB3 hN
  rcases Nat.eq_zero_or_pos la.length with h0 | h0
  · obtain rfl := List.eq_nil_of_length_eq_zero h0
    simp only [List.length_nil] at qa
    clear ha hb h0
    go_enter Try.func37, Try.ntmps37
    go_upto_region 1 with fail
    clear hw3
    go_wp2_with (first
      | (refine ld_if rfl 33 _ rfl (W.heap.size + 1) rfl 33 _ _ _ HY3.out Try.underlying33 rfl (by rw [HBS.out.1]; exact rnode_size) ?_)
      | (refine st_agg rfl 33 _ _ rfl (W.heap.size + 1 + 1) cb rfl rfl 33 _ HZ3.out (by rw [HBS.out.1]; exact rnode_size) (by rw [HBS.out.1]; rfl) HBS.out.2 ?_; intro w5 h5 k5))
    refine bodyPost_ret (results_cell_row rfl _ _ (W.heap.size + 1 + 1) 33 _ (0, 0) _ rfl h5 Try.underlying33 rfl (by rw [HBS.out.1]; exact rnode_size)) rfl ⟨_, rfl, ?_, HB3.out.trans (k5.below (by omega))⟩
    exact (HBB3.out.kept k5.by_ (fun X e => by cases e; rintro ⟨_, h⟩; omega)).weak fun g hg => .inl hg.1
  · have h0' : ((la.length : Int) == 0) = false := beq_eq_false_iff_ne.2 (by omega)
    rcases Nat.eq_zero_or_pos lb.length with h1 | h1
    · obtain rfl := List.eq_nil_of_length_eq_zero h1
      simp only [List.length_nil] at qb
      clear ha hb h1 h0
      go_enter Try.func37, Try.ntmps37
      go_upto_region 1 with fail
      clear hw3
      go_wp2_with (first
        | (refine ld_if rfl 33 _ rfl W.heap.size rfl 33 _ _ _ HX3.out Try.underlying33 rfl (by rw [HAS.out.1]; exact rnode_size) ?_)
        | (refine st_agg rfl 33 _ _ rfl (W.heap.size + 1 + 1) ca rfl rfl 33 _ HZ3.out (by rw [HAS.out.1]; exact rnode_size) (by rw [HAS.out.1]; rfl) HAS.out.2 ?_; intro w5 h5 k5))
      refine bodyPost_ret (results_cell_row rfl _ _ (W.heap.size + 1 + 1) 33 _ (0, 0) _ rfl h5 Try.underlying33 rfl (by rw [HAS.out.1]; exact rnode_size)) rfl ⟨_, rfl, ?_, HB3.out.trans (k5.below (by omega))⟩
      rw [List.append_nil]
      exact (HA3.out.kept k5.by_ (fun X e => by cases e; rintro ⟨_, h⟩; omega)).weak fun g hg => .inl hg.1
    · have h1' : ((lb.length : Int) == 0) = false := beq_eq_false_iff_ne.2 (by omega)
      rcases ha with ⟨rfl, _⟩ | ⟨h, p, hcp, hpl, hp, hpr⟩
      · simp at h0
      rcases hb with ⟨rfl, _⟩ | ⟨h', q, hcq, hql, hq, hqr⟩
      · simp at h1
      obtain ⟨m, hm⟩ : ∃ m, m = if h' ≤ h then (if h = 0 then 1 else 2) else 2 := ⟨_, rfl⟩
      have hp1 := hp.wid
      have hq1 := hq.wid
      have hJ := rp_joined (h + h') h h' (Nat.le_refl _) (fun g => S g ∧ g < W.heap.size) w3 p q m (by
          rcases HA3.out with ⟨e, _⟩ | ⟨h2, p2, e1, e2, e3, _⟩
          · rw [← hpl] at h0; rw [hpl, e] at h0; simp at h0
          · exact hp.old.later HB3.out) (hq.old.later HB3.out) (by rw [hpl, hql]; exact HN.out) (by rw [hm]; split <;> (try split) <;> omega) (by
          rw [hm]
          by_cases hh : h' ≤ h
          · refine .inl ⟨hh, ?_⟩
            rw [if_pos hh]
            split
            · omega
            · rcases hpr with e | e <;> omega
          · refine .inr ⟨by omega, ?_⟩
            rw [if_neg hh]
            rcases hqr with e | e <;> omega)
      rw [← hcp, ← hcq, hpl, hql] at hJ
      have HJ := Lib.hid hJ
      have HMR : Hid (max h h' = 0 ∨ 2 ≤ m) := by
        show _ ∨ _
        rw [hm]
        by_cases hh : h' ≤ h
        · rw [if_pos hh]
          split
          · exact .inl (by omega)
          · exact .inr (Nat.le_refl _)
        · rw [if_neg hh]
          exact .inr (Nat.le_refl _)
      clear hcp hpl hp hpr hcq hql hq hqr hp1 hq1 hJ hm h0 h1
      go_enter Try.func37, Try.ntmps37
      go_upto_region 1 with fail
      clear hw3
      go_wp2_with (first
        | (refine ld_if rfl 33 _ rfl W.heap.size rfl 33 _ _ _ HX3.out Try.underlying33 rfl (by rw [HAS.out.1]; exact rnode_size) ?_)
        | (refine ld_if rfl 33 _ rfl (W.heap.size + 1) rfl 33 _ _ _ HY3.out Try.underlying33 rfl (by rw [HBS.out.1]; exact rnode_size) ?_)
        | (go_at_call 48; refine HJ.out.mono ?_; rintro e w4 ⟨v4, rfl, ks, hn4, hc4, hl4, hx4, hb4⟩; have HZ4 := Lib.hid ((hb4.block _ (by have := HS3.out; omega)).trans HZ3.out); have HT := Lib.hid (rp_top w4 _ v4 ks hn4 (fun p hp => ⟨(hx4 p hp).2, fun _ => HMR.out.imp_right fun h => Nat.le_trans h (hx4 p hp).1⟩) (by rw [hc4, List.length_append]; exact HN.out)); rw [hc4] at HT; have HB4 := Lib.hid (HB3.out.trans (hb4.mono HB3.out.size)); have HB34 := Lib.hid hb4.size; clear hn4 hc4 hl4 hx4 hb4)
        | (go_at_call 30; refine HT.out.mono ?_; rintro e w5 ⟨c5, rfl, hr5, hb5⟩; have HZ5 := Lib.hid ((hb5.block _ (Array.getElem?_eq_some_iff.1 HZ4.out).1).trans HZ4.out); have HR5 := Lib.hid hr5; have HB5 := Lib.hid (HB4.out.trans (hb5.mono HB4.out.size)); clear hr5 hb5)
        | (refine st_agg rfl 33 _ _ rfl (W.heap.size + 1 + 1) c5 rfl rfl 33 _ HZ5.out (by rw [HR5.out.size]; exact rnode_size) (by rw [HR5.out.size]; rfl) HR5.out.one ?_; intro w6 h6 k6))
      have hs3 := HS3.out
      have hb34 := HB34.out
      refine bodyPost_ret (results_cell_row rfl _ _ (W.heap.size + 1 + 1) 33 _ (0, 0) _ rfl h6 Try.underlying33 rfl (by rw [HR5.out.size]; exact rnode_size)) rfl ⟨_, rfl, ?_, HB5.out.trans (k6.below (by omega))⟩
      refine (HR5.out.kept k6.by_ (fun X e => by cases e; rintro ((⟨_, h⟩ | h) | h) <;> omega)).weak fun g hg => ?_
      rcases hg with (hg | hg) | hg
      · exact .inl hg.1
      · exact .inr (by omega)
      · exact .inr (by omega)
end Go.Proofs.Ytldemoflgahdgaa
