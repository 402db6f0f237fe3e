import Derived.Test.YtpodmgihlomglaaGreatDoorQ35
import Derived.Test.YtpodmgihlomglaaGreatDoorQ36
import Derived.Test.YtpodmgihlomglaaGreatDoorQ39
namespace Go.Proofs.YtpodmgihlomglaaGreatDoor
open Go.RowKit
set_option maxRecDepth 1000000
set_option linter.unusedSimpArgs false
def ws (seed : Nat) (l : List Nat) : Nat → Nat
 | 0 => stepN seed l.length
 | j + 1 => stepN (ws seed l j) (l.getD j 0)
theorem kids_len {S : Nat → Prop} {W : World} {h : Nat} {p : Kid} (hn : NodeR S W h p) : ∃ q n c, p.a = .slice q n c ∧ n ≤ 16 := by
 cases h with
 | zero => exact ⟨none, 0, 0, hn.1, by omega⟩
 | succ h => obtain ⟨_, _, h3, ks, h4, _⟩ := hn; obtain ⟨q, c, e, _⟩ := h4.shape; exact ⟨q, _, c, e, h3⟩
def JoinDoes (ha hb : Nat) : Prop := ∀ (S : Nat → Prop) (W : World) (p q : Kid) (m : Nat), NodeR S W ha p → NodeR S W hb q → p.l.length + q.l.length ≤ 100000 → m ≤ 8 → ((hb ≤ ha ∧ m ≤ p.k) ∨ (ha ≤ hb ∧ m ≤ q.k)) →
  Calls Tryz.prog 129 #[.agg (kidc ha p).toArray, .agg (kidc hb q).toArray] W fun e W' => ∃ v, e = .returned v ∧ ∃ ks, NodesR (fun g => S g ∨ W.heap.size ≤ g) W' (max ha hb) v ks ∧ catK ks = p.l ++ q.l ∧ (1 ≤ ks.length ∧ ks.length ≤ 2) ∧
   (∀ x ∈ ks, m ≤ x.k ∧ (2 ≤ ks.length → 8 ≤ x.k)) ∧ Below W.heap.size W W'
set_option maxHeartbeats 8000000 in
theorem join_gt (ha hb : Nat) (hgt : hb < ha + 1) (ih : JoinDoes ha hb) : JoinDoes (ha + 1) hb := by
 intro S W p q m hp hq hN hm8 hm
 obtain ⟨w2, hw2⟩ : ∃ w2, (W.alloc (.cells (kidc (ha + 1) p).toArray 110)).alloc (.cells (kidc hb q).toArray 110) = w2 := ⟨_, rfl⟩
 obtain ⟨hb2, hx2, hy2, hs2⟩ := two_new hw2
 have HB2 := Lib.hid hb2
 have HY2 := Lib.hid hy2
 have HX2 := Lib.hid hx2
 have HS2 := Lib.hid hs2
 obtain ⟨Na, hNa⟩ : ∃ Na : Nat, Na = (ha + 1) + 1 := ⟨_, rfl⟩
 obtain ⟨Nb, hNb⟩ : ∃ Nb : Nat, Nb = hb + 1 := ⟨_, rfl⟩
 have ca1 : w2.cell? ⟨W.heap.size, 1, none⟩ = some (.int .i64 (Na : Int)) := by rw [hNa]; exact cell_in hx2 rfl
 have ca2 : w2.cell? ⟨W.heap.size, 2, none⟩ = some p.a := cell_in hx2 rfl
 have ca3 : w2.cell? ⟨W.heap.size, 3, none⟩ = some p.b := cell_in hx2 rfl
 have cb1 : w2.cell? ⟨W.heap.size + 1, 1, none⟩ = some (.int .i64 (Nb : Int)) := by rw [hNb]; exact cell_in hy2 rfl
 have cb2 : w2.cell? ⟨W.heap.size + 1, 2, none⟩ = some q.a := cell_in hy2 rfl
 have cb3 : w2.cell? ⟨W.heap.size + 1, 3, none⟩ = some q.b := cell_in hy2 rfl
 obtain ⟨cq, hcq⟩ : ∃ cq, cq = (kidc hb q).toArray := ⟨_, rfl⟩
 have HCQS : Hid (cq.size = 4) := by show _ = _; rw [hcq]; rfl
 obtain ⟨hpb, hk1, hk16, ks, hh, hkl, hl, hks⟩ := hp
 obtain ⟨n, hn⟩ : ∃ n, n = p.k := ⟨_, rfl⟩
 rw [← hn] at hk1 hk16 hh hkl
 have HHO := Lib.hid hh.old
 obtain ⟨g, c, cur, fr, hpa, hcap, hS, hg, hcs⟩ := hh.pos hk1
 rw [hpa] at ca2
 obtain ⟨lst, hlst⟩ : ∃ lst, lst = n - 1 := ⟨_, rfl⟩
 have hlk : lst < ks.length := by omega
 have hrg := en_range (h := ha) hg hcs hlk
 have hyk := hks _ (List.getElem_mem hlk)
 have hcat : catK (ks.take lst) ++ ks[lst].l = catK ks := by
  rw [← catK_one ks[lst], ← catK_app, ← List.take_succ_eq_append_getElem hlk, List.take_of_length_le (by omega)]
 obtain ⟨y, hy⟩ : ∃ y, y = ks[lst] := ⟨_, rfl⟩
 rw [← hy] at hrg hyk hcat
 have hcut := hh.cut
 rw [hpa] at hcut
 obtain ⟨acut, ccut, hcut2, hrun⟩ := cut_h 108 tn_sl tn_size hcut (hi := lst) (by omega)
 rw [en_take (kidc_len ha)] at hcut2
 have HCUT : Hid (CutAt S W 4 (.slice acut lst ccut) (en (kidc ha) (ks.take lst)) (ks.take lst).length) := by
  show CutAt _ _ _ _ _ _
  rwa [show (ks.take lst).length = lst by rw [List.length_take]; omega]
 have hyl : y.l.length ≤ p.l.length := by rw [hl, ← hcat, List.length_append]; omega
 have HREC := Lib.hid (ih (fun g => S g ∧ g < W.heap.size) w2.drew y q 8 (hyk.2.old.later (hb2.trans ((drawn_below w2).mono hb2.size))) (hq.old.later (hb2.trans ((drawn_below w2).mono hb2.size))) (by omega) (Nat.le_refl _) (.inl ⟨by omega, hyk.1⟩))
 rw [← hcq, show max ha hb = ha by omega] at HREC
 rw [← hcq] at HY2
 have HK2 : Hid (w2.drew.cell? ⟨W.heap.size, 2, none⟩ = some (.slice (some ⟨g, 0, none⟩) n c) ∧ w2.drew.rangeAt g (lst * 4) (kidc ha y) ∧ w2.drew.heap[W.heap.size + 1]? = some (.cells cq 110 (0, 0))) :=
  ⟨ca2, range_later hrg (hb2.trans ((drawn_below w2).mono hb2.size)), HY2.out⟩
 have HCAT : Hid (catK (ks.take lst) ++ y.l = p.l) := by show _ = _; rw [hl, hcat]
 have HKS := Lib.hid hks
 have HN : Hid (p.l.length + q.l.length ≤ 100000) := hN
 have HM := Lib.hid hm
 have HM8 := Lib.hid hm8
 have HNN := Lib.hid (And.intro hn (And.intro hlst (And.intro hkl hk16)))
 have HGT := Lib.hid hgt
 have hgt' : (Na : Int) > (Nb : Int) := by omega
 have hl1 : (n : Int) - 1 = (lst : Int) := by omega
 have hl2 : (lst : Int) < n := by omega
 have hn16 : (n : Int) ≤ 16 := by omega
 clear hb2 hx2 hy2 hs2 hpb hk16 hh hkl hl hks hn hS hg hcs hpa hcap hcut hcut2 hlk hrg hyk hcat hy hyl hm hm8 hN hgt hlst hNa hNb ca3 cb2 cb3 hq hcq hk1
 go_enter Tryz.func129, Tryz.ntmps129
 go_upto_region 3 with fail
 clear hw2
 refine wp_region_T (S := fun V => V.cell? ⟨W.heap.size, 2, none⟩ = some (.slice (some ⟨g, 0, none⟩) n c) ∧ V.rangeAt g (lst * 4) (kidc ha y) ∧ V.heap[W.heap.size + 1]? = some (.cells cq 110 (0, 0))) [13] (by kernel_rfl) (by first | exact HK2.out | exact HK3.out | exact HK4.out | exact HK5.out) (fun hHeld => ?_)
 refine tkA 0 16 (h := ?_)
 refine tkA 1 17 (h := ?_)
 (try simp only [pq])
 refine tkA 2 18 (h := ?_)
 refine tkA 3 19 (h := ?_)
 (try simp only [pq])
 refine tkA 4 20 (h := ?_)
 refine tkA 5 21 (h := ?_)
 (try simp only [pq])
 refine tkA 6 22 (h := ?_)
 refine tkA 7 23 (h := ?_)
 (try simp only [pq])
 refine tyA 8 24 (hy := yieldsIf_load_mid (by rfl) 110 _ rfl g (lst * 4) rfl (kidc ha y) _ (fun w hw => hw.2.1) Tryz.underlying110 rfl rnode_size) (h := ?_)
 refine tyA 9 25 (hy := yieldsIf_load_row (by rfl) 110 _ rfl (W.heap.size + 1) rfl cq 110 (0, 0) _ (fun w hw => hw.2.2) Tryz.underlying110 rfl (by rw [HCQS.out]; exact rnode_size)) (h := ?_)
 (try simp only [pq])
 refine tkO 10 (some 26) (h := fun K hK => ?_)
 go_simp
 go_at_call 129
 refine HREC.out.mono ?_
 rintro e w3 ⟨v3, rfl, ks3, hn3, hc3, hl3, hx3, hb3⟩
 obtain ⟨a3, n3, rfl, _⟩ := hn3.1.shape
 have HK3 := Lib.hid (show _ ∧ _ ∧ _ from ⟨((hb3).cell (p := ⟨W.heap.size, 2, none⟩) (World.block_lt_of_cell? _ _ HK2.out.1)).trans HK2.out.1, range_later HK2.out.2.1 hb3, ((hb3).block _ (Array.getElem?_eq_some_iff.1 HK2.out.2.2).1).trans HK2.out.2.2⟩)
 have HB3 := Lib.hid (HB2.out.trans ((((drawn_below w2).mono HB2.out.size)).trans (hb3.mono HB2.out.size)))
 have HN3 := Lib.hid hn3
 have HC3 := Lib.hid hc3
 have HL3 := Lib.hid (And.intro hl3 hx3)
 have HB23 := Lib.hid hb3
 have HBW3 : Hid (W.heap.size ≤ w2.heap.size) := HB2.out.size
 clear hb3 hn3 hc3 hl3 hx3
 (try dsimp only)
 refine hK.out _ _ (by first | exact HK2.out | exact HK3.out | exact HK4.out | exact HK5.out) (fun hHeld => ?_)
 clear hK K
 (try simp only [pq])
 refine tkO 11 (some 27) (h := fun K hK => ?_)
 go_simp
 have hb4 := Below.newly' w3 (.cells #[.slice acut lst ccut, .slice a3 ks3.length n3] 108)
 have HK4 := Lib.hid (show _ ∧ _ ∧ _ from ⟨((hb4).cell (p := ⟨W.heap.size, 2, none⟩) (World.block_lt_of_cell? _ _ HK3.out.1)).trans HK3.out.1, range_later HK3.out.2.1 hb4, ((hb4).block _ (Array.getElem?_eq_some_iff.1 HK3.out.2.2).1).trans HK3.out.2.2⟩)
 clear hb4
 (try dsimp only)
 refine hK.out _ _ (by first | exact HK2.out | exact HK3.out | exact HK4.out | exact HK5.out) (fun hHeld => ?_)
 clear hK K
 (try simp only [pq])
 refine tkO 12 (some 28) (h := fun K hK => ?_)
 go_simp
 go_at_call 125
 refine (inners_new (S := fun g => S g ∨ W.heap.size ≤ g) w3 ha [(.slice acut lst ccut, ks.take lst), (.slice a3 ks3.length n3, ks3)] ?_ (ks.take lst ++ ks3) (by simp [catE]) ?_ ?_ (by simp)).mono ?_
 ·intro x hx
  rw [List.mem_cons, List.mem_singleton] at hx
  have hbw := HBW3.out
  rcases hx with rfl | rfl
  ·exact ((HCUT.out.later HB3.out).weak fun g hg => .inl hg)
  ·exact HN3.out.1.weak fun g hg => hg.imp (fun h => h.1) fun h => Nat.le_trans hbw h
 ·intro x hx
  have hbw := HBW3.out
  rcases List.mem_append.1 hx with hx | hx
  ·exact ⟨(HKS.out x (List.mem_of_mem_take hx)).1, ((HKS.out x (List.mem_of_mem_take hx)).2.later HB3.out).weak fun g hg => .inl hg⟩
  ·exact ⟨(HL3.out.2 x hx).1, (HN3.out.2 x hx).weak fun g hg => hg.imp (fun h => h.1) fun h => Nat.le_trans hbw h⟩
 ·rw [catK_app, HC3.out, ← List.append_assoc, HCAT.out]
  simpa using HN.out
 rintro e w5 ⟨v5, rfl, kn, hn5, hc5, hf5, hb5⟩
 have HK5 := Lib.hid (show _ ∧ _ ∧ _ from ⟨((hb5).cell (p := ⟨W.heap.size, 2, none⟩) (World.block_lt_of_cell? _ _ HK3.out.1)).trans HK3.out.1, range_later HK3.out.2.1 hb5, ((hb5).block _ (Array.getElem?_eq_some_iff.1 HK3.out.2.2).1).trans HK3.out.2.2⟩)
 have HN5 := Lib.hid hn5
 have HC5 := Lib.hid hc5
 have HF5 := Lib.hid hf5
 have HB5 := Lib.hid (HB3.out.trans (hb5.mono HB3.out.size))
 clear hb5 hn5 hc5 hf5
 (try dsimp only)
 refine hK.out _ _ (by first | exact HK2.out | exact HK3.out | exact HK4.out | exact HK5.out) (fun hHeld => ?_)
 clear hK K
 (try simp only [pq])
 refine tkU 13 (some 4) (h := fun K hK => ?_)
 go_simp
 refine hK.out _ _ ?_
 clear hK K
 (try simp only [pq])
 refine wpAnyT_done (by kernel_rfl) ?_ _
 go_wp2_with fail
 go_ret
 have hnn := HNN.out
 have hl3 := HL3.out
 have hxl : (ks.take lst ++ ks3).length = lst + ks3.length := by rw [List.length_append, List.length_take]; omega
 rw [hxl] at HF5
 have hgt := HGT.out
 have hpk : m ≤ p.k := by rcases HM.out with h | h <;> omega
 have he := fit_ends HF5.out (by omega) (by omega) HM8.out (by omega)
 refine ⟨_, rfl, kn, ?_, ?_, he.1, he.2, HB5.out⟩
 ·rw [show max (ha + 1) hb = ha + 1 by omega]
  exact HN5.out.weak fun g hg => hg.elim id fun h => .inr (Nat.le_trans HB3.out.size h)
 ·rw [HC5.out, catK_app, HC3.out, ← List.append_assoc, HCAT.out]
set_option maxHeartbeats 8000000 in
theorem join_lt (ha hb : Nat) (hlt : ha < hb + 1) (ih : JoinDoes ha hb) : JoinDoes ha (hb + 1) := by
 intro S W p q m hp hq hN hm8 hm
 obtain ⟨w2, hw2⟩ : ∃ w2, (W.alloc (.cells (kidc ha p).toArray 110)).alloc (.cells (kidc (hb + 1) q).toArray 110) = w2 := ⟨_, rfl⟩
 obtain ⟨hb2, hx2, hy2, hs2⟩ := two_new hw2
 have HB2 := Lib.hid hb2
 have HY2 := Lib.hid hy2
 have HX2 := Lib.hid hx2
 have HS2 := Lib.hid hs2
 obtain ⟨Na, hNa⟩ : ∃ Na : Nat, Na = ha + 1 := ⟨_, rfl⟩
 obtain ⟨Nb, hNb⟩ : ∃ Nb : Nat, Nb = (hb + 1) + 1 := ⟨_, rfl⟩
 have ca1 : w2.cell? ⟨W.heap.size, 1, none⟩ = some (.int .i64 (Na : Int)) := by rw [hNa]; exact cell_in hx2 rfl
 have ca2 : w2.cell? ⟨W.heap.size, 2, none⟩ = some p.a := cell_in hx2 rfl
 have ca3 : w2.cell? ⟨W.heap.size, 3, none⟩ = some p.b := cell_in hx2 rfl
 have cb1 : w2.cell? ⟨W.heap.size + 1, 1, none⟩ = some (.int .i64 (Nb : Int)) := by rw [hNb]; exact cell_in hy2 rfl
 have cb2 : w2.cell? ⟨W.heap.size + 1, 2, none⟩ = some q.a := cell_in hy2 rfl
 have cb3 : w2.cell? ⟨W.heap.size + 1, 3, none⟩ = some q.b := cell_in hy2 rfl
 obtain ⟨cp, hcp⟩ : ∃ cp, cp = (kidc ha p).toArray := ⟨_, rfl⟩
 have HCPS : Hid (cp.size = 4) := by show _ = _; rw [hcp]; rfl
 obtain ⟨hqb, hk1, hk16, ks, hh, hkl, hl, hks⟩ := hq
 obtain ⟨n, hn⟩ : ∃ n, n = q.k := ⟨_, rfl⟩
 rw [← hn] at hk1 hk16 hh hkl
 obtain ⟨qa, na, ca, hpa, hna⟩ := kids_len hp
 rw [hpa] at ca2
 have hna' : (na : Int) ≤ 16 := by omega
 obtain ⟨g, c, cur, fr, hqa, hcap, hS, hg, hcs⟩ := hh.pos hk1
 rw [hqa] at cb2
 obtain ⟨lst, hlst⟩ : ∃ lst, lst = n - 1 := ⟨_, rfl⟩
 have hlk : 0 < ks.length := by omega
 have hrg := en_range (h := hb) hg hcs hlk
 rw [Nat.zero_mul] at hrg
 have hyk := hks _ (List.getElem_mem hlk)
 have hcat : ks[0].l ++ catK (ks.drop 1) = catK ks := by
  rw [← catK_cons, List.drop_one]
  match ks, hlk with
  | k :: ks, _ => rfl
 obtain ⟨y, hy⟩ : ∃ y, y = ks[0] := ⟨_, rfl⟩
 rw [← hy] at hrg hyk hcat
 have hcut := hh.cut
 rw [hqa] at hcut
 obtain ⟨acut, ccut, hcut2, hrun'⟩ := cut_l 108 tn_sl tn_size hcut (lo := 1) (by omega)
 rw [en_drop (kidc_len hb), ← hlst] at hcut2
 rw [← hlst] at hrun'
 have hrun : ∀ w, (Instr.slice 108 (.slice (some ⟨g, 0, none⟩) n c) (some (.int .i64 1)) none none).run Tryz.prog w = .ok (.slice acut lst ccut) w := hrun'
 have HCUT : Hid (CutAt S W 4 (.slice acut lst ccut) (en (kidc hb) (ks.drop 1)) (ks.drop 1).length) := by
  show CutAt _ _ _ _ _ _
  rwa [show (ks.drop 1).length = lst by rw [List.length_drop]; omega]
 have hyl : y.l.length ≤ q.l.length := by rw [hl, ← hcat, List.length_append]; omega
 have HREC := Lib.hid (ih (fun g => S g ∧ g < W.heap.size) w2.drew p y 8 (hp.old.later (hb2.trans ((drawn_below w2).mono hb2.size))) (hyk.2.old.later (hb2.trans ((drawn_below w2).mono hb2.size))) (by omega) (Nat.le_refl _) (.inr ⟨by omega, hyk.1⟩))
 rw [← hcp, show max ha hb = hb by omega] at HREC
 rw [← hcp] at HX2
 have HK2 : Hid (w2.drew.cell? ⟨W.heap.size + 1, 2, none⟩ = some (.slice (some ⟨g, 0, none⟩) n c) ∧ w2.drew.rangeAt g 0 (kidc hb y) ∧ w2.drew.heap[W.heap.size]? = some (.cells cp 110 (0, 0))) :=
  ⟨cb2, range_later hrg (hb2.trans ((drawn_below w2).mono hb2.size)), HX2.out⟩
 have HCAT : Hid (y.l ++ catK (ks.drop 1) = q.l) := by show _ = _; rw [hl, hcat]
 have HKS := Lib.hid hks
 have HN : Hid (p.l.length + q.l.length ≤ 100000) := hN
 have HM := Lib.hid hm
 have HM8 := Lib.hid hm8
 have HNN := Lib.hid (And.intro hn (And.intro hlst (And.intro hkl hk16)))
 have HLT := Lib.hid hlt
 have hgt' : ¬ ((Na : Int) > (Nb : Int)) := by omega
 have hlt' : (Na : Int) < (Nb : Int) := by omega
 have hn0 : (0 : Int) < n := by omega
 have hn00 : 0 < n := by omega
 have hn16 : (n : Int) ≤ 16 := by omega
 clear hb2 hx2 hy2 hs2 hqb hk16 hh hkl hl hks hn hS hg hcs hqa hcap hcut hcut2 hlk hrg hyk hcat hy hyl hm hm8 hN hlt hlst hNa hNb ca3 cb3 hp hcp hk1 hpa hna hrun'
 go_enter Tryz.func129, Tryz.ntmps129
 go_upto_region 5 with fail
 clear hw2
 refine wp_region_T (S := fun V => V.cell? ⟨W.heap.size + 1, 2, none⟩ = some (.slice (some ⟨g, 0, none⟩) n c) ∧ V.rangeAt g 0 (kidc hb y) ∧ V.heap[W.heap.size]? = some (.cells cp 110 (0, 0))) [11] (by kernel_rfl) (by first | exact HK2.out | exact HK3.out | exact HK4.out | exact HK5.out) (fun hHeld => ?_)
 refine tyA 0 35 (hy := yieldsIf_load_row (by rfl) 110 _ rfl W.heap.size rfl cp 110 (0, 0) _ (fun w hw => hw.2.2) Tryz.underlying110 rfl (by rw [HCPS.out]; exact rnode_size)) (h := ?_)
 refine tkA 1 36 (h := ?_)
 (try simp only [pq])
 refine tkA 2 37 (h := ?_)
 refine tkA 3 38 (h := ?_)
 (try simp only [pq])
 refine tyA 4 39 (hy := yieldsIf_load_mid (by rfl) 110 _ rfl g 0 rfl (kidc hb y) _ (fun w hw => hw.2.1) Tryz.underlying110 rfl rnode_size) (h := ?_)
 refine tkA 6 41 (h := ?_)
 (try simp only [pq])
 refine tkA 7 42 (h := ?_)
 refine tkA 8 43 (h := ?_)
 (try simp only [pq])
 refine tkO 5 (some 40) (h := fun K hK => ?_)
 go_simp
 go_at_call 129
 refine HREC.out.mono ?_
 rintro e w3 ⟨v3, rfl, ks3, hn3, hc3, hl3, hx3, hb3⟩
 obtain ⟨a3, n3, rfl, _⟩ := hn3.1.shape
 have HK3 := Lib.hid (show _ ∧ _ ∧ _ from ⟨((hb3).cell (p := ⟨W.heap.size + 1, 2, none⟩) (World.block_lt_of_cell? _ _ HK2.out.1)).trans HK2.out.1, range_later HK2.out.2.1 hb3, ((hb3).block _ (Array.getElem?_eq_some_iff.1 HK2.out.2.2).1).trans HK2.out.2.2⟩)
 have HB3 := Lib.hid (HB2.out.trans ((((drawn_below w2).mono HB2.out.size)).trans (hb3.mono HB2.out.size)))
 have HN3 := Lib.hid hn3
 have HC3 := Lib.hid hc3
 have HL3 := Lib.hid (And.intro hl3 hx3)
 have HBW3 : Hid (W.heap.size ≤ w2.heap.size) := HB2.out.size
 clear hb3 hn3 hc3 hl3 hx3
 (try dsimp only)
 refine hK.out _ _ (by first | exact HK2.out | exact HK3.out | exact HK4.out | exact HK5.out) (fun hHeld => ?_)
 clear hK K
 (try simp only [pq])
 refine tkO 9 (some 44) (h := fun K hK => ?_)
 go_simp
 have hb4 := Below.newly' w3 (.cells #[.slice a3 ks3.length n3, .slice acut lst ccut] 108)
 have HK4 := Lib.hid (show _ ∧ _ ∧ _ from ⟨((hb4).cell (p := ⟨W.heap.size + 1, 2, none⟩) (World.block_lt_of_cell? _ _ HK3.out.1)).trans HK3.out.1, range_later HK3.out.2.1 hb4, ((hb4).block _ (Array.getElem?_eq_some_iff.1 HK3.out.2.2).1).trans HK3.out.2.2⟩)
 clear hb4
 (try dsimp only)
 refine hK.out _ _ (by first | exact HK2.out | exact HK3.out | exact HK4.out | exact HK5.out) (fun hHeld => ?_)
 clear hK K
 (try simp only [pq])
 refine tkO 10 (some 45) (h := fun K hK => ?_)
 go_simp
 go_at_call 125
 refine (inners_new (S := fun g => S g ∨ W.heap.size ≤ g) w3 hb [(.slice a3 ks3.length n3, ks3), (.slice acut lst ccut, ks.drop 1)] ?_ (ks3 ++ ks.drop 1) (by simp [catE]) ?_ ?_ (by simp)).mono ?_
 ·intro x hx
  rw [List.mem_cons, List.mem_singleton] at hx
  have hbw := HBW3.out
  rcases hx with rfl | rfl
  ·exact HN3.out.1.weak fun g hg => hg.imp (fun h => h.1) fun h => Nat.le_trans hbw h
  ·exact ((HCUT.out.later HB3.out).weak fun g hg => .inl hg)
 ·intro x hx
  have hbw := HBW3.out
  rcases List.mem_append.1 hx with hx | hx
  ·exact ⟨(HL3.out.2 x hx).1, (HN3.out.2 x hx).weak fun g hg => hg.imp (fun h => h.1) fun h => Nat.le_trans hbw h⟩
  ·exact ⟨(HKS.out x (List.mem_of_mem_drop hx)).1, ((HKS.out x (List.mem_of_mem_drop hx)).2.later HB3.out).weak fun g hg => .inl hg⟩
 ·rw [catK_app, HC3.out, List.append_assoc, HCAT.out]
  simpa using HN.out
 rintro e w5 ⟨v5, rfl, kn, hn5, hc5, hf5, hb5⟩
 have HK5 := Lib.hid (show _ ∧ _ ∧ _ from ⟨((hb5).cell (p := ⟨W.heap.size + 1, 2, none⟩) (World.block_lt_of_cell? _ _ HK3.out.1)).trans HK3.out.1, range_later HK3.out.2.1 hb5, ((hb5).block _ (Array.getElem?_eq_some_iff.1 HK3.out.2.2).1).trans HK3.out.2.2⟩)
 have HN5 := Lib.hid hn5
 have HC5 := Lib.hid hc5
 have HF5 := Lib.hid hf5
 have HB5 := Lib.hid (HB3.out.trans (hb5.mono HB3.out.size))
 clear hb5 hn5 hc5 hf5
 (try dsimp only)
 refine hK.out _ _ (by first | exact HK2.out | exact HK3.out | exact HK4.out | exact HK5.out) (fun hHeld => ?_)
 clear hK K
 (try simp only [pq])
 refine tkU 11 (some 4) (h := fun K hK => ?_)
 go_simp
 refine hK.out _ _ ?_
 clear hK K
 (try simp only [pq])
 refine wpAnyT_done (by kernel_rfl) ?_ _
 go_wp2_with fail
 go_ret
 have hnn := HNN.out
 have hl3 := HL3.out
 have hxl : (ks3 ++ ks.drop 1).length = ks3.length + lst := by rw [List.length_append, List.length_drop]; omega
 rw [hxl] at HF5
 have hlt := HLT.out
 have hpk : m ≤ q.k := by rcases HM.out with h | h <;> omega
 have he := fit_ends HF5.out (by omega) (by omega) HM8.out (by omega)
 refine ⟨_, rfl, kn, ?_, ?_, he.1, he.2, HB5.out⟩
 ·rw [show max ha (hb + 1) = hb + 1 by omega]
  exact HN5.out.weak fun g hg => hg.elim id fun h => .inr (Nat.le_trans HB3.out.size h)
 ·rw [HC5.out, catK_app, HC3.out, List.append_assoc, HCAT.out]
set_option maxHeartbeats 8000000 in
theorem join_leaf : JoinDoes 0 0 := by
 intro S W p q m hp hq hN hm8 hm
 obtain ⟨w2, hw2⟩ : ∃ w2, (W.alloc (.cells (kidc 0 p).toArray 110)).alloc (.cells (kidc 0 q).toArray 110) = w2 := ⟨_, rfl⟩
 obtain ⟨hb2, hx2, hy2, hs2⟩ := two_new hw2
 have HB2 := Lib.hid hb2
 have HY2 := Lib.hid hy2
 have HX2 := Lib.hid hx2
 have HS2 := Lib.hid hs2
 obtain ⟨Na, hNa⟩ : ∃ Na : Nat, Na = 0 + 1 := ⟨_, rfl⟩
 obtain ⟨Nb, hNb⟩ : ∃ Nb : Nat, Nb = 0 + 1 := ⟨_, rfl⟩
 have ca1 : w2.cell? ⟨W.heap.size, 1, none⟩ = some (.int .i64 (Na : Int)) := by rw [hNa]; exact cell_in hx2 rfl
 have ca2 : w2.cell? ⟨W.heap.size, 2, none⟩ = some p.a := cell_in hx2 rfl
 have ca3 : w2.cell? ⟨W.heap.size, 3, none⟩ = some p.b := cell_in hx2 rfl
 have cb1 : w2.cell? ⟨W.heap.size + 1, 1, none⟩ = some (.int .i64 (Nb : Int)) := by rw [hNb]; exact cell_in hy2 rfl
 have cb2 : w2.cell? ⟨W.heap.size + 1, 2, none⟩ = some q.a := cell_in hy2 rfl
 have cb3 : w2.cell? ⟨W.heap.size + 1, 3, none⟩ = some q.b := cell_in hy2 rfl
 obtain ⟨hpa, hpk, hp1, hp16, hph⟩ := hp
 obtain ⟨hqa, hqk, hq1, hq16, hqh⟩ := hq
 obtain ⟨qp, np, hpb, _⟩ := hph.shape
 obtain ⟨qq, nq, hqb, _⟩ := hqh.shape
 rw [hpa] at ca2
 rw [hpb] at ca3
 rw [hqb] at cb3
 have HL := Lib.hid (leaves_new w2 [(p.b, p.l), (q.b, q.l)] (fun x hx => by
  rw [List.mem_cons, List.mem_singleton] at hx
  rcases hx with rfl | rfl
  ·have := hph.cut.later hb2
   rwa [hpk] at this
  ·have := hqh.cut.later hb2
   rwa [hqk] at this) (p.l ++ q.l) (by simp [catE]) (by rw [List.length_append]; omega) (by simp))
 simp only [List.map_cons, List.map_nil, hpb, hqb] at HL
 have HK := Lib.hid (And.intro hpk (And.intro hqk (And.intro hp1 (And.intro hp16 (And.intro hq1 hq16)))))
 have HM := Lib.hid hm
 have HM8 := Lib.hid hm8
 have hge : ¬ ((Na : Int) > (Nb : Int)) := by omega
 have hlt : ¬ ((Na : Int) < (Nb : Int)) := by omega
 have hnil := nodes_none
 clear hb2 hx2 hy2 hs2 hpa hpk hp1 hp16 hph hqa hqk hq1 hq16 hqh hpb hqb hm hm8 hN hNa hNb cb2 HX2 HY2 HS2
 go_enter Tryz.func129, Tryz.ntmps129
 go_upto_region 1 with fail
 clear hw2
 go_wp2_with (go_at_call 126; refine HL.out.mono ?_; rintro e w3 ⟨v3, rfl, ks, hn3, hc3, hf3, hb3⟩; have HN3 := Lib.hid hn3; have HC3 := Lib.hid hc3; have HF3 := Lib.hid hf3; have HB3 := Lib.hid hb3; clear hn3 hc3 hf3 hb3)
 go_ret
 have hk := HK.out
 rw [List.length_append] at HF3
 have he := fit_ends HF3.out (by omega) (by omega) HM8.out (by rcases HM.out with h | h <;> omega)
 exact ⟨_, rfl, ks, HN3.out.weak fun g hg => .inr (Nat.le_trans HB2.out.size hg), HC3.out, he.1, he.2, HB2.out.trans (HB3.out.mono HB2.out.size)⟩
set_option maxHeartbeats 8000000 in
theorem join_eq (h : Nat) : JoinDoes (h + 1) (h + 1) := by
 intro S W p q m hp hq hN hm8 hm
 obtain ⟨w2, hw2⟩ : ∃ w2, (W.alloc (.cells (kidc (h + 1) p).toArray 110)).alloc (.cells (kidc (h + 1) q).toArray 110) = w2 := ⟨_, rfl⟩
 obtain ⟨hb2, hx2, hy2, hs2⟩ := two_new hw2
 have HB2 := Lib.hid hb2
 have HY2 := Lib.hid hy2
 have HX2 := Lib.hid hx2
 have HS2 := Lib.hid hs2
 obtain ⟨Na, hNa⟩ : ∃ Na : Nat, Na = (h + 1) + 1 := ⟨_, rfl⟩
 obtain ⟨Nb, hNb⟩ : ∃ Nb : Nat, Nb = (h + 1) + 1 := ⟨_, rfl⟩
 have ca1 : w2.cell? ⟨W.heap.size, 1, none⟩ = some (.int .i64 (Na : Int)) := by rw [hNa]; exact cell_in hx2 rfl
 have ca2 : w2.cell? ⟨W.heap.size, 2, none⟩ = some p.a := cell_in hx2 rfl
 have ca3 : w2.cell? ⟨W.heap.size, 3, none⟩ = some p.b := cell_in hx2 rfl
 have cb1 : w2.cell? ⟨W.heap.size + 1, 1, none⟩ = some (.int .i64 (Nb : Int)) := by rw [hNb]; exact cell_in hy2 rfl
 have cb2 : w2.cell? ⟨W.heap.size + 1, 2, none⟩ = some q.a := cell_in hy2 rfl
 have cb3 : w2.cell? ⟨W.heap.size + 1, 3, none⟩ = some q.b := cell_in hy2 rfl
 obtain ⟨hpb, hp1, hp16, ks, hph, hpl, hpc, hpk⟩ := hp
 obtain ⟨hqb, hq1, hq16, kt, hqh, hql, hqc, hqk⟩ := hq
 obtain ⟨g, c, cur, fr, hpa, hcap, hS, hg, hcs⟩ := hph.pos (by omega)
 obtain ⟨qq, nq, hqa, _⟩ := hqh.shape
 have hHI := inners_new (S := S) w2 h [(p.a, ks), (q.a, kt)] (fun x hx => by
  rw [List.mem_cons, List.mem_singleton] at hx
  rcases hx with rfl | rfl
  ·have := hph.cut.later hb2
   rwa [← hpl] at this
  ·have := hqh.cut.later hb2
   rwa [← hql] at this) (ks ++ kt) (by simp [catE]) (fun x hx => by
  rcases List.mem_append.1 hx with hx | hx
  ·exact ⟨(hpk x hx).1, (hpk x hx).2.later hb2⟩
  ·exact ⟨(hqk x hx).1, (hqk x hx).2.later hb2⟩) (by rw [catK_app, ← hpc, ← hqc, List.length_append]; exact hN) (by simp)
 rw [hpa] at ca2
 rw [hqa] at cb2
 simp only [List.map_cons, List.map_nil, hpa, hqa] at hHI
 obtain ⟨n, hn⟩ : ∃ n, n = p.k := ⟨_, rfl⟩
 rw [← hn] at ca2 hHI hp1 hp16
 obtain ⟨n2, hn2⟩ : ∃ n2, n2 = q.k := ⟨_, rfl⟩
 rw [← hn2] at cb2 hHI hq1 hq16
 have HL := Lib.hid hHI
 have HK := Lib.hid (And.intro hn (And.intro hn2 (And.intro hp1 (And.intro hp16 (And.intro hq1 (And.intro hq16 (And.intro hpl (And.intro hql (And.intro hpc hqc)))))))))
 have HM := Lib.hid hm
 have HM8 := Lib.hid hm8
 have hge : ¬ ((Na : Int) > (Nb : Int)) := by omega
 have hlt : ¬ ((Na : Int) < (Nb : Int)) := by omega
 have hn16 : (n : Int) ≤ 16 := by omega
 have hnil := fun w => nodes_some ⟨g, 0, none⟩ n c w
 clear hb2 hx2 hy2 hs2 hp1 hp16 hph hpl hpc hpk hq1 hq16 hqh hql hqc hqk hpb hqb hm hm8 hN hNa hNb ca3 cb3 HX2 HY2 HS2 hHI hcap hS hg hcs hpa hqa hn hn2
 go_enter Tryz.func129, Tryz.ntmps129
 go_upto_region 1 with fail
 clear hw2
 go_wp2_with (go_at_call 125; refine HL.out.mono ?_; rintro e w3 ⟨v3, rfl, kn, hn3, hc3, hf3, hb3⟩; have HN3 := Lib.hid hn3; have HC3 := Lib.hid hc3; have HF3 := Lib.hid hf3; have HB3 := Lib.hid hb3; clear hn3 hc3 hf3 hb3)
 go_ret
 obtain ⟨k1, k2, k3, k4, k5, k6, k7, k8, k9, k10⟩ := HK.out
 rw [List.length_append] at HF3
 have he := fit_ends HF3.out (by omega) (by omega) HM8.out (by rcases HM.out with h | h <;> omega)
 refine ⟨_, rfl, kn, ?_, by rw [HC3.out, catK_app, k9, k10], he.1, he.2, HB2.out.trans (HB3.out.mono HB2.out.size)⟩
 rw [Nat.max_self]
 exact HN3.out.weak fun g hg => hg.imp_right fun h => Nat.le_trans HB2.out.size h
theorem rp_joined : ∀ (N ha hb : Nat), ha + hb ≤ N → JoinDoes ha hb
  | 0, ha, hb, hle => by obtain rfl : ha = 0 := by omega
                         obtain rfl : hb = 0 := by omega
                         exact join_leaf
  | N + 1, ha, hb, hle => by
    rcases Nat.lt_trichotomy ha hb with h | h | h
    · obtain ⟨hb', rfl⟩ : ∃ x, hb = x + 1 := ⟨hb - 1, by omega⟩
      exact join_lt ha hb' h (rp_joined N ha hb' (by omega))
    · subst h
      cases ha with
      | zero => exact join_leaf
      | succ h => exact join_eq h
    · obtain ⟨ha', rfl⟩ : ∃ x, ha = x + 1 := ⟨ha - 1, by omega⟩
      exact join_gt ha' hb h (rp_joined N ha' hb (by omega))
set_option maxHeartbeats 8000000 in
theorem rp_concat (W : World) {S : Nat → Prop} {ca cb : Array Value} {la lb : List Cel} (ha : RootR S W ca la) (hb : RootR S W cb lb) (hN : la.length + lb.length ≤ 100000) :
  Calls Tryz.prog 103 #[.agg ca, .agg cb] W fun e W' => ∃ c, e = .returned (.agg c) ∧ RootR (fun g => S g ∨ W.heap.size ≤ g) W' c (la ++ lb) ∧ Below W.heap.size W W' := by
 obtain ⟨w2, hw2⟩ : ∃ w2, (W.alloc (.cells ca 110)).alloc (.cells cb 110) = w2 := ⟨_, rfl⟩
 obtain ⟨hb2, hx2, hy2, hs2⟩ := two_new hw2
 obtain ⟨w3, hw3⟩ : ∃ w3, w2.alloc (.cells #[.int .i64 0, .int .i64 0, .slice none 0 0, .slice none 0 0] 110) = w3 := ⟨_, rfl⟩
 obtain ⟨hb3, hz3, hs3⟩ := nodes_new hw3
 rw [← hw2] at hw3
 rw [hs2] at hz3 hs3
 have hB3 := hb2.trans (hb3.mono hb2.size)
 have HX3 := Lib.hid ((hb3.block _ (by omega)).trans hx2)
 have HY3 := Lib.hid ((hb3.block _ (by omega)).trans hy2)
 have HZ3 := Lib.hid hz3
 have HB3 := Lib.hid hB3
 have HS3 := Lib.hid hs3
 have HA3 := Lib.hid (ha.old.later hB3)
 have HBB3 := Lib.hid (hb.old.later hB3)
 have qa : w3.cell? ⟨W.heap.size, 0, none⟩ = some (.int .i64 (la.length : Int)) := cell_in HX3.out ha.n
 have qb : w3.cell? ⟨W.heap.size + 1, 0, none⟩ = some (.int .i64 (lb.length : Int)) := cell_in HY3.out hb.n
 have HAS := Lib.hid (And.intro ha.size ha.one)
 have HBS := Lib.hid (And.intro hb.size hb.one)
 have HN := Lib.hid hN
 have HA := Lib.hid ha
 have HBR := Lib.hid hb
 clear hb2 hx2 hy2 hs2 hb3 hz3 hs3 hw2 hB3 hN
 rcases Nat.eq_zero_or_pos la.length with h0 | h0
 ·obtain rfl := List.eq_nil_of_length_eq_zero h0
  simp only [List.length_nil] at qa
  clear ha hb h0
  go_enter Tryz.func103, Tryz.ntmps103
  go_upto_region 1 with fail
  clear hw3
  go_wp2_with (first
   | (refine ld_if rfl 110 _ rfl (W.heap.size + 1) rfl 110 _ _ _ HY3.out Tryz.underlying110 rfl (by rw [HBS.out.1]; exact rnode_size) ?_)
   | (refine st_agg rfl 110 _ _ rfl (W.heap.size + 1 + 1) cb rfl rfl 110 _ HZ3.out (by rw [HBS.out.1]; exact rnode_size) (by rw [HBS.out.1]; rfl) HBS.out.2 ?_; intro w5 h5 k5))
  refine bodyPost_ret (results_cell_row rfl _ _ (W.heap.size + 1 + 1) 110 _ (0, 0) _ rfl h5 Tryz.underlying110 rfl (by rw [HBS.out.1]; exact rnode_size)) rfl ⟨_, rfl, ?_, HB3.out.trans (k5.below (by omega))⟩
  exact (HBB3.out.kept k5.by_ (fun X e => by cases e; rintro ⟨_, h⟩; omega)).weak fun g hg => .inl hg.1
 ·have h0' : ((la.length : Int) == 0) = false := beq_eq_false_iff_ne.2 (by omega)
  rcases Nat.eq_zero_or_pos lb.length with h1 | h1
  ·obtain rfl := List.eq_nil_of_length_eq_zero h1
   simp only [List.length_nil] at qb
   clear ha hb h1 h0
   go_enter Tryz.func103, Tryz.ntmps103
   go_upto_region 1 with fail
   clear hw3
   go_wp2_with (first
    | (refine ld_if rfl 110 _ rfl W.heap.size rfl 110 _ _ _ HX3.out Tryz.underlying110 rfl (by rw [HAS.out.1]; exact rnode_size) ?_)
    | (refine st_agg rfl 110 _ _ rfl (W.heap.size + 1 + 1) ca rfl rfl 110 _ HZ3.out (by rw [HAS.out.1]; exact rnode_size) (by rw [HAS.out.1]; rfl) HAS.out.2 ?_; intro w5 h5 k5))
   refine bodyPost_ret (results_cell_row rfl _ _ (W.heap.size + 1 + 1) 110 _ (0, 0) _ rfl h5 Tryz.underlying110 rfl (by rw [HAS.out.1]; exact rnode_size)) rfl ⟨_, rfl, ?_, HB3.out.trans (k5.below (by omega))⟩
   rw [List.append_nil]
   exact (HA3.out.kept k5.by_ (fun X e => by cases e; rintro ⟨_, h⟩; omega)).weak fun g hg => .inl hg.1
  ·have h1' : ((lb.length : Int) == 0) = false := beq_eq_false_iff_ne.2 (by omega)
   rcases ha with ⟨rfl, _⟩ | ⟨h, p, hcp, hpl, hp, hpr⟩
   ·simp at h0
   rcases hb with ⟨rfl, _⟩ | ⟨h', q, hcq, hql, hq, hqr⟩
   ·simp at h1
   obtain ⟨m, hm⟩ : ∃ m, m = if h' ≤ h then (if h = 0 then 1 else 2) else 2 := ⟨_, rfl⟩
   have hp1 := hp.wid
   have hq1 := hq.wid
   have hJ := rp_joined (h + h') h h' (Nat.le_refl _) (fun g => S g ∧ g < W.heap.size) w3 p q m (by
     rcases HA3.out with ⟨e, _⟩ | ⟨h2, p2, e1, e2, e3, _⟩
     ·rw [← hpl] at h0; rw [hpl, e] at h0; simp at h0
     ·exact hp.old.later HB3.out) (hq.old.later HB3.out) (by rw [hpl, hql]; exact HN.out) (by rw [hm]; split <;> (try split) <;> omega) (by
     rw [hm]
     by_cases hh : h' ≤ h
     ·refine .inl ⟨hh, ?_⟩
      rw [if_pos hh]
      split
      ·omega
      ·rcases hpr with e | e <;> omega
     ·refine .inr ⟨by omega, ?_⟩
      rw [if_neg hh]
      rcases hqr with e | e <;> omega)
   rw [← hcp, ← hcq, hpl, hql] at hJ
   have HJ := Lib.hid hJ
   have HMR : Hid (max h h' = 0 ∨ 2 ≤ m) := by
    show _ ∨ _
    rw [hm]
    by_cases hh : h' ≤ h
    ·rw [if_pos hh]
     split
     ·exact .inl (by omega)
     ·exact .inr (Nat.le_refl _)
    ·rw [if_neg hh]
     exact .inr (Nat.le_refl _)
   clear hcp hpl hp hpr hcq hql hq hqr hp1 hq1 hJ hm h0 h1
   go_enter Tryz.func103, Tryz.ntmps103
   go_upto_region 1 with fail
   clear hw3
   go_wp2_with (first
    | (refine ld_if rfl 110 _ rfl W.heap.size rfl 110 _ _ _ HX3.out Tryz.underlying110 rfl (by rw [HAS.out.1]; exact rnode_size) ?_)
    | (refine ld_if rfl 110 _ rfl (W.heap.size + 1) rfl 110 _ _ _ HY3.out Tryz.underlying110 rfl (by rw [HBS.out.1]; exact rnode_size) ?_)
    | (go_at_call 129; refine HJ.out.mono ?_; rintro e w4 ⟨v4, rfl, ks, hn4, hc4, hl4, hx4, hb4⟩; have HZ4 := Lib.hid ((hb4.block _ (by have := HS3.out; omega)).trans HZ3.out); have HT := Lib.hid (rp_top w4 _ v4 ks hn4 (fun p hp => ⟨(hx4 p hp).2, fun _ => HMR.out.imp_right fun h => Nat.le_trans h (hx4 p hp).1⟩) (by rw [hc4, List.length_append]; exact HN.out)); rw [hc4] at HT; have HB4 := Lib.hid (HB3.out.trans (hb4.mono HB3.out.size)); have HB34 := Lib.hid hb4.size; clear hn4 hc4 hl4 hx4 hb4)
    | (go_at_call 98; refine HT.out.mono ?_; rintro e w5 ⟨c5, rfl, hr5, hb5⟩; have HZ5 := Lib.hid ((hb5.block _ (Array.getElem?_eq_some_iff.1 HZ4.out).1).trans HZ4.out); have HR5 := Lib.hid hr5; have HB5 := Lib.hid (HB4.out.trans (hb5.mono HB4.out.size)); clear hr5 hb5)
    | (refine st_agg rfl 110 _ _ rfl (W.heap.size + 1 + 1) c5 rfl rfl 110 _ HZ5.out (by rw [HR5.out.size]; exact rnode_size) (by rw [HR5.out.size]; rfl) HR5.out.one ?_; intro w6 h6 k6))
   have hs3 := HS3.out
   have hb34 := HB34.out
   refine bodyPost_ret (results_cell_row rfl _ _ (W.heap.size + 1 + 1) 110 _ (0, 0) _ rfl h6 Tryz.underlying110 rfl (by rw [HR5.out.size]; exact rnode_size)) rfl ⟨_, rfl, ?_, HB5.out.trans (k6.below (by omega))⟩
   refine (HR5.out.kept k6.by_ (fun X e => by cases e; rintro ((⟨_, h⟩ | h) | h) <;> omega)).weak fun g hg => ?_
   rcases hg with (hg | hg) | hg
   ·exact .inl hg.1
   ·exact .inr (by omega)
   ·exact .inr (by omega)
set_option maxHeartbeats 8000000 in
theorem rp_Concat (W : World) {S : Nat → Prop} {ca cb : Array Value} {la lb : List Cel} (ha : RootR S W ca la) (hb : RootR S W cb lb) (hN : la.length + lb.length ≤ 100000) :
    Calls Tryz.prog 77 #[.agg ca, .agg cb] W fun e W' => ∃ c, e = .returned (.agg c) ∧ RootR (fun g => S g ∨ W.heap.size ≤ g) W' c (la ++ lb) ∧ Below W.heap.size W W' := by
  obtain ⟨w2, hw2⟩ : ∃ w2, (W.alloc (.cells ca 112)).alloc (.cells cb 112) = w2 := ⟨_, rfl⟩
  obtain ⟨hb2, hx2, hy2, hs2⟩ := two_new hw2
  obtain ⟨w3, hw3⟩ : ∃ w3, w2.alloc (.cells #[.int .i64 0, .int .i64 0, .slice none 0 0, .slice none 0 0] 112) = w3 := ⟨_, rfl⟩
  obtain ⟨hb3, hz3, hs3⟩ := box_new hw3
  rw [← hw2] at hw3
  rw [hs2] at hz3 hs3
  have hB3 := hb2.trans (hb3.mono hb2.size)
  have HX3 := Lib.hid ((hb3.block _ (by omega)).trans hx2)
  have HY3 := Lib.hid ((hb3.block _ (by omega)).trans hy2)
  have HZ3 := Lib.hid hz3
  have HB3 := Lib.hid hB3
  have HS3 := Lib.hid hs3
  have HAS := Lib.hid ha.size
  have HBS := Lib.hid hb.size
  have HC := Lib.hid (rp_concat w3 (ha.old.later hB3) (hb.old.later hB3) hN)
  clear hb2 hx2 hy2 hs2 hb3 hz3 hs3 hw2 hB3 hN ha hb
  go_enter Tryz.func77, Tryz.ntmps77
  go_upto_region 1 with fail
  clear hw3
  go_wp2_with (first
    | (refine ld_if rfl 110 _ rfl W.heap.size rfl 112 _ _ _ HX3.out Tryz.underlying110 rfl (by rw [HAS.out]; exact rnode_size) ?_)
    | (refine ld_if rfl 110 _ rfl (W.heap.size + 1) rfl 112 _ _ _ HY3.out Tryz.underlying110 rfl (by rw [HBS.out]; exact rnode_size) ?_)
    | (go_at_call 103
       refine HC.out.mono ?_
       rintro e w4 ⟨c4, rfl, hr4, hb4⟩
       obtain ⟨x, y, q1, n1, c1, q2, n2, c2, rfl⟩ := hr4.four
       have HR4 := Lib.hid hr4
       have HB4 := Lib.hid hb4
       have HZ4 := Lib.hid ((hb4.block (W.heap.size + 1 + 1) (by have := HS3.out; omega)).trans HZ3.out)
       clear hr4 hb4)
    | (refine st_agg rfl 112 _ _ rfl (W.heap.size + 1 + 1) _ rfl rfl 112 _ HZ4.out rope_size rfl (one4 rfl rfl rfl rfl) ?_; intro w5 h5 k5))
  refine bodyPost_ret (results_cell_row rfl _ _ (W.heap.size + 1 + 1) 112 _ (0, 0) _ rfl h5 Tryz.underlying112 rfl rope_size) rfl ⟨_, rfl, ?_, ?_⟩
  · have hs3 := HS3.out
    refine (HR4.out.kept k5.by_ (fun X e => by cases e; rintro (⟨_, h⟩ | h) <;> omega)).weak fun g hg => ?_
    rcases hg with hg | hg
    · exact .inl hg.1
    · exact .inr (by omega)
  · have hs3 := HS3.out
    exact (HB3.out.trans (HB4.out.mono (by omega))).trans (k5.below (by omega))
set_option maxHeartbeats 8000000 in
theorem chg_con {S : Nat → Prop} {w : World} {rc mc : Array Value} {d0 : Value} {N0 : Nat} {sd : Nat} {nn : Int} {L : List Ent} (la lb : List Cel) (rca rcb : Array Value) (ha : RootR S w rca la) (hb : RootR S w rcb lb) (hN : la.length + lb.length ≤ 100000) (hm : MapAt S w sd nn L mc) (p q ba bb : Nat)
  (hcp : w.cell? ⟨p, 3, none⟩ = some (.pointer (some ⟨ba, 0, none⟩))) (hcq : w.cell? ⟨q, 3, none⟩ = some (.pointer (some ⟨bb, 0, none⟩))) (hra : w.rangeAt ba 0 rca.toList) (hrb : w.rangeAt bb 0 rcb.toList) (hrs : rc.size = 4) (hms : mc.size = 6) :
  Chgs S w rc mc d0 N0 (la ++ lb) sd nn L 76 #[.pointer (some ⟨p, 0, none⟩), .pointer (some ⟨q, 0, none⟩)] := by
 intro w1 X hW hwX hX
 have HC := Lib.hid (And.intro (keep_cell hcp hW) (And.intro (keep_cell hcq hW) (And.intro (keep_range hra hW) (keep_range hrb hW))))
 have HCL := Lib.hid (fun W (h : Below w1.heap.size w1 W) => rp_Concat W (ha.old.later (hW.trans (h.mono hW.size))) (hb.old.later (hW.trans (h.mono hW.size))) hN)
 have HM := Lib.hid (hm.old.later hW)
 have HX := Lib.hid hwX
 have HX1 := Lib.hid hX
 have HZ := Lib.hid (And.intro hrs (And.intro hms (And.intro ha.size hb.size)))
 clear ha hb hm hcp hcq hra hrb hrs hms hX hwX hW hN
 show Calls Tryz.prog 76 #[.pointer (some ⟨X, 0, none⟩), .pointer (some ⟨p, 0, none⟩), .pointer (some ⟨q, 0, none⟩)] w1 _
 go_enter Tryz.func76, Tryz.ntmps76
 have HKS : Hid (∀ V, Below w1.heap.size w1 V → V.cell? ⟨p, 3, none⟩ = some (.pointer (some ⟨ba, 0, none⟩)) ∧ V.cell? ⟨q, 3, none⟩ = some (.pointer (some ⟨bb, 0, none⟩)) ∧ V.rangeAt ba 0 rca.toList ∧ V.rangeAt bb 0 rcb.toList) := fun V hV => ⟨keep_cell HC.out.1 hV, keep_cell HC.out.2.1 hV, keep_range HC.out.2.2.1 hV, keep_range HC.out.2.2.2 hV⟩
 have HW : Hid (Below w1.heap.size w1 w1.drew) := drawn_below w1
 refine wp_region_T (S := (fun V => V.cell? ⟨p, 3, none⟩ = some (.pointer (some ⟨ba, 0, none⟩)) ∧ V.cell? ⟨q, 3, none⟩ = some (.pointer (some ⟨bb, 0, none⟩)) ∧ V.rangeAt ba 0 rca.toList ∧ V.rangeAt bb 0 rcb.toList)) [14] (by kernel_rfl) (by exact HKS.out _ HW.out) (fun hHeld => ?_)
 refine tkL 0 4 (h := ?_)
 refine tkL 1 5 (h := ?_)
 (try simp only [pq])
 refine tkL 2 6 (h := ?_)
 refine tkL 3 7 (h := ?_)
 (try simp only [pq])
 refine tkL 4 8 (h := ?_)
 refine tyL 5 9 (hy := yieldsIf_arr (by rfl) 112 _ rfl ba 0 rfl rca _ (fun w hw => hw.2.2.1) Tryz.underlying112 rfl (by rw [HZ.out.2.2.1]; exact rope_size)) (h := ?_)
 (try simp only [pq])
 refine tkL 6 10 (h := ?_)
 refine tkL 7 11 (h := ?_)
 (try simp only [pq])
 refine tkL 8 12 (h := ?_)
 refine tkL 9 13 (h := ?_)
 (try simp only [pq])
 refine tyL 10 14 (hy := yieldsIf_arr (by rfl) 112 _ rfl bb 0 rfl rcb _ (fun w hw => hw.2.2.2) Tryz.underlying112 rfl (by rw [HZ.out.2.2.2]; exact rope_size)) (h := ?_)
 (try simp only [pq])
 refine tkO 11 (some 15) (h := fun K hK => ?_)
 go_simp
 go_at_call 77
 (with_reducible refine (HCL.out _ (by exact HW.out)).mono ?_)
 rintro r w3 ⟨c', rfl, hr, hb⟩
 have HR := Lib.hid hr
 replace HW := Lib.hid (HW.out.trans (hb.mono HW.out.size))
 clear hb hr
 dsimp only
 refine hK.out _ _ (by exact HKS.out _ HW.out) (fun hHeld => ?_)
 clear hK K
 (try simp only [pq])
 refine tkL 12 16 (h := ?_)
 refine tkL 13 17 (h := ?_)
 (try simp only [pq])
 refine tkU 14 none (h := fun K hK => ?_)
 refine st_mid_wp 112 _ _ rfl X 0 c' rfl rfl 123 _ ((HW.out.block _ (by exact (Array.getElem?_eq_some_iff.1 HX1.out).1)).trans HX1.out) (by rw [RootR.size HR.out]; exact rope_size) (by rw [innC_size HZ.out.1 HZ.out.2.1, RootR.size HR.out]; decide) (RootR.one HR.out) _ (innC_rp HZ.out.1 (RootR.size HR.out) _ _) ?_
 intro w5 h5 k5
 refine hK.out _ _ ?_
 clear hK K
 (try simp only [pq])
 refine wpAnyT_done (by kernel_rfl) ?_ _
 clear hHeld
 go_wp2_with fail
 go_end0
 have hx := HX.out
 have hlw := (Array.getElem?_eq_some_iff.1 HX1.out).1
 have hdr : w1.drew.heap.size = w1.heap.size := rfl
 have hl3 := HW.out.size
 have hq : Kq (fun g => (S g ∧ g < w.heap.size) ∨ w1.heap.size ≤ g) w3 w5 := Kq.only k5 (fun h => h.elim (fun h => by have := h.2; omega) (fun h => by omega))
 exact ⟨rfl, c', mc, h5, HR.out.imp hq (fun g hg _ => hg), ((HM.out.later HW.out).imp (Kq.only k5 (fun h => by have := h.2; omega)).kp (fun _ h _ => .inl h)), w3, HW.out, k5⟩
def conT (a b : Tr) : Tr × Int := if a.k ≠ 4 ∨ b.k ≠ 4 then (nullT, 3) else withinT (.nd 4 0 ⟨#[]⟩ [] (a.xs ++ b.xs))
theorem good_vec {l : List Tr} (h : ∀ x ∈ l, Good x) : Good (.nd 4 0 ⟨#[]⟩ [] l) := good_iff.2 ⟨h, Or.inr ⟨rfl, rfl, Or.inl ⟨rfl, rfl⟩⟩⟩
set_option maxHeartbeats 8000000 in
theorem va_Concat {S : Nat → Prop} (w : World) (a c : Tr) (xa xb : Cel) (ha : ValB a) (hva : VAt S w a xa) (hc : ValB c) (hvc : VAt S w c xb) :
  Calls Tryz.prog 38 #[.agg (celC xa), .agg (celC xb)] w fun r w' => ∃ y, r = .returned (.tuple #[.agg (celC y), .int .i64 (conT a c).2]) ∧ VAt (fun g => S g ∨ w.heap.size ≤ g) w' (conT a c).1 y ∧ Below w.heap.size w w' := by
 obtain ⟨w1, hw1⟩ : ∃ w1, ((w.alloc (.cells (celC xa) 35)).alloc (.cells (celC xb) 35)).alloc (.cells #[.int .i64 0, .int .i64 0, .string ⟨#[]⟩, .pointer none] 35) = w1 := ⟨_, rfl⟩
 obtain ⟨hb1, hx1, hy1, hr1, hs1⟩ := three_newV hw1
 have HX1 := Lib.hid hx1
 have HY1 := Lib.hid hy1
 have HR1 := Lib.hid hr1
 have HB1 := Lib.hid hb1
 have HS1 := Lib.hid hs1
 have HKA := Lib.hid (va_Kind w1 xa)
 have HKB := Lib.hid (fun W => va_Kind W xb)
 rw [hva.k] at HKA
 rw [hvc.k] at HKB
 unfold conT
 by_cases h4 : a.k = 4
 ·rw [h4] at HKA
  by_cases h5 : c.k = 4
  ·rw [h5] at HKB
   rw [if_neg (by omega)]
   obtain ⟨ba, la, hpa, hSa, hla, rca, mca, da0, fra, sda, nna, hba, hsda, hra, hma, hda⟩ := hva.old.parts (by omega)
   obtain ⟨bb, lb, hpb, hSb, hlb, rcb, mcb, db0, frb, sdb, nnb, hbb, hsdb, hrb, hmb, hdb⟩ := hvc.old.parts (by omega)
   have hra' := hra
   rw [item_vec h4] at hra'
   have hrb' := hrb
   rw [item_vec h5] at hrb'
   have hma' := hma
   rw [mapE_vec h4] at hma'
   have hza : rca.size = 4 ∧ mca.size = 6 := ⟨hra.size, hma.size⟩
   have hzb : rcb.size = 4 ∧ mcb.size = 6 := ⟨hrb.size, hmb.size⟩
   have cpa : w1.cell? ⟨w.heap.size, 3, none⟩ = some (.pointer (some ⟨ba, 0, none⟩)) := cell_in hx1 (by rw [← hpa]; rfl)
   have cpb : w1.cell? ⟨w.heap.size + 1, 3, none⟩ = some (.pointer (some ⟨bb, 0, none⟩)) := cell_in hy1 (by rw [← hpb]; rfl)
   have hba1 := (hb1.block _ (Array.getElem?_eq_some_iff.1 hba).1).trans hba
   have hbb1 := (hb1.block _ (Array.getElem?_eq_some_iff.1 hbb).1).trans hbb
   have HC := Lib.hid (And.intro hx1 (And.intro cpa (And.intro cpb (And.intro (innC_tal hza.1 hza.2 hba1) (innC_tal hzb.1 hzb.2 hbb1)))))
   have hal := vAtL_len hla
   have hbl := vAtL_len hlb
   have hle := ha.len
   have hle2 := hc.len
   have ht1 := tal_le ha
   have ht2 := tal_le hc
   have hn1 := ha.nodL
   have hn2 := hc.nodL
   have HPL : Hid (∀ W, Below w1.heap.size w1 W → Calls Tryz.prog 69 #[.agg #[da0, .int .i64 (nodL a.xs : Int)], .agg #[db0, .int .i64 (nodL c.xs : Int)]] W fun r W' => ∃ dn, r = .returned (.agg #[dn, .int .i64 ((nodL (a.xs ++ c.xs) : Nat) : Int)]) ∧ CutAt (fun g => W.heap.size ≤ g) W' 1 dn (iv (tal (a.xs ++ c.xs))) (tal (a.xs ++ c.xs)).length ∧ Below W.heap.size W W') := fun W hW => by
    have h := tl_plus (S := fun _ => True) W da0 db0 (tal a.xs) (tal c.xs) (nodL a.xs) (nodL c.xs) ((hda.later (hb1.trans (hW.mono hb1.size))).weak fun _ _ => trivial) ((hdb.later (hb1.trans (hW.mono hb1.size))).weak fun _ _ => trivial) (by omega) (by omega) (tal_rng ha) (tal_rng hc) (by omega) (by omega)
    rw [plus_tal, ← nodL_app] at h
    exact h
   have HCH : Hid (∀ W dn, Below w1.heap.size w1 W → CutAt (fun g => w1.heap.size ≤ g) W 1 dn (iv (tal (a.xs ++ c.xs))) (tal (a.xs ++ c.xs)).length → Calls Tryz.prog 68 #[.agg (celC xa), .agg #[dn, .int .i64 ((nodL (a.xs ++ c.xs) : Nat) : Int)], .func (.func 76) #[] #[.pointer (some ⟨w.heap.size, 0, none⟩), .pointer (some ⟨w.heap.size + 1, 0, none⟩)]] W fun r W' => ∃ y, r = .returned (.tuple #[.agg (celC y), .int .i64 (withinT (.nd 4 0 ⟨#[]⟩ [] (a.xs ++ c.xs))).2]) ∧ VAt (fun g => ((S g ∧ g < w.heap.size) ∨ w1.heap.size ≤ g) ∨ W.heap.size ≤ g) W' (withinT (.nd 4 0 ⟨#[]⟩ [] (a.xs ++ c.xs))).1 y ∧ Below W.heap.size W W') := fun W dn hW hdn => by
    have hbW := hb1.trans (hW.mono hb1.size)
    have i1 := (tal_len (a.xs ++ c.xs))
    rw [depL_app, ← tal_len, ← tal_len] at i1
    have i2 := nodL_app a.xs c.xs
    exact va_changedT (S := (fun g => (S g ∧ g < w.heap.size) ∨ w1.heap.size ≤ g)) W xa ba hpa rca mca da0 (nodL a.xs) fra ((hbW.block _ (Array.getElem?_eq_some_iff.1 hba).1).trans hba) _ ((hra.later hbW).weak fun _ h => .inl h) _ sda nna ((hma.later hbW).weak fun _ h => .inl h) hsda (tal a.xs) ((hda.later hbW).weak fun _ h => .inl h) 76 _ (enters_of Tryz.func76 (by kernel_rfl) rfl)
     (.nd 4 0 ⟨#[]⟩ [] (a.xs ++ c.xs)) (by show (4 : Int) ≤ 4; omega) (hva.k.trans h4) ⟨(hva.two ha (by omega)).1, rfl⟩ ⟨(hva.two ha (by omega)).2, rfl⟩ (la ++ lb) (vAtL_app ((hla.later hbW).weak fun _ h => .inl h) ((hlb.later hbW).weak fun _ h => .inl h))
     (by
      rw [show itemE (Tr.nd 4 0 ⟨#[]⟩ [] (a.xs ++ c.xs)).k (la ++ lb) = la ++ lb from item_vec rfl, show mapE (Tr.nd 4 0 ⟨#[]⟩ [] (a.xs ++ c.xs)).k (Tr.nd 4 0 ⟨#[]⟩ [] (a.xs ++ c.xs)).ks (Tr.nd 4 0 ⟨#[]⟩ [] (a.xs ++ c.xs)).xs (la ++ lb) = [] from mapE_vec rfl]
      exact chg_con la lb rca rcb ((hra'.later hbW).weak fun _ h => .inl h) ((hrb'.later hbW).weak fun _ h => .inl h) (by omega) ((hma'.later hbW).weak fun _ h => .inl h) w.heap.size (w.heap.size + 1) ba bb (keep_cell cpa hW) (keep_cell cpb hW)
       (keep_range (innC_rope hza.1 hba1) hW) (keep_range (innC_rope hzb.1 hbb1) hW) hza.1 hza.2)
     dn (hdn.weak fun _ h => .inr h) (by show (tal (a.xs ++ c.xs)).length ≤ 100; omega) (by show nodL (a.xs ++ c.xs) ≤ 100000; omega)
   clear hx1 hy1 hr1 hs1 hb1 ha hva hc hvc h4 h5 hSa hla hba hra hma hda hSb hlb hbb hrb hmb hdb hra' hrb' hma' hba1 hbb1 hal hbl hle hle2 ht1 ht2 hn1 hn2 hpa hpb hsda hsdb cpa cpb hza hzb
   go_enter Tryz.func38, Tryz.ntmps38
   go_upto_region 1 with fail
   clear hw1
   go_upto_region 3 with (first
    | (refine ld_if rfl 35 _ rfl w.heap.size rfl 35 _ _ _ HX1.out Tryz.underlying35 rfl val_size ?_)
    | (go_at_call 37; refine HKA.out.mono ?_; rintro r w2 ⟨rfl, hb2⟩; have HB2 := Lib.hid (hb2); have HY2 := Lib.hid ((hb2.block _ (Array.getElem?_eq_some_iff.1 HY1.out).1).trans HY1.out); clear hb2)
    | (refine ld_if rfl 35 _ rfl (w.heap.size + 1) rfl 35 _ _ _ HY2.out Tryz.underlying35 rfl val_size ?_)
    | (go_at_call 37; refine (HKB.out _).mono ?_; rintro r w3 ⟨rfl, hb3⟩; have HB3 := Lib.hid (HB2.out.trans (hb3.mono HB2.out.size)); clear hb3))
   have HKS : Hid (∀ V, Below w1.heap.size w1 V → V.heap[w.heap.size]? = some (.cells (celC xa) 35 (0, 0)) ∧ V.cell? ⟨w.heap.size, 3, none⟩ = some (.pointer (some ⟨ba, 0, none⟩)) ∧ V.cell? ⟨w.heap.size + 1, 3, none⟩ = some (.pointer (some ⟨bb, 0, none⟩)) ∧ V.rangeAt ba 10 [da0, .int .i64 (nodL a.xs : Int)] ∧ V.rangeAt bb 10 [db0, .int .i64 (nodL c.xs : Int)]) := fun V hV => ⟨(hV.block _ (Array.getElem?_eq_some_iff.1 HC.out.1).1).trans HC.out.1, keep_cell HC.out.2.1 hV, keep_cell HC.out.2.2.1 hV, keep_range HC.out.2.2.2.1 hV, keep_range HC.out.2.2.2.2 hV⟩
   have HW : Hid (Below w1.heap.size w1 w3.drew) := HB3.out.trans ((drawn_below w3).mono HB3.out.size)
   refine wp_region_T (S := (fun V => V.heap[w.heap.size]? = some (.cells (celC xa) 35 (0, 0)) ∧ V.cell? ⟨w.heap.size, 3, none⟩ = some (.pointer (some ⟨ba, 0, none⟩)) ∧ V.cell? ⟨w.heap.size + 1, 3, none⟩ = some (.pointer (some ⟨bb, 0, none⟩)) ∧ V.rangeAt ba 10 [da0, .int .i64 (nodL a.xs : Int)] ∧ V.rangeAt bb 10 [db0, .int .i64 (nodL c.xs : Int)])) [16, 17] (by kernel_rfl) (by exact HKS.out _ HW.out) (fun hHeld => ?_)
   refine tyL 0 15 (hy := yieldsIf_load_row (by rfl) 35 _ rfl w.heap.size rfl (celC xa) 35 (0, 0) _ (fun w hw => hw.1) Tryz.underlying35 rfl (by exact val_size)) (h := ?_)
   refine tkL 1 16 (h := ?_)
   (try simp only [pq])
   refine tkL 2 17 (h := ?_)
   refine tkL 3 18 (h := ?_)
   (try simp only [pq])
   refine tkL 4 19 (h := ?_)
   refine tyL 5 20 (hy := yieldsIf_arr (by rfl) 107 _ rfl ba 10 rfl #[da0, .int .i64 (nodL a.xs : Int)] _ (fun w hw => hw.2.2.2.1) Tryz.underlying107 rfl (by exact tally_size)) (h := ?_)
   (try simp only [pq])
   refine tkL 6 21 (h := ?_)
   refine tkL 7 22 (h := ?_)
   (try simp only [pq])
   refine tkL 8 23 (h := ?_)
   refine tkL 9 24 (h := ?_)
   (try simp only [pq])
   refine tyL 10 25 (hy := yieldsIf_arr (by rfl) 107 _ rfl bb 10 rfl #[db0, .int .i64 (nodL c.xs : Int)] _ (fun w hw => hw.2.2.2.2) Tryz.underlying107 rfl (by exact tally_size)) (h := ?_)
   refine tkL 12 27 (h := ?_)
   (try simp only [pq])
   refine tkO 11 (some 26) (h := fun K hK => ?_)
   go_simp
   go_at_call 69
   (with_reducible refine (HPL.out _ (by exact HW.out)).mono ?_)
   rintro r w4 ⟨dn, rfl, hd, hb⟩
   have HDN := Lib.hid hd
   have HSW := Lib.hid HW.out.size
   replace HW := Lib.hid (HW.out.trans (hb.mono HW.out.size))
   clear hb hd
   dsimp only
   refine hK.out _ _ (by exact HKS.out _ HW.out) (fun hHeld => ?_)
   clear hK K
   (try simp only [pq])
   refine tkO 13 (some 28) (h := fun K hK => ?_)
   have HWC : Hid (w1.heap.size ≤ w4.heap.size) := HW.out.size
   go_simp
   go_at_call 68
   (with_reducible refine (HCH.out _ dn (by exact HW.out) (by exact HDN.out.weak fun g hg => Nat.le_trans HSW.out hg)).mono ?_)
   rintro r w5 ⟨y, rfl, hy, hb⟩
   have HY := Lib.hid hy
   replace HW := Lib.hid (HW.out.trans (hb.mono HW.out.size))
   clear hb hy
   dsimp only
   refine hK.out _ _ (by exact HKS.out _ HW.out) (fun hHeld => ?_)
   clear hK K
   (try simp only [pq])
   refine tkL 14 29 (h := ?_)
   refine tkL 15 30 (h := ?_)
   (try simp only [pq])
   refine tkU 16 none (h := fun K hK => ?_)
   refine st_agg_wp 35 _ _ rfl (w.heap.size + 2) (celC y) rfl rfl 35 _ ((HW.out.block _ (by exact (Array.getElem?_eq_some_iff.1 HR1.out).1)).trans HR1.out) val_size rfl (celC_one y) ?_
   intro w6 h6 k6
   refine hK.out _ _ ?_
   clear hK K
   (try simp only [pq])
   refine tkU 17 (some 5) (h := fun K hK => ?_)
   go_simp
   refine hK.out _ _ ?_
   clear hK K
   (try simp only [pq])
   refine wpAnyT_done (by kernel_rfl) ?_ _
   clear hHeld
   go_wp2_with fail
   have hs1 := HS1.out
   have hb1 := HB1.out
   have hw5 := HW.out.size
   refine bodyPost_ret (results_cell_row1 rfl _ _ (w.heap.size + 2) 35 _ (0, 0) _ rfl h6 Tryz.underlying35 rfl val_size) rfl ⟨y, rfl, (HY.out.imp (Kq.only k6 ?_) ?_), (HB1.out.trans (HW.out.mono HB1.out.size)).trans (k6.below (by omega))⟩
   ·exact fun h => by have := HWC.out; rcases h with (h | h) | h <;> omega
   ·exact fun g h _ => by have := HWC.out; rcases h with (h | h) | h <;> first | exact .inl h.1 | exact .inr (by omega)
  ·rw [if_pos (.inr h5)]
   have h5' : ¬ c.k = (4 : Int) := h5
   obtain ⟨k2, hk2⟩ : ∃ k2, k2 = c.k := ⟨_, rfl⟩
   rw [← hk2] at HKB h5'
   clear hx1 hy1 hr1 hs1 hb1 ha hva hc hvc h4 h5 hk2
   go_enter Tryz.func38, Tryz.ntmps38
   go_upto_region 1 with fail
   clear hw1
   go_wp2_with (first
    | (refine ld_if rfl 35 _ rfl w.heap.size rfl 35 _ _ _ HX1.out Tryz.underlying35 rfl val_size ?_)
    | (go_at_call 37; refine HKA.out.mono ?_; rintro r w2 ⟨rfl, hb2⟩; have HB2 := Lib.hid (HB1.out.trans (hb2.mono HB1.out.size)); have HY2 := Lib.hid ((hb2.block _ (Array.getElem?_eq_some_iff.1 HY1.out).1).trans HY1.out); have HR2 := Lib.hid ((hb2.block _ (Array.getElem?_eq_some_iff.1 HR1.out).1).trans HR1.out); clear hb2)
    | (refine ld_if rfl 35 _ rfl (w.heap.size + 1) rfl 35 _ _ _ HY2.out Tryz.underlying35 rfl val_size ?_)
    | (go_at_call 37; refine (HKB.out _).mono ?_; rintro r w3 ⟨rfl, hb3⟩; have HB3 := Lib.hid (HB2.out.trans (hb3.mono HB2.out.size)); have HR3 := Lib.hid ((hb3.block _ (Array.getElem?_eq_some_iff.1 HR2.out).1).trans HR2.out); clear hb3)
    | (refine st_agg rfl 35 _ _ rfl (w.heap.size + 2) #[.int .i64 0, .int .i64 0, .string ⟨#[]⟩, .pointer none] rfl rfl 35 _ HR3.out val_size rfl (by simp [Value.oneCell']) ?_; intro w5 h5 k5))
   exact bodyPost_ret (results_cell_row1 rfl _ _ (w.heap.size + 2) 35 _ (0, 0) _ rfl h5 Tryz.underlying35 rfl val_size) rfl ⟨zeroV, rfl, vAt_null _ _, HB3.out.trans (k5.below (by omega))⟩
 ·rw [if_pos (.inl h4)]
  obtain ⟨k1, hk1⟩ : ∃ k1, k1 = a.k := ⟨_, rfl⟩
  have h4' : ¬ k1 = (4 : Int) := by rw [hk1]; exact h4
  rw [← hk1] at HKA
  clear hx1 hy1 hr1 hs1 hb1 ha hva hc hvc h4 hk1
  go_enter Tryz.func38, Tryz.ntmps38
  go_upto_region 1 with fail
  clear hw1
  go_wp2_with (first
   | (refine ld_if rfl 35 _ rfl w.heap.size rfl 35 _ _ _ HX1.out Tryz.underlying35 rfl val_size ?_)
   | (go_at_call 37; refine HKA.out.mono ?_; rintro r w2 ⟨rfl, hb2⟩; have HB2 := Lib.hid (HB1.out.trans (hb2.mono HB1.out.size)); have HR2 := Lib.hid ((hb2.block _ (Array.getElem?_eq_some_iff.1 HR1.out).1).trans HR1.out); clear hb2)
   | (refine st_agg rfl 35 _ _ rfl (w.heap.size + 2) #[.int .i64 0, .int .i64 0, .string ⟨#[]⟩, .pointer none] rfl rfl 35 _ HR2.out val_size rfl (by simp [Value.oneCell']) ?_; intro w5 h5 k5))
  exact bodyPost_ret (results_cell_row1 rfl _ _ (w.heap.size + 2) 35 _ (0, 0) _ rfl h5 Tryz.underlying35 rfl val_size) rfl ⟨zeroV, rfl, vAt_null _ _, HB2.out.trans (k5.below (by omega))⟩
def vecN (j : Nat) : Tr := .nd 4 0 ⟨#[]⟩ [] (List.replicate j nullT)
theorem vec_nodL (j : Nat) : nodL (List.replicate j nullT) = j := by
 induction j with
 | zero => rw [List.replicate_zero, nodL]
 | succ j ih =>
  have h : nodT nullT = 1 := by unfold nullT; simp [nodT, nodL]
  rw [List.replicate_succ, nodL, ih]
  omega
theorem vec_depL (j : Nat) : depL (List.replicate j nullT) ≤ 1 := by
 induction j with
 | zero => rw [List.replicate_zero, depL]; omega
 | succ j ih =>
  have h : depT nullT = 1 := by unfold nullT; simp [depT, depL]
  rw [List.replicate_succ, depL]
  omega
theorem vec_nod (j : Nat) : ((nodT (vecN j) : Nat) : Int) = (j : Int) + 1 := by
 unfold vecN
 rw [nodT, vec_nodL]
 push_cast
 omega
theorem vec_len (j : Nat) : (((vecN j).xs.length : Nat) : Int) = (j : Int) := by simp [vecN, Tr.xs]
theorem vec_val {j : Nat} (h : j ≤ 16383) : ValB (vecN j) := by
 have hm : ∀ x ∈ List.replicate j nullT, x = nullT := fun x hx => (List.mem_replicate.1 hx).2
 refine ⟨⟨good_vec fun x hx => by rw [hm x hx]; exact good_null, ?_, ?_⟩, txtT_iff.2 ⟨Nat.zero_le _, fun _ h => (by cases h), fun x hx => by rw [hm x hx]; exact txt_null _⟩⟩
 ·unfold vecN
  rw [depT]
  have := vec_depL j
  omega
 ·unfold vecN
  rw [nodT, vec_nodL]
  omega
theorem vec_within (j : Nat) : withinT (vecN j) = if 16383 < j then (nullT, 8) else (vecN j, 0) := by
 have h1 : depT (vecN j) ≤ 2 := by
  unfold vecN
  rw [depT]
  have := vec_depL j
  omega
 have h2 : nodT (vecN j) = j + 1 := by unfold vecN; rw [nodT, vec_nodL]
 unfold withinT
 rw [if_neg (by omega), h2]
 by_cases h : 16383 < j
 ·rw [if_pos (by omega), if_pos h]
 ·rw [if_neg (by omega), if_neg h]
theorem ins_vec {j : Nat} (h : j < 40) : insT (vecN j) 0 nullT = (vecN (j + 1), 0) := by
 have h1 := vec_within (j + 1)
 rw [if_neg (by omega)] at h1
 unfold insT
 rw [if_neg (by simp [vecN, Tr.k]), if_neg (by simp), ← h1]
 rfl
theorem con_vec (i j : Nat) : conT (vecN i) (vecN j) = if 16383 < i + j then (nullT, 8) else (vecN (i + j), 0) := by
 rw [← vec_within]
 unfold conT
 rw [if_neg (by simp [vecN, Tr.k])]
 unfold vecN
 show withinT (.nd 4 0 ⟨#[]⟩ [] (List.replicate i nullT ++ List.replicate j nullT)) = _
 rw [List.replicate_append_replicate]
def WideIn (w : World) (X j : Nat) (V : World) : Prop := (∃ x : Cel, VAt (fun g => g ≠ X) V (vecN j) x ∧ V.heap[X]? = some (.cells (celC x) 35 (0, 0))) ∧ Below w.heap.size w V
def WideIn2 (w : World) (X F N al : Nat) (V : World) : Prop := al ≤ 16383 ∧ (∃ x f : Cel, VAt (fun g => g ≠ X) V (vecN al) x ∧ VAt (fun g => g ≠ X) V (vecN N) f ∧ V.heap[X]? = some (.cells (celC x) 35 (0, 0)) ∧ V.heap[F]? = some (.cells (celC f) 35 (0, 0))) ∧ Below w.heap.size w V
set_option maxHeartbeats 8000000 in
theorem valueWide_walk (n : Int) (v : Value) (l : List Bool) (_ : (Lit.int .i64 n).wf = true) (w : World) (hl : BoolsAt w v l) (hT : Tab6 w) : Calls Tryz.prog 10 #[.int .i64 n, v] w fun e w' => e = .returned (.bool true) ∧ Below w.heap.size w w' := by
 obtain ⟨a, c, b, o, rfl, ha, hcs, hmx⟩ := hl
 have HTB := Lib.hid (fun V (hb : Below w.heap.size w V) => hT.below hb)
 have HLV := Lib.hid (fun V (hb : Below w.heap.size w V) => live11 V (hT.below hb))
 obtain ⟨lx, hlx⟩ : ∃ lx, lx = l.length := ⟨_, rfl⟩
 rw [← hlx] at ha ⊢
 have HLX := Lib.hid hlx
 have HW : Hid (Below w.heap.size w w) := Below.refl _ _
 have HCS := Lib.hid (⟨ha, hcs⟩ : (0 < lx → a = some ⟨b, o, none⟩) ∧ ∀ j (_ : j < l.length), w.cell? ⟨b, o + j, none⟩ = some (.bool l[j]))
 clear hT hcs hlx ha hmx
 by_cases n0 : n < 0
 ·go_enter Tryz.func10, Tryz.ntmps10
  go_wp2_with (first
   | (go_at_call 11; (with_reducible refine (HLV.out _ HW.out).mono ?_); rintro r V ⟨rfl, hb⟩; replace HW := Lib.hid (HW.out.trans (hb.mono HW.out.size)); clear hb))
  have hb := HW.out
  go_ret
  exact ⟨rfl, hb⟩
 by_cases n4 : 40 < n
 ·go_enter Tryz.func10, Tryz.ntmps10
  go_wp2_with (first
   | (go_at_call 11; (with_reducible refine (HLV.out _ HW.out).mono ?_); rintro r V ⟨rfl, hb⟩; replace HW := Lib.hid (HW.out.trans (hb.mono HW.out.size)); clear hb))
  have hb := HW.out
  go_ret
  exact ⟨rfl, hb⟩
 by_cases l2 : (20 : Int) < (lx : Int)
 ·go_enter Tryz.func10, Tryz.ntmps10
  go_wp2_with (first
   | (go_at_call 11; (with_reducible refine (HLV.out _ HW.out).mono ?_); rintro r V ⟨rfl, hb⟩; replace HW := Lib.hid (HW.out.trans (hb.mono HW.out.size)); clear hb))
  have hb := HW.out
  go_ret
  exact ⟨rfl, hb⟩
 obtain ⟨N, hN⟩ : ∃ N : Nat, n = (N : Int) := ⟨n.toNat, by omega⟩
 subst hN
 go_enter Tryz.func10, Tryz.ntmps10
 go_upto_region 3 with (first
  | (go_at_call 11; (with_reducible refine (HLV.out _ HW.out).mono ?_); rintro r V ⟨rfl, hb⟩; replace HW := Lib.hid (HW.out.trans (hb.mono HW.out.size)); clear hb))
 have HN : Hid (N ≤ 40) := by show _ ≤ _; omega
 go_upto_region 4 with (first
  | (go_at_call 33; (with_reducible refine (lw_empty _ 4 (.inl rfl) (HTB.out _ HW.out)).mono ?_); rintro r w2 ⟨y0, rfl, hy, hb⟩; have HY0 := Lib.hid hy; replace HW := Lib.hid (HW.out.trans (hb.mono HW.out.size)); clear hy hb)
  | (refine st_agg rfl 35 _ _ rfl w2.heap.size (celC y0) rfl rfl 35 #[.int .i64 0, .int .i64 0, .string ⟨#[]⟩, .pointer none] (heap_alloc_last _ _) val_size rfl (celC_one y0) ?_; intro w3 h3 k3))
 have hb3 : Below w2.heap.size w2 w3 := (Below.newly' _ _).trans (k3.below (Nat.le_refl _))
 obtain ⟨X, hX⟩ : ∃ X, X = w2.heap.size := ⟨_, rfl⟩
 have HXB : Hid (w.heap.size ≤ X) := by show _ ≤ _; rw [hX]; exact HW.out.size
 have H0 : Hid (WideIn w X 0 w3) := ⟨⟨y0, ((HY0.out.old.later hb3).weak fun g hg => by have := hg.2; omega : VAt (fun g => g ≠ X) w3 (noneT 4) y0), by rw [hX]; exact h3⟩, HW.out.trans (hb3.mono HW.out.size)⟩
 rw [← hX]
 clear h3 k3 hb3 hX HW HY0
 go_upto_region 5 with fail
 go_loopw [6, 7, 34] (fun p e i wl => ∃ j : Nat, j ≤ N ∧ i = .int .i64 (j : Int) ∧ (∃ c, c = p) ∧ (∃ c, c = e) ∧ Hid (WideIn w X j wl)) (fun _ _ i _ => N - (intOf i).toNat)
 case atStart => exact ⟨0, Nat.zero_le _, rfl, ⟨_, rfl⟩, ⟨_, rfl⟩, H0.out⟩
 case round =>
  obtain ⟨j, hj, rfl, _, _, HI⟩ := hrel
  clear H0
  by_cases hlt : j < N
  ·have hlt' : (j : Int) < (N : Int) := by omega
   have i0 : (0 : Int) ≤ (j : Int) := by omega
   obtain ⟨⟨x, hv, hx⟩, hbw⟩ := HI.out
   have HIN : Hid (Calls Tryz.prog 34 #[.agg (celC x), .int .i64 0, .agg #[.int .i64 0, .int .i64 0, .string ⟨#[]⟩, .pointer none]] wr fun r w' => ∃ y, r = .returned (.tuple #[.agg (celC y), .int .i64 0]) ∧ VAt (fun g => g ≠ X) w' (vecN (j + 1)) y ∧ Below wr.heap.size wr w') := by
    have hxl := (Array.getElem?_eq_some_iff.1 hx).1
    have h := va_Insert (S := fun g => g ≠ X) wr (vecN j) x (vec_val (by have := HN.out; omega)) hv 0 nullT zeroV valB_null (vAt_null _ _)
    rw [ins_vec (by have := HN.out; omega)] at h
    exact h.mono fun r w' ⟨y, h1, h2, h3⟩ => ⟨y, h1, h2.weak fun g hg => (by
     rcases hg with hg | hg
     ·exact hg
     ·omega), h3⟩
   have HXR := Lib.hid hx
   have HBR := Lib.hid hbw
   clear hv hx hbw HI
   go_upto_region 7 with (first
    | (refine ld_if rfl 35 _ rfl X rfl 35 _ _ _ HXR.out Tryz.underlying35 rfl val_size ?_)
    | (go_at_call 34; (with_reducible refine HIN.out.mono ?_); rintro r wi ⟨y, rfl, hy, hb⟩; have HY := Lib.hid hy; have HX2 := Lib.hid ((hb.block _ (Array.getElem?_eq_some_iff.1 HXR.out).1).trans HXR.out); replace HBR := Lib.hid (HBR.out.trans (hb.mono HBR.out.size)); clear hy hb)
    | (refine st_agg rfl 35 _ _ rfl wi.heap.size (celC y) rfl rfl 35 #[.int .i64 0, .int .i64 0, .string ⟨#[]⟩, .pointer none] (heap_alloc_last _ _) val_size rfl (celC_one y) ?_; intro ws hs ks))
   have hbs : Below wi.heap.size wi ws := (Below.newly' _ _).trans (ks.below (Nat.le_refl _))
   have HZS := Lib.hid hs
   have HXS := Lib.hid ((hbs.block _ (Array.getElem?_eq_some_iff.1 HX2.out).1).trans HX2.out)
   have HYS := Lib.hid (HY.out.later hbs)
   have HBS := Lib.hid (HBR.out.trans (hbs.mono HBR.out.size))
   obtain ⟨Z, hZ⟩ : ∃ Z, Z = wi.heap.size := ⟨_, rfl⟩
   rw [← hZ] at HZS ⊢
   clear hs ks hbs hZ HY HX2 HBR HXR HIN
   go_wp2_with (first
    | (refine ld_if rfl 35 _ rfl Z rfl 35 _ _ _ HZS.out Tryz.underlying35 rfl val_size ?_)
    | (refine st_agg rfl 35 _ _ rfl X (celC y) rfl rfl 35 _ HXS.out val_size rfl (celC_one _) ?_; intro wt ht kt))
   go_roundw
   case rel => exact ⟨j + 1, by omega, by go_num, ⟨_, rfl⟩, ⟨_, rfl⟩, ⟨y, HYS.out.kq (Kq.only kt fun h => h rfl), ht⟩, HBS.out.trans (kt.below HXB.out)⟩
   case measure => simp [intOf]; omega
  ·obtain rfl : N = j := by omega
   have hlt' : ¬ (N : Int) < (N : Int) := by omega
   obtain ⟨⟨x, hv, hx⟩, hbw⟩ := HI.out
   have HXR := Lib.hid hx
   have HVR := Lib.hid hv
   have HBR := Lib.hid hbw
   clear hv hx hbw HI
   go_upto_region 12 with (first
    | (refine ld_if rfl 35 _ rfl X rfl 35 _ _ _ HXR.out Tryz.underlying35 rfl val_size ?_)
    | (refine st_agg rfl 35 _ _ rfl wr.heap.size (celC x) rfl rfl 35 #[.int .i64 0, .int .i64 0, .string ⟨#[]⟩, .pointer none] (heap_alloc_last _ _) val_size rfl (celC_one x) ?_; intro ws hs ks))
   have hbs : Below wr.heap.size wr ws := (Below.newly' _ _).trans (ks.below (Nat.le_refl _))
   obtain ⟨F, hF⟩ : ∃ F, F = wr.heap.size := ⟨_, rfl⟩
   have HXF : Hid (X < F) := by show _ < _; rw [hF]; exact (Array.getElem?_eq_some_iff.1 HXR.out).1
   have H0 : Hid (WideIn2 w X F N N ws) := ⟨by have := HN.out; omega, ⟨x, x, HVR.out.later hbs, HVR.out.later hbs, (hbs.block _ (Array.getElem?_eq_some_iff.1 HXR.out).1).trans HXR.out, by rw [hF]; exact hs⟩, HBR.out.trans (hbs.mono HBR.out.size)⟩
   rw [← hF]
   clear hs ks hbs hF HXR HVR HBR hj hlt hlt'
   go_wp2_with fail
   go_loopw [9, 11, 12, 13, 14, 15, 50] (fun al b11 p12 m13 p14 e15 i wl => ∃ (j al' : Nat), j ≤ lx ∧ i = .int .i64 (j : Int) ∧ al = .int .i64 (al' : Int) ∧ (∃ c, c = b11) ∧ (∃ c, c = p12) ∧ (∃ c, c = m13) ∧ (∃ c, c = p14) ∧ (∃ c, c = e15) ∧ Hid (WideIn2 w X F N al' wl)) (fun _ _ _ _ _ _ i _ => lx - (intOf i).toNat)
   case atStart => exact ⟨0, _, Nat.zero_le _, rfl, rfl, ⟨_, rfl⟩, ⟨_, rfl⟩, ⟨_, rfl⟩, ⟨_, rfl⟩, ⟨_, rfl⟩, H0.out⟩
   case round =>
    obtain ⟨j, al, hj, rfl, rfl, _, _, _, _, _, HI⟩ := hrel
    clear H0
    by_cases hlt : j < lx
    ·have hlt' : (j : Int) < (lx : Int) := by omega
     have i0 : (0 : Int) ≤ (j : Int) := by omega
     obtain ⟨hal, ⟨x, f, hxv, hfv, hx, hf⟩, hbw⟩ := HI.out
     have hjl : j < l.length := by rw [← HLX.out]; exact hlt
     obtain ⟨z, hz⟩ : ∃ z, z = l[j] := ⟨_, rfl⟩
     obtain ⟨g, o, rfl, hcell⟩ : ∃ g o, a = some ⟨g, o, none⟩ ∧ wr.cell? ⟨g, o + j, none⟩ = some (.bool z) := by
      refine ⟨b, o, HCS.out.1 (by omega), ?_⟩
      have h2 := HCS.out.2 j hjl
      rw [← hz] at h2
      exact (hbw.cell (World.block_lt_of_cell? w _ h2)).trans h2
     have HKX : Hid (∀ V, Below wr.heap.size wr V → V.heap[X]? = some (.cells (celC x) 35 (0, 0))) := fun V hb => (hb.block _ (Array.getElem?_eq_some_iff.1 hx).1).trans hx
     have HKF : Hid (∀ V, Below wr.heap.size wr V → V.heap[F]? = some (.cells (celC f) 35 (0, 0))) := fun V hb => (hb.block _ (Array.getElem?_eq_some_iff.1 hf).1).trans hf
     have HXV := Lib.hid hxv
     have HFV := Lib.hid hfv
     have HAL := Lib.hid hal
     have HBR := Lib.hid hbw
     have HW : Hid (Below wr.heap.size wr wr) := Below.refl _ _
     clear hal hxv hfv hx hf hbw hz hjl HI HCS
     cases z
     case true =>
      by_cases hov : 16383 < al + al
      ·have HOV := Lib.hid hov
       clear hov
       go_upto_region 18 with (first
        | (refine ld_if rfl 35 _ rfl F rfl 35 _ _ _ (HKF.out _ HW.out) Tryz.underlying35 rfl val_size ?_)
        | (refine ld_if rfl 35 _ rfl X rfl 35 _ _ _ (HKX.out _ HW.out) Tryz.underlying35 rfl val_size ?_)
        | (refine st_agg rfl 35 _ _ rfl wr.heap.size (celC f) rfl rfl 35 #[.int .i64 0, .int .i64 0, .string ⟨#[]⟩, .pointer none] (heap_alloc_last _ _) val_size rfl (celC_one f) ?_; intro w2 h2 k2; have HG := Lib.hid h2; replace HW : Hid (Below wr.heap.size wr w2) := (Below.newly' _ _).trans (k2.below (Nat.le_refl _)); clear k2)
        | (refine st_agg rfl 35 _ _ rfl wr.heap.size (celC x) rfl rfl 35 _ HG.out val_size rfl (celC_one x) ?_; intro w3 h3 k3; replace HG := Lib.hid h3; replace HW := Lib.hid (HW.out.trans (k3.below (Nat.le_refl _))); clear h3 k3))
       obtain ⟨G, hG⟩ : ∃ G, G = wr.heap.size := ⟨_, rfl⟩
       have HGN : Hid (X < G ∧ F < G) := by rw [hG]; exact ⟨(Array.getElem?_eq_some_iff.1 (HKX.out wr (Below.refl _ _))).1, (Array.getElem?_eq_some_iff.1 (HKF.out wr (Below.refl _ _))).1⟩
       rw [← hG] at HG ⊢
       have HXV2 := Lib.hid (HXV.out.later HW.out)
       have HFV2 := Lib.hid (HFV.out.later HW.out)
       clear hG
       have HCO : Hid (Calls Tryz.prog 38 #[.agg (celC x), .agg (celC x)] w3 fun r w' => ∃ y, r = .returned (.tuple #[.agg (celC y), .int .i64 8]) ∧ VAt (fun g => g ≠ X) w' nullT y ∧ Below w3.heap.size w3 w') := by
        have h := va_Concat (S := fun g => g ≠ X) w3 (vecN al) (vecN al) x x (vec_val HAL.out) HXV2.out (vec_val HAL.out) HXV2.out
        rw [con_vec, if_pos (by have := HOV.out; omega)] at h
        exact h.mono fun r w' ⟨y, h1, h2, h3⟩ => ⟨y, h1, h2.weak fun g hg => (by
         rcases hg with hg | hg
         ·exact hg
         ·have h4 := HGN.out.1
          have h5 := (Array.getElem?_eq_some_iff.1 HG.out).1
          omega), h3⟩
       go_upto_region 19 with (first
        | (refine ld_if rfl 35 _ rfl X rfl 35 _ _ _ (HKX.out _ HW.out) Tryz.underlying35 rfl val_size ?_)
        | (refine ld_if rfl 35 _ rfl G rfl 35 _ _ _ HG.out Tryz.underlying35 rfl val_size ?_)
        | (go_at_call 38; (with_reducible refine HCO.out.mono ?_); rintro r wc ⟨y, rfl, hy, hb⟩; have HY := Lib.hid hy; replace HW := Lib.hid (HW.out.trans (hb.mono HW.out.size)); clear hy hb)
        | (refine st_agg rfl 35 _ _ rfl wc.heap.size (celC y) rfl rfl 35 #[.int .i64 0, .int .i64 0, .string ⟨#[]⟩, .pointer none] (heap_alloc_last _ _) val_size rfl (celC_one y) ?_; intro w6 h6 k6))
       have hb6 : Below wc.heap.size wc w6 := (Below.newly' _ _).trans (k6.below (Nat.le_refl _))
       have HH := Lib.hid h6
       have HY6 := Lib.hid (HY.out.later hb6)
       replace HW := Lib.hid (HW.out.trans (hb6.mono HW.out.size))
       obtain ⟨H, hH⟩ : ∃ H, H = wc.heap.size := ⟨_, rfl⟩
       rw [← hH] at HH ⊢
       clear h6 k6 hb6 hH HY HCO HG HXV2 HFV2
       have hal : (al : Int) ≤ 16383 := by have := HAL.out; omega
       have hov : (16383 : Int) < (al : Int) + (al : Int) := by have := HOV.out; omega
       have HKN : Hid (Calls Tryz.prog 37 #[.agg (celC y)] w6 fun r w' => r = .returned (.int .i64 0) ∧ Below w6.heap.size w6 w') := by
        have h := va_Kind w6 y
        have hyk : y.k = 0 := HY6.out.k
        rw [hyk] at h
        exact h
       go_wp2_with (first
        | (refine ld_if rfl 35 _ rfl H rfl 35 _ _ _ HH.out Tryz.underlying35 rfl val_size ?_)
        | (go_at_call 37; (with_reducible refine HKN.out.mono ?_); rintro r w7 ⟨rfl, hb⟩; replace HW := Lib.hid (HW.out.trans (hb.mono HW.out.size)); clear hb))
       go_roundw
       case rel => exact ⟨j + 1, al, by omega, by go_num, rfl, ⟨_, rfl⟩, ⟨_, rfl⟩, ⟨_, rfl⟩, ⟨_, rfl⟩, ⟨_, rfl⟩, HAL.out, ⟨x, f, HXV.out.later HW.out, HFV.out.later HW.out, HKX.out _ HW.out, HKF.out _ HW.out⟩, HBR.out.trans (HW.out.mono HBR.out.size)⟩
       case measure => simp [intOf]; omega
      ·have HOV := Lib.hid hov
       clear hov
       go_upto_region 18 with (first
        | (refine ld_if rfl 35 _ rfl F rfl 35 _ _ _ (HKF.out _ HW.out) Tryz.underlying35 rfl val_size ?_)
        | (refine ld_if rfl 35 _ rfl X rfl 35 _ _ _ (HKX.out _ HW.out) Tryz.underlying35 rfl val_size ?_)
        | (refine st_agg rfl 35 _ _ rfl wr.heap.size (celC f) rfl rfl 35 #[.int .i64 0, .int .i64 0, .string ⟨#[]⟩, .pointer none] (heap_alloc_last _ _) val_size rfl (celC_one f) ?_; intro w2 h2 k2; have HG := Lib.hid h2; replace HW : Hid (Below wr.heap.size wr w2) := (Below.newly' _ _).trans (k2.below (Nat.le_refl _)); clear k2)
        | (refine st_agg rfl 35 _ _ rfl wr.heap.size (celC x) rfl rfl 35 _ HG.out val_size rfl (celC_one x) ?_; intro w3 h3 k3; replace HG := Lib.hid h3; replace HW := Lib.hid (HW.out.trans (k3.below (Nat.le_refl _))); clear h3 k3))
       obtain ⟨G, hG⟩ : ∃ G, G = wr.heap.size := ⟨_, rfl⟩
       have HGN : Hid (X < G ∧ F < G) := by rw [hG]; exact ⟨(Array.getElem?_eq_some_iff.1 (HKX.out wr (Below.refl _ _))).1, (Array.getElem?_eq_some_iff.1 (HKF.out wr (Below.refl _ _))).1⟩
       rw [← hG] at HG ⊢
       have HXV2 := Lib.hid (HXV.out.later HW.out)
       have HFV2 := Lib.hid (HFV.out.later HW.out)
       clear hG
       have HCO : Hid (Calls Tryz.prog 38 #[.agg (celC x), .agg (celC x)] w3 fun r w' => ∃ y, r = .returned (.tuple #[.agg (celC y), .int .i64 0]) ∧ VAt (fun g => g ≠ X) w' (vecN (al + al)) y ∧ Below w3.heap.size w3 w') := by
        have h := va_Concat (S := fun g => g ≠ X) w3 (vecN al) (vecN al) x x (vec_val HAL.out) HXV2.out (vec_val HAL.out) HXV2.out
        rw [con_vec, if_neg (by have := HOV.out; omega)] at h
        exact h.mono fun r w' ⟨y, h1, h2, h3⟩ => ⟨y, h1, h2.weak fun g hg => (by
         rcases hg with hg | hg
         ·exact hg
         ·have h4 := HGN.out.1
          have h5 := (Array.getElem?_eq_some_iff.1 HG.out).1
          omega), h3⟩
       go_upto_region 19 with (first
        | (refine ld_if rfl 35 _ rfl X rfl 35 _ _ _ (HKX.out _ HW.out) Tryz.underlying35 rfl val_size ?_)
        | (refine ld_if rfl 35 _ rfl G rfl 35 _ _ _ HG.out Tryz.underlying35 rfl val_size ?_)
        | (go_at_call 38; (with_reducible refine HCO.out.mono ?_); rintro r wc ⟨y, rfl, hy, hb⟩; have HY := Lib.hid hy; replace HW := Lib.hid (HW.out.trans (hb.mono HW.out.size)); clear hy hb)
        | (refine st_agg rfl 35 _ _ rfl wc.heap.size (celC y) rfl rfl 35 #[.int .i64 0, .int .i64 0, .string ⟨#[]⟩, .pointer none] (heap_alloc_last _ _) val_size rfl (celC_one y) ?_; intro w6 h6 k6))
       have hb6 : Below wc.heap.size wc w6 := (Below.newly' _ _).trans (k6.below (Nat.le_refl _))
       have HH := Lib.hid h6
       have HY6 := Lib.hid (HY.out.later hb6)
       replace HW := Lib.hid (HW.out.trans (hb6.mono HW.out.size))
       obtain ⟨H, hH⟩ : ∃ H, H = wc.heap.size := ⟨_, rfl⟩
       rw [← hH] at HH ⊢
       clear h6 k6 hb6 hH HY HCO HG HXV2 HFV2
       have hal : (al : Int) ≤ 16383 := by have := HAL.out; omega
       have hov : ¬ (16383 : Int) < (al : Int) + (al : Int) := by have := HOV.out; omega
       have HKN : Hid (Calls Tryz.prog 30 #[.agg (celC y)] w6 fun r w' => r = .returned (.int .i64 ((al : Int) + (al : Int) + 1)) ∧ Below w6.heap.size w6 w') := by
        have h := va_Nodes w6 _ y (vec_val (by have := HOV.out; omega)) HY6.out
        rw [vec_nod] at h
        exact h
       have HKL : Hid (∀ W, Below w6.heap.size w6 W → Calls Tryz.prog 32 #[.agg (celC y)] W fun r w' => r = .returned (.int .i64 ((al : Int) + (al : Int))) ∧ Below W.heap.size W w') := fun W hb => by
        have h := va_Len W _ y (vec_val (by have := HOV.out; omega)) (HY6.out.later hb)
        rw [vec_len] at h
        exact h
       go_wp2_with (first
        | (refine ld_if rfl 35 _ rfl H rfl 35 _ _ _ HH.out Tryz.underlying35 rfl val_size ?_)
        | (go_at_call 30; (with_reducible refine HKN.out.mono ?_); rintro r w7 ⟨rfl, hb⟩; have HL7 := Lib.hid hb; have HH7 := Lib.hid ((hb.block _ (Array.getElem?_eq_some_iff.1 HH.out).1).trans HH.out); clear hb)
        | (refine ld_if rfl 35 _ rfl H rfl 35 _ _ _ HH7.out Tryz.underlying35 rfl val_size ?_)
        | (go_at_call 32; (with_reducible refine (HKL.out _ HL7.out).mono ?_); rintro r w8 ⟨rfl, hb⟩; have HH8 := Lib.hid ((hb.block _ (Array.getElem?_eq_some_iff.1 HH7.out).1).trans HH7.out); replace HL7 := Lib.hid (HL7.out.trans (hb.mono HL7.out.size)); have HX8 := Lib.hid (HKX.out _ (HW.out.trans (HL7.out.mono HW.out.size))); clear hb)
        | (refine ld_if rfl 35 _ rfl H rfl 35 _ _ _ HH8.out Tryz.underlying35 rfl val_size ?_)
        | (refine st_agg rfl 35 _ _ rfl X (celC y) rfl rfl 35 _ HX8.out val_size rfl (celC_one _) ?_; intro w9 h9 k9))
       have hbw := HW.out.trans (HL7.out.mono HW.out.size)
       go_roundw
       case rel => exact ⟨j + 1, al + al, by omega, by go_num, by push_cast; rfl, ⟨_, rfl⟩, ⟨_, rfl⟩, ⟨_, rfl⟩, ⟨_, rfl⟩, ⟨_, rfl⟩, (by have := HOV.out; omega), ⟨y, f, (HY6.out.later HL7.out).kq (Kq.only k9 fun h => h rfl), (HFV.out.later hbw).kq (Kq.only k9 fun h => h rfl), h9, k9.other (HKF.out _ hbw) (by have := HXF.out; omega)⟩, (HBR.out.trans (hbw.mono HBR.out.size)).trans (k9.below HXB.out)⟩
       case measure => simp [intOf]; omega
     case false =>
      by_cases hov : 16383 < al + N
      ·have HOV := Lib.hid hov
       clear hov
       go_upto_region 18 with (first
        | (refine ld_if rfl 35 _ rfl F rfl 35 _ _ _ (HKF.out _ HW.out) Tryz.underlying35 rfl val_size ?_)
        | (refine ld_if rfl 35 _ rfl X rfl 35 _ _ _ (HKX.out _ HW.out) Tryz.underlying35 rfl val_size ?_)
        | (refine st_agg rfl 35 _ _ rfl wr.heap.size (celC f) rfl rfl 35 #[.int .i64 0, .int .i64 0, .string ⟨#[]⟩, .pointer none] (heap_alloc_last _ _) val_size rfl (celC_one f) ?_; intro w2 h2 k2; have HG := Lib.hid h2; replace HW : Hid (Below wr.heap.size wr w2) := (Below.newly' _ _).trans (k2.below (Nat.le_refl _)); clear k2)
        | (refine st_agg rfl 35 _ _ rfl wr.heap.size (celC x) rfl rfl 35 _ HG.out val_size rfl (celC_one x) ?_; intro w3 h3 k3; replace HG := Lib.hid h3; replace HW := Lib.hid (HW.out.trans (k3.below (Nat.le_refl _))); clear h3 k3))
       obtain ⟨G, hG⟩ : ∃ G, G = wr.heap.size := ⟨_, rfl⟩
       have HGN : Hid (X < G ∧ F < G) := by rw [hG]; exact ⟨(Array.getElem?_eq_some_iff.1 (HKX.out wr (Below.refl _ _))).1, (Array.getElem?_eq_some_iff.1 (HKF.out wr (Below.refl _ _))).1⟩
       rw [← hG] at HG ⊢
       have HXV2 := Lib.hid (HXV.out.later HW.out)
       have HFV2 := Lib.hid (HFV.out.later HW.out)
       clear hG
       have HCO : Hid (Calls Tryz.prog 38 #[.agg (celC x), .agg (celC f)] w2 fun r w' => ∃ y, r = .returned (.tuple #[.agg (celC y), .int .i64 8]) ∧ VAt (fun g => g ≠ X) w' nullT y ∧ Below w2.heap.size w2 w') := by
        have h := va_Concat (S := fun g => g ≠ X) w2 (vecN al) (vecN N) x f (vec_val HAL.out) HXV2.out (vec_val (by have := HN.out; omega)) HFV2.out
        rw [con_vec, if_pos (by have := HOV.out; omega)] at h
        exact h.mono fun r w' ⟨y, h1, h2, h3⟩ => ⟨y, h1, h2.weak fun g hg => (by
         rcases hg with hg | hg
         ·exact hg
         ·have h4 := HGN.out.1
          have h5 := (Array.getElem?_eq_some_iff.1 HG.out).1
          omega), h3⟩
       go_upto_region 19 with (first
        | (refine ld_if rfl 35 _ rfl X rfl 35 _ _ _ (HKX.out _ HW.out) Tryz.underlying35 rfl val_size ?_)
        | (refine ld_if rfl 35 _ rfl G rfl 35 _ _ _ HG.out Tryz.underlying35 rfl val_size ?_)
        | (go_at_call 38; (with_reducible refine HCO.out.mono ?_); rintro r wc ⟨y, rfl, hy, hb⟩; have HY := Lib.hid hy; replace HW := Lib.hid (HW.out.trans (hb.mono HW.out.size)); clear hy hb)
        | (refine st_agg rfl 35 _ _ rfl wc.heap.size (celC y) rfl rfl 35 #[.int .i64 0, .int .i64 0, .string ⟨#[]⟩, .pointer none] (heap_alloc_last _ _) val_size rfl (celC_one y) ?_; intro w6 h6 k6))
       have hb6 : Below wc.heap.size wc w6 := (Below.newly' _ _).trans (k6.below (Nat.le_refl _))
       have HH := Lib.hid h6
       have HY6 := Lib.hid (HY.out.later hb6)
       replace HW := Lib.hid (HW.out.trans (hb6.mono HW.out.size))
       obtain ⟨H, hH⟩ : ∃ H, H = wc.heap.size := ⟨_, rfl⟩
       rw [← hH] at HH ⊢
       clear h6 k6 hb6 hH HY HCO HG HXV2 HFV2
       have hal : (al : Int) ≤ 16383 := by have := HAL.out; omega
       have hov : (16383 : Int) < (al : Int) + (N : Int) := by have := HOV.out; omega
       have HKN : Hid (Calls Tryz.prog 37 #[.agg (celC y)] w6 fun r w' => r = .returned (.int .i64 0) ∧ Below w6.heap.size w6 w') := by
        have h := va_Kind w6 y
        have hyk : y.k = 0 := HY6.out.k
        rw [hyk] at h
        exact h
       go_wp2_with (first
        | (refine ld_if rfl 35 _ rfl H rfl 35 _ _ _ HH.out Tryz.underlying35 rfl val_size ?_)
        | (go_at_call 37; (with_reducible refine HKN.out.mono ?_); rintro r w7 ⟨rfl, hb⟩; replace HW := Lib.hid (HW.out.trans (hb.mono HW.out.size)); clear hb))
       go_roundw
       case rel => exact ⟨j + 1, al, by omega, by go_num, rfl, ⟨_, rfl⟩, ⟨_, rfl⟩, ⟨_, rfl⟩, ⟨_, rfl⟩, ⟨_, rfl⟩, HAL.out, ⟨x, f, HXV.out.later HW.out, HFV.out.later HW.out, HKX.out _ HW.out, HKF.out _ HW.out⟩, HBR.out.trans (HW.out.mono HBR.out.size)⟩
       case measure => simp [intOf]; omega
      ·have HOV := Lib.hid hov
       clear hov
       go_upto_region 18 with (first
        | (refine ld_if rfl 35 _ rfl F rfl 35 _ _ _ (HKF.out _ HW.out) Tryz.underlying35 rfl val_size ?_)
        | (refine ld_if rfl 35 _ rfl X rfl 35 _ _ _ (HKX.out _ HW.out) Tryz.underlying35 rfl val_size ?_)
        | (refine st_agg rfl 35 _ _ rfl wr.heap.size (celC f) rfl rfl 35 #[.int .i64 0, .int .i64 0, .string ⟨#[]⟩, .pointer none] (heap_alloc_last _ _) val_size rfl (celC_one f) ?_; intro w2 h2 k2; have HG := Lib.hid h2; replace HW : Hid (Below wr.heap.size wr w2) := (Below.newly' _ _).trans (k2.below (Nat.le_refl _)); clear k2)
        | (refine st_agg rfl 35 _ _ rfl wr.heap.size (celC x) rfl rfl 35 _ HG.out val_size rfl (celC_one x) ?_; intro w3 h3 k3; replace HG := Lib.hid h3; replace HW := Lib.hid (HW.out.trans (k3.below (Nat.le_refl _))); clear h3 k3))
       obtain ⟨G, hG⟩ : ∃ G, G = wr.heap.size := ⟨_, rfl⟩
       have HGN : Hid (X < G ∧ F < G) := by rw [hG]; exact ⟨(Array.getElem?_eq_some_iff.1 (HKX.out wr (Below.refl _ _))).1, (Array.getElem?_eq_some_iff.1 (HKF.out wr (Below.refl _ _))).1⟩
       rw [← hG] at HG ⊢
       have HXV2 := Lib.hid (HXV.out.later HW.out)
       have HFV2 := Lib.hid (HFV.out.later HW.out)
       clear hG
       have HCO : Hid (Calls Tryz.prog 38 #[.agg (celC x), .agg (celC f)] w2 fun r w' => ∃ y, r = .returned (.tuple #[.agg (celC y), .int .i64 0]) ∧ VAt (fun g => g ≠ X) w' (vecN (al + N)) y ∧ Below w2.heap.size w2 w') := by
        have h := va_Concat (S := fun g => g ≠ X) w2 (vecN al) (vecN N) x f (vec_val HAL.out) HXV2.out (vec_val (by have := HN.out; omega)) HFV2.out
        rw [con_vec, if_neg (by have := HOV.out; omega)] at h
        exact h.mono fun r w' ⟨y, h1, h2, h3⟩ => ⟨y, h1, h2.weak fun g hg => (by
         rcases hg with hg | hg
         ·exact hg
         ·have h4 := HGN.out.1
          have h5 := (Array.getElem?_eq_some_iff.1 HG.out).1
          omega), h3⟩
       go_upto_region 19 with (first
        | (refine ld_if rfl 35 _ rfl X rfl 35 _ _ _ (HKX.out _ HW.out) Tryz.underlying35 rfl val_size ?_)
        | (refine ld_if rfl 35 _ rfl G rfl 35 _ _ _ HG.out Tryz.underlying35 rfl val_size ?_)
        | (go_at_call 38; (with_reducible refine HCO.out.mono ?_); rintro r wc ⟨y, rfl, hy, hb⟩; have HY := Lib.hid hy; replace HW := Lib.hid (HW.out.trans (hb.mono HW.out.size)); clear hy hb)
        | (refine st_agg rfl 35 _ _ rfl wc.heap.size (celC y) rfl rfl 35 #[.int .i64 0, .int .i64 0, .string ⟨#[]⟩, .pointer none] (heap_alloc_last _ _) val_size rfl (celC_one y) ?_; intro w6 h6 k6))
       have hb6 : Below wc.heap.size wc w6 := (Below.newly' _ _).trans (k6.below (Nat.le_refl _))
       have HH := Lib.hid h6
       have HY6 := Lib.hid (HY.out.later hb6)
       replace HW := Lib.hid (HW.out.trans (hb6.mono HW.out.size))
       obtain ⟨H, hH⟩ : ∃ H, H = wc.heap.size := ⟨_, rfl⟩
       rw [← hH] at HH ⊢
       clear h6 k6 hb6 hH HY HCO HG HXV2 HFV2
       have hal : (al : Int) ≤ 16383 := by have := HAL.out; omega
       have hov : ¬ (16383 : Int) < (al : Int) + (N : Int) := by have := HOV.out; omega
       have HKN : Hid (Calls Tryz.prog 30 #[.agg (celC y)] w6 fun r w' => r = .returned (.int .i64 ((al : Int) + (N : Int) + 1)) ∧ Below w6.heap.size w6 w') := by
        have h := va_Nodes w6 _ y (vec_val (by have := HOV.out; omega)) HY6.out
        rw [vec_nod] at h
        exact h
       have HKL : Hid (∀ W, Below w6.heap.size w6 W → Calls Tryz.prog 32 #[.agg (celC y)] W fun r w' => r = .returned (.int .i64 ((al : Int) + (N : Int))) ∧ Below W.heap.size W w') := fun W hb => by
        have h := va_Len W _ y (vec_val (by have := HOV.out; omega)) (HY6.out.later hb)
        rw [vec_len] at h
        exact h
       go_wp2_with (first
        | (refine ld_if rfl 35 _ rfl H rfl 35 _ _ _ HH.out Tryz.underlying35 rfl val_size ?_)
        | (go_at_call 30; (with_reducible refine HKN.out.mono ?_); rintro r w7 ⟨rfl, hb⟩; have HL7 := Lib.hid hb; have HH7 := Lib.hid ((hb.block _ (Array.getElem?_eq_some_iff.1 HH.out).1).trans HH.out); clear hb)
        | (refine ld_if rfl 35 _ rfl H rfl 35 _ _ _ HH7.out Tryz.underlying35 rfl val_size ?_)
        | (go_at_call 32; (with_reducible refine (HKL.out _ HL7.out).mono ?_); rintro r w8 ⟨rfl, hb⟩; have HH8 := Lib.hid ((hb.block _ (Array.getElem?_eq_some_iff.1 HH7.out).1).trans HH7.out); replace HL7 := Lib.hid (HL7.out.trans (hb.mono HL7.out.size)); have HX8 := Lib.hid (HKX.out _ (HW.out.trans (HL7.out.mono HW.out.size))); clear hb)
        | (refine ld_if rfl 35 _ rfl H rfl 35 _ _ _ HH8.out Tryz.underlying35 rfl val_size ?_)
        | (refine st_agg rfl 35 _ _ rfl X (celC y) rfl rfl 35 _ HX8.out val_size rfl (celC_one _) ?_; intro w9 h9 k9))
       have hbw := HW.out.trans (HL7.out.mono HW.out.size)
       go_roundw
       case rel => exact ⟨j + 1, al + N, by omega, by go_num, by push_cast; rfl, ⟨_, rfl⟩, ⟨_, rfl⟩, ⟨_, rfl⟩, ⟨_, rfl⟩, ⟨_, rfl⟩, (by have := HOV.out; omega), ⟨y, f, (HY6.out.later HL7.out).kq (Kq.only k9 fun h => h rfl), (HFV.out.later hbw).kq (Kq.only k9 fun h => h rfl), h9, k9.other (HKF.out _ hbw) (by have := HXF.out; omega)⟩, (HBR.out.trans (hbw.mono HBR.out.size)).trans (k9.below HXB.out)⟩
       case measure => simp [intOf]; omega
    ·have hlt' : ¬ (j : Int) < (lx : Int) := by omega
     have hb := HI.out.2.2
     go_wp2_with fail
     go_ret
     exact ⟨rfl, hb⟩
end Go.Proofs.YtpodmgihlomglaaGreatDoor
