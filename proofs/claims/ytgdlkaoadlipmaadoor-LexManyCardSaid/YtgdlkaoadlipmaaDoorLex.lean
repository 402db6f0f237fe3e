/- Package lex: all tokens of a text. (written by tools/gen13/lexd.py) -/
import Derived.Test.YtgdlkaoadlipmaaDoorLexC
namespace Go.Proofs.YtgdlkaoadlipmaaDoor
open Go.RowKit
set_option maxRecDepth 1000000
set_option linter.unusedSimpArgs false

theorem ErrV.no {W : World} {E : Value} {n : Int} (h : ErrV W E 0 n) : E = .nilIface := by
  rcases h with h | ⟨h, _⟩
  · exact h.2
  · exact absurd rfl h
theorem ErrV.yes {W : World} {E : Value} {c n : Int} (h : ErrV W E c n) (hc : c ≠ 0) : ∃ u x, E = .iface u x := by
  rcases h with h | ⟨_, l, h, _⟩
  · exact absurd h.1 hc
  · obtain ⟨u, x, rfl⟩ := h.iface; exact ⟨u, x, rfl⟩
set_option maxHeartbeats 2000000 in
theorem lx_All (s : ByteArray) (w : World) (hT : T13 w) (hs : s.size ≤ 20000) : Calls Tryd.prog 12 #[.string s] w fun e w' => ∃ v E, e = .returned (.tuple #[v, E]) ∧ TkL 24 w' v (allS s.data.toList).1 ∧ ErrV w' E (allS s.data.toList).2.2 ((allS s.data.toList).2.1 : Nat) ∧ Below w.heap.size w w' := by
  have hll : s.data.toList.length = s.size := len_bytes s
  obtain ⟨L, hL⟩ : ∃ L, L = s.data.toList := ⟨_, rfl⟩
  rw [← hL] at hll ⊢
  have hn := fun p W (hb : Below w.heap.size w W) hp => lx_Next s p W (hT.below hb) hp hs
  rw [← hL] at hn
  obtain ⟨G, hG⟩ : ∃ G, G = allS L := ⟨_, rfl⟩
  have hg0 := hG.trans (all_pre L)
  rw [← hG]
  clear hG hL hT
  obtain ⟨g1, g2, g3⟩ := G
  dsimp only
  have HN := Lib.hid hn
  have HLL := Lib.hid hll
  have HG0 := Lib.hid hg0
  have hs' : (s.size : Int) ≤ 20000 := by omega
  clear hn hll hg0
  go_enter Tryd.func12, Tryd.ntmps12
  go_wp2_with fail
  go_loopw [4, 5] (fun v i W => ∃ (ts : List Tok) (p : Nat), p ≤ L.length ∧ i = .int .i64 (p : Int) ∧ RowsOwn w.heap.size 24 5 v (ts.map tokC) W ∧ (g1, g2, g3) = preT ts (lexS L (L.length + 1) p) ∧ ts.length ≤ p ∧ Below w.heap.size w W) (fun _ i _ => L.length - (intOf i).toNat)
  case atStart => exact ⟨[], 0, Nat.zero_le _, rfl, rows_nil13 (Nat.le_refl _), HG0.out, Nat.le_refl _, Below.refl _ _⟩
  case round =>
    obtain ⟨ts, p, hp, rfl, hro, hg, hts, hw⟩ := hrel
    have HR := Lib.hid hro
    have HW := Lib.hid hw
    have hst := preT_step L ts p hp
    have hk := next_k L p hp
    have hnx := fun W hb => HN.out p W hb (by have := HLL.out; omega)
    obtain ⟨q, hq⟩ : ∃ q, q = nextS L p := ⟨_, rfl⟩
    rw [← hq] at hst hk hnx
    obtain ⟨⟨tk, ta, te, tn, tt⟩, qn, qe⟩ := q
    dsimp only at hst hk
    have hny : ∀ W, Below w.heap.size w W → Calls Tryd.prog 9 #[.string s, .int .i64 (p : Int)] W fun e w' => ∃ E, e = .returned (.tuple #[.agg (tokC ⟨tk, ta, te, tn, tt⟩), E]) ∧ ErrV w' E qe (qn : Nat) ∧ Below W.heap.size W w' := hnx
    have HST := Lib.hid (hg.trans hst)
    have HK := Lib.hid hk
    have HP := Lib.hid (And.intro hp hts)
    clear hro hw hst hk hnx hq hg hts hp HN
    by_cases c1 : qe = 0
    case neg =>
      have HNX : Hid (∀ W, Below w.heap.size w W → Calls Tryd.prog 9 #[.string s, .int .i64 (p : Int)] W fun e w' => ∃ u x, e = .returned (.tuple #[.agg (tokC ⟨tk, ta, te, tn, tt⟩), .iface u x]) ∧ ErrV w' (.iface u x) qe (qn : Nat) ∧ Below W.heap.size W w') := fun W hb =>
        (hny W hb).mono fun _ _ ⟨E, h1, h2, h3⟩ => by obtain ⟨u, x, rfl⟩ := h2.yes c1; exact ⟨u, x, h1, h2, h3⟩
      have HE : Hid ((g1, g2, g3) = ([], qn, qe)) := HST.out.trans (if_pos c1)
      clear c1 HST HK hny
      go_wp2_with (first
        | (go_at_call 9; refine (HNX.out _ HW.out).mono ?_; rintro r V ⟨u, x, rfl, he, hb⟩; have HR1 := Lib.hid (HR.out.later hb); have HW1 := Lib.hid (HW.out.trans (hb.mono HW.out.size)); have HER := Lib.hid he; clear hb he)
        | (refine st_agg rfl 24 _ _ rfl V.heap.size (tokC ⟨tk, ta, te, tn, tt⟩) rfl rfl 24 (tokC ⟨0, 0, 0, 0, []⟩) (heap_alloc_last _ _) tok_size rfl (by simp [Value.oneCell', tokC]) ?_; intro w8 h8 k8; have hb8 : Below V.heap.size V w8 := (Below.newly' _ _).trans (k8.below (Nat.le_refl _)); have HR2 := Lib.hid (HR1.out.later hb8); have HW2 := Lib.hid (HW1.out.trans (hb8.mono HW1.out.size)); replace HER := Lib.hid (HER.out.later hb8); have H8 := Lib.hid h8; have c0 := cell_in h8 (j := 0) (v := .int .i64 tk) rfl; have c2 := cell_in h8 (j := 2) (v := .int .i64 (te : Int)) rfl; clear hb8 k8 h8))
      go_ret2
      have he := HE.out
      simp only [Prod.mk.injEq] at he
      obtain ⟨rfl, rfl, rfl⟩ := he
      exact ⟨_, _, rfl, .nil _ _, HER.out, HW2.out⟩
    subst c1
    have HNX : Hid (∀ W, Below w.heap.size w W → Calls Tryd.prog 9 #[.string s, .int .i64 (p : Int)] W fun e w' => e = .returned (.tuple #[.agg (tokC ⟨tk, ta, te, tn, tt⟩), .nilIface]) ∧ Below W.heap.size W w') := fun W hb =>
      (hny W hb).mono fun _ _ ⟨E, h1, h2, h3⟩ => by obtain rfl := h2.no; exact ⟨h1, h3⟩
    clear hny
    obtain ⟨k1, k2, k3, -, k5, k6⟩ := HK.out rfl
    by_cases c2 : tk = 0
    case pos =>
      have htk : (tk == 0) = true := beq_iff_eq.2 c2
      have HE : Hid ((g1, g2, g3) = (ts, 0, 0)) := HST.out.trans ((if_neg (fun h => h rfl)).trans (if_pos c2))
      clear HST HK k1 k2 k3 k5 k6 c2
      go_wp2_with (first
        | (go_at_call 9; refine (HNX.out _ HW.out).mono ?_; rintro r V ⟨rfl, hb⟩; have HR1 := Lib.hid (HR.out.later hb); have HW1 := Lib.hid (HW.out.trans (hb.mono HW.out.size)); clear hb)
        | (refine st_agg rfl 24 _ _ rfl V.heap.size (tokC ⟨tk, ta, te, tn, tt⟩) rfl rfl 24 (tokC ⟨0, 0, 0, 0, []⟩) (heap_alloc_last _ _) tok_size rfl (by simp [Value.oneCell', tokC]) ?_; intro w8 h8 k8; have hb8 : Below V.heap.size V w8 := (Below.newly' _ _).trans (k8.below (Nat.le_refl _)); have HR2 := Lib.hid (HR1.out.later hb8); have HW2 := Lib.hid (HW1.out.trans (hb8.mono HW1.out.size)); have H8 := Lib.hid h8; have c0 := cell_in h8 (j := 0) (v := .int .i64 tk) rfl; have c2 := cell_in h8 (j := 2) (v := .int .i64 (te : Int)) rfl; clear hb8 k8 h8))
      go_ret2
      have he := HE.out
      simp only [Prod.mk.injEq] at he
      obtain ⟨rfl, rfl, rfl⟩ := he
      exact ⟨_, _, rfl, HR2.out.tkl, errV_ok _ _, HW2.out⟩
    have htk : (tk == 0) = false := beq_eq_false_iff_ne.2 c2
    have HE : Hid ((g1, g2, g3) = preT (ts ++ [⟨tk, ta, te, tn, tt⟩]) (lexS L (L.length + 1) te)) := HST.out.trans ((if_neg (fun h => h rfl)).trans (if_neg c2))
    have HLEN : Hid ((ts.map tokC).length ≤ 100000) := by
      show _ ≤ _
      rw [List.length_map]
      have h1 := HP.out; have h2 := HLL.out; omega
    have HKE : Hid (p < te ∧ te ≤ L.length) := ⟨by have := k6 c2; omega, k3⟩
    clear HST HK k1 k2 k3 k5 k6 c2
    go_wp2_with (first
      | (go_at_call 9; refine (HNX.out _ HW.out).mono ?_; rintro r V ⟨rfl, hb⟩; have HR1 := Lib.hid (HR.out.later hb); have HW1 := Lib.hid (HW.out.trans (hb.mono HW.out.size)); clear hb)
      | (refine st_agg rfl 24 _ _ rfl V.heap.size (tokC ⟨tk, ta, te, tn, tt⟩) rfl rfl 24 (tokC ⟨0, 0, 0, 0, []⟩) (heap_alloc_last _ _) tok_size rfl (by simp [Value.oneCell', tokC]) ?_; intro w8 h8 k8; have hb8 : Below V.heap.size V w8 := (Below.newly' _ _).trans (k8.below (Nat.le_refl _)); have HR2 := Lib.hid (HR1.out.later hb8); have HW2 := Lib.hid (HW1.out.trans (hb8.mono HW1.out.size)); have H8 := Lib.hid h8; have c0 := cell_in h8 (j := 0) (v := .int .i64 tk) rfl; have c2 := cell_in h8 (j := 2) (v := .int .i64 (te : Int)) rfl; clear hb8 k8 h8)
      | (refine ld_if rfl 24 _ rfl V.heap.size rfl 24 _ _ _ H8.out Tryd.underlying24 rfl tok_size ?_)
      | (refine bs_list rfl 34 24 _ rfl (tokC ⟨tk, ta, te, tn, tt⟩) 5 (.agg (tokC ⟨0, 0, 0, 0, []⟩)) rfl rfl (by decide) (by decide) Tryd.underlying34 rfl ?_; intro w6 h6 hb6 hs6; have HR6 := Lib.hid (HR2.out.later hb6); have HW6 := Lib.hid (HW2.out.trans (hb6.mono HW2.out.size)); have HG6 := Lib.hid h6; have H86 := Lib.hid ((hb6.block _ (Array.getElem?_eq_some_iff.1 H8.out).1).trans H8.out); clear h6 hb6 hs6)
      | (refine rows_list rfl (z := .agg (tokC ⟨0, 0, 0, 0, []⟩)) (by_ := 48) 34 24 _ _ rfl rfl HR6.out _ rfl HG6.out rfl (tokC_one _) Tryd.underlying34 rfl rfl (by decide) HLEN.out (by decide) ?_; intro v7 w7 hr7 hg7; have HW7 := Lib.hid (HW6.out.trans (HR6.out.below hg7 (Nat.le_refl _) HW6.out.size)); have HR7 := Lib.hid hr7; have c27 := cell_in ((hg7.block V.heap.size (Array.getElem?_eq_some_iff.1 H86.out).1 (fun e => Nat.lt_irrefl _ (rows_lt13 HR1.out _ e.symm))).trans H86.out) (j := 2) (v := .int .i64 (te : Int)) rfl; clear hr7 hg7))
    go_roundw
    case rel =>
      refine ⟨ts ++ [⟨tk, ta, te, tn, tt⟩], te, HKE.out.2, rfl, ?_, HE.out, by rw [List.length_append]; have h1 := HP.out; have h2 := HKE.out; simp only [List.length_cons, List.length_nil]; omega, HW7.out⟩
      rw [List.map_append]; exact HR7.out
    case measure => have h1 := HKE.out; simp [intOf]; omega
/-- A text that is too long. -/
theorem lx_All_many (s : ByteArray) (w : World) (hs : 1048576 < s.size) : Calls Tryd.prog 12 #[.string s] w fun e w' => ∃ v E, e = .returned (.tuple #[v, E]) ∧ TkL 24 w' v [] ∧ ErrV w' E 14 0 ∧ Below w.heap.size w w' := by
  have HF := Lib.hid (fun W => lx_fault 14 0 W (by omega) (by omega))
  have hs' : (1048576 : Int) < s.size := by omega
  clear hs
  go_enter Tryd.func12, Tryd.ntmps12
  go_wp2_with (go_at_call 18; refine (HF.out _).mono ?_; rintro r V ⟨E, rfl, he, hb⟩; have HB := Lib.hid hb; have HER := Lib.hid he; clear hb he)
  go_ret2
  exact ⟨_, _, rfl, .nil _ _, HER.out.v, HB.out⟩
/-- A text of blanks alone. -/
theorem lx_All_blank (s : ByteArray) (w : World) (hs : s.size ≤ 1048576) (hb : ∀ i (h : i < s.size), blkS s[i] = true) : Calls Tryd.prog 12 #[.string s] w fun e w' => ∃ v, e = .returned (.tuple #[v, .nilIface]) ∧ TkL 24 w' v [] ∧ Below w.heap.size w w' := by
  have HNX : Hid (∀ W, Calls Tryd.prog 9 #[.string s, .int .i64 0] W fun e w' => e = .returned (.tuple #[.agg (tokC ⟨0, s.size, s.size, 0, []⟩), .nilIface]) ∧ Below W.heap.size W w') := fun W => lx_Next_blank s W (by omega) hb
  have hs' : (s.size : Int) ≤ 1048576 := by omega
  clear hb
  go_enter Tryd.func12, Tryd.ntmps12
  go_wp2_with fail
  refine wp_loop_rounds 1 ?_
  rw [rounds_succ]
  go_wp2_with (first
    | (go_at_call 9; refine (HNX.out _).mono ?_; rintro r V ⟨rfl, hb⟩; have HW := Lib.hid hb; clear hb)
    | (refine st_agg rfl 24 _ _ rfl V.heap.size (tokC ⟨0, s.size, s.size, 0, []⟩) rfl rfl 24 (tokC ⟨0, 0, 0, 0, []⟩) (heap_alloc_last _ _) tok_size rfl (by simp [Value.oneCell', tokC]) ?_; intro w8 h8 k8; have hb8 : Below V.heap.size V w8 := (Below.newly' _ _).trans (k8.below (Nat.le_refl _)); have HW2 := Lib.hid (HW.out.trans (hb8.mono HW.out.size)); have c0 := cell_in h8 (j := 0) (v := .int .i64 0) rfl; clear hb8 k8 h8))
  go_ret2
  exact ⟨_, rfl, .nil _ _, HW2.out⟩
end Go.Proofs.YtgdlkaoadlipmaaDoor
