/- Law LexNext. (written by tools/gen13/law13.py) -/
import Derived.Test.YtgdlkaoadlipmaaDoorLaw13L
import Derived.Handy
import Derived.Deep.Cut
namespace Go.Proofs.YtgdlkaoadlipmaaDoor
open Go.RowKit
set_option maxRecDepth 1000000
set_option linter.unusedSimpArgs false

theorem eq_tok (c : Tok) (w : World) : (binOp .eql 24 (.agg (tokC c)) (.agg (tokC c))).run Tryd.prog w = .ok (.bool true) w := by
  have hu : Tryd.prog.underlying 24 = some (.struct (Tryd.prog.fieldsOf 24)) := by kernel_rfl
  have hp : Tryd.prog.stoodInHeld 24 = false := by kernel_rfl
  rw [run_eql_struct, run_equalIn_agg w 9999 _ _ _ hu hp]
  simp [Program.fieldsOf, Tryd.underlying24, Op.eqFields, tokC, go_sem]
set_option maxHeartbeats 2000000 in
theorem rf_Next_out (s : ByteArray) (p : Int) (w : World) (hp : p < 0 ∨ (s.size : Int) < p) (hs : s.size ≤ 10000) : Calls Tryd.prog 10 #[.string s, .int .i64 p] w fun e w' => e = .returned (.tuple #[.agg (tokC ⟨0, 0, 0, 0, []⟩), .int .i64 0, .int .i64 1]) ∧ Below w.heap.size w w' := by
  rcases hp with hp | hp
  · have hd0 : decide (p < 0) = true := decide_eq_true hp
    go_enter Tryd.func10, Tryd.ntmps10
    go_wp2_with (first
      | (refine st_agg rfl 24 _ _ rfl w.heap.size (tokC ⟨0, 0, 0, 0, []⟩) rfl rfl 24 (tokC ⟨0, 0, 0, 0, []⟩) (heap_alloc_last _ _) tok_size rfl (by simp [Value.oneCell', tokC]) ?_; intro w8 h8 k8))
    exact bodyPost_ret (results_cell_row2 rfl _ _ w.heap.size 24 _ (0, 0) _ rfl h8 Tryd.underlying24 rfl tok_size) rfl ⟨rfl, (Below.newly' _ _).trans (k8.below (Nat.le_refl _))⟩
  · have hd0 : decide (p < 0) = false := decide_eq_false (by omega)
    have hd1 : decide ((s.size : Int) < p) = true := decide_eq_true hp
    go_enter Tryd.func10, Tryd.ntmps10
    go_wp2_with (first
      | (refine st_agg rfl 24 _ _ rfl w.heap.size (tokC ⟨0, 0, 0, 0, []⟩) rfl rfl 24 (tokC ⟨0, 0, 0, 0, []⟩) (heap_alloc_last _ _) tok_size rfl (by simp [Value.oneCell', tokC]) ?_; intro w8 h8 k8))
    exact bodyPost_ret (results_cell_row2 rfl _ _ w.heap.size 24 _ (0, 0) _ rfl h8 Tryd.underlying24 rfl tok_size) rfl ⟨rfl, (Below.newly' _ _).trans (k8.below (Nat.le_refl _))⟩
set_option maxHeartbeats 2000000 in
theorem lexNext_walk (s : ByteArray) (p : Int) (_ : s.size ≤ maxLen) (hp : InR p) (w : World) (hT : T13 w) :
    Calls Tryd.prog 3 #[.string s, .int .i64 p] w fun e w' => e = .returned (.bool true) ∧ Below w.heap.size w w' := by
  have HLV := Lib.hid (fun W (hb : Below w.heap.size w W) => lw_live13 W (hT.below hb))
  have HT := Lib.hid hT
  have HW : Hid (Below w.heap.size w w) := Below.refl _ _
  clear hT
  by_cases hs : s.size ≤ 3000
  case neg =>
    have hs' : (3000 : Int) < s.size := by omega
    clear hs
    go_enter Tryd.func3, Tryd.ntmps3
    go_wp2_with (first
      | (go_at_call 8; (with_reducible refine (HLV.out _ HW.out).mono ?_); rintro r V ⟨rfl, hb⟩; replace HW := Lib.hid (HW.out.trans (hb.mono HW.out.size)); clear hb))
    go_ret
    exact ⟨rfl, HW.out⟩
  have hs' : (s.size : Int) ≤ 3000 := by omega
  have HN : Hid (∃ (x : Tok) (ec en : Int), (∀ W, Below w.heap.size w W → Calls Tryd.prog 9 #[.string s, .int .i64 p] W fun e w' => ∃ E, e = .returned (.tuple #[.agg (tokC x), E]) ∧ ErrV w' E ec en ∧ Below W.heap.size W w') ∧ (∀ W, Below w.heap.size w W → Calls Tryd.prog 10 #[.string s, .int .i64 p] W fun e w' => e = .returned (.tuple #[.agg (tokC x), .int .i64 en, .int .i64 ec]) ∧ Below W.heap.size W w')) := by
    by_cases h : 0 ≤ p ∧ p ≤ s.size
    · obtain ⟨q, rfl⟩ : ∃ q : Nat, p = q := ⟨p.toNat, by omega⟩
      exact ⟨(nextS s.data.toList q).1, (nextS s.data.toList q).2.2, ((nextS s.data.toList q).2.1 : Nat), fun W hb => lx_Next s q W (HT.out.below hb) (by omega) (by omega), fun W _ => rf_Next s q W (by omega) (by omega)⟩
    · exact ⟨⟨0, 0, 0, 0, []⟩, 1, 0, fun W hb => lx_Next_out s p W (by omega), fun W _ => rf_Next_out s p W (by omega) (by omega)⟩
  obtain ⟨x, ec, en, hnl, hnr⟩ := HN.out
  have HNL := Lib.hid hnl
  have HNR := Lib.hid hnr
  clear hnl hnr HN hp hs
  go_enter Tryd.func3, Tryd.ntmps3
  go_upto_region 5 with (first
    | (go_at_call 8; (with_reducible refine (HLV.out _ HW.out).mono ?_); rintro r V ⟨rfl, hb⟩; replace HW := Lib.hid (HW.out.trans (hb.mono HW.out.size)); clear hb)
    | (go_at_call 9; (with_reducible refine (HNL.out _ HW.out).mono ?_); rintro r V ⟨E, rfl, hE, hb⟩; have HE := Lib.hid hE; replace HW := Lib.hid (HW.out.trans (hb.mono HW.out.size)); clear hb hE)
    | (refine st_agg rfl 24 _ _ rfl V.heap.size (tokC x) rfl rfl 24 (tokC ⟨0, 0, 0, 0, []⟩) (heap_alloc_last _ _) tok_size rfl (by simp [Value.oneCell', tokC]) ?_; intro w3 h3 k3; have hb3 : Below V.heap.size V w3 := (Below.newly' _ _).trans (k3.below (Nat.le_refl _)); have HE3 := Lib.hid (HE.out.later hb3); replace HW := Lib.hid (HW.out.trans (hb3.mono HW.out.size)); have H3 := Lib.hid h3; clear hb3 k3 h3)
    | (go_at_call 10; (with_reducible refine (HNR.out _ HW.out).mono ?_); rintro r V2 ⟨rfl, hb⟩; have HE4 := Lib.hid (HE3.out.later hb); have H4 := Lib.hid ((hb.block _ (Array.getElem?_eq_some_iff.1 H3.out).1).trans H3.out); replace HW := Lib.hid (HW.out.trans (hb.mono HW.out.size)); clear hb)
    | (refine st_agg rfl 24 _ _ rfl V2.heap.size (tokC x) rfl rfl 24 (tokC ⟨0, 0, 0, 0, []⟩) (heap_alloc_last _ _) tok_size rfl (by simp [Value.oneCell', tokC]) ?_; intro w8 h8 k8))
  have hb8 : Below V2.heap.size V2 w8 := (Below.newly' _ _).trans (k8.below (Nat.le_refl _))
  have H8 : Hid (w8.heap[V.heap.size]? = some (.cells (tokC x) 24 (0, 0)) ∧ w8.heap[V2.heap.size]? = some (.cells (tokC x) 24 (0, 0))) := ⟨(hb8.block _ (Array.getElem?_eq_some_iff.1 H4.out).1).trans H4.out, h8⟩
  replace HW := Lib.hid (HW.out.trans (hb8.mono HW.out.size))
  have HAT := Lib.hid (fun W (hb : Below w8.heap.size w8 W) => lw_At E ec en W ((HE4.out.later hb8).later hb) ((HT.out.below HW.out).below hb).et)
  have HB8 : Hid (Below w8.heap.size w8 w8) := Below.refl _ _
  have hq := fun W => eq_tok x W
  clear h8 k8 hb8 HE HE3 HE4 H3 H4
  go_wp2_with (first
    | (refine ld_if (by rfl) 24 _ rfl V.heap.size rfl 24 (tokC x) _ _ H8.out.1 Tryd.underlying24 rfl tok_size ?_)
    | (refine ld_if (by rfl) 24 _ rfl V2.heap.size rfl 24 (tokC x) _ _ H8.out.2 Tryd.underlying24 rfl tok_size ?_)
    | (go_at_call 11; (with_reducible refine (HAT.out _ HB8.out).mono ?_); rintro r V5 ⟨rfl, hb⟩; replace HW := Lib.hid (HW.out.trans (hb.mono HW.out.size)); clear hb))
  go_ret
  exact ⟨rfl, HW.out⟩
end Go.Proofs.YtgdlkaoadlipmaaDoor
