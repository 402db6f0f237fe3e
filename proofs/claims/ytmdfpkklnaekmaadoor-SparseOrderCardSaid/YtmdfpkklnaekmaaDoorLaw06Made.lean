/- Layer 6's law SparseMade, over what package sparse's rows answer. -/
import Derived.Test.YtmdfpkklnaekmaaDoorLaw06Ops
import Derived.Test.YtmdfpkklnaekmaaDoorSp8
import Derived.Deep.CutRange
namespace Go.Proofs.YtmdfpkklnaekmaaDoor
open Go.RowKit
set_option maxRecDepth 1000000
set_option linter.unusedSimpArgs false

theorem From.new {n : Nat} {a b : World} {o : Obj} (k : Only a.heap.size (a.alloc o) b) : From n a b :=
  ⟨k.by_.os, k.by_.tape, k.by_.output, by have := k.size; simp at this; omega, fun j _ h2 => (k.by_.block j (by simp; omega) (by simp; omega)).trans (Lib.alloc_old a o j h2)⟩
/-- What package sparse's Of answers: its row leans on nothing that was there before. -/
structure OfSpec (At : World → Rw → Array Value → Prop) : Prop where
  of : ∀ (W : World) (b : Nat) (v : Value) (zs : List Int), b < 4294967296 → IntsAt W v zs → zs.length ≤ 4000 → Calls Tryd.prog 21 #[.int .u32 (b : Int), v] W fun e W' =>
    ∃ c', e = .returned (.tuple #[.agg c', .int .i64 (if rkN b 32 = zs.length then 0 else 1)]) ∧ Below W.heap.size W W' ∧ ∀ W'', From W.heap.size W' W'' → At W'' (if rkN b 32 = zs.length then ofR b zs 32 else noR) c'

/-- 'append(own, xs...)' of numbers onto a list of the call's own that nothing is frozen of. -/
theorem own_append {ops : Array Oper} {rest : List Oper} {o : Oper} {a : Act} {Q : Exit → Act → World → Prop} {w : World} (hwd : Region.wanted o (yielded ops a.tmps) = true) (s x : Operand)
    (ho : o.op = .call { callee := .builtin .append, args := #[s, x], argTypes := #[25, 25] })
    {B n : Nat} {v : Value} {xs : List Value} (hs : a.eval s = v) (hb : w.ownsRow B 3 1 v n xs) (r : List Int) (ad : Addr) (c : Nat) (hx : a.eval x = .slice (some ad) r.length c)
    (hc : ∀ j u, (iv r)[j]? = some u → w.cell? (ad.add j) = some u) (hlen : n + r.length ≤ 17592186044416) (hB : B ≤ w.heap.size)
    (h : ∀ v' w', w'.ownsRow B 3 1 v' (n + r.length) (xs ++ iv r) → w.grownBy w' v.ownBlock → wpList Tryd.prog ops Q rest (a.put o.dst v') w') : wpList Tryd.prog ops Q (o :: rest) a w :=
  wpList_step fun K hK => by
    rw [if_pos hwd]
    obtain ⟨i, hi, hz, h1, h2⟩ := info_parts int_info
    obtain ⟨v', w', hr, g1, g2, _⟩ := run_append_own (P := Tryd.prog) w B 25 o.type 3 i (.int .i64 0) 1 8 Tryd.underlying25 hi hz h1 h2 rfl (by decide) v n xs hb ad r.length c (iv r) (by rw [iv_len]; omega) hc iv_one
      (by unfold maxLen; omega) (by omega) hB
    unfold Oper.wp execOp
    simp only [ho, resolve, invoke, builtin, Sem.run_bind, Sem.run_pure, Result.andThen_ok, List.map_toArray, List.map_cons, List.map_nil, hs, hx, hr]
    exact hK _ _ (h v' w' g1 g2)

section
variable {Tb : World → Prop} {At : World → Rw → Array Value → Prop} (S : RSpec Tb At) (SO : OfSpec At)
include S SO
set_option maxHeartbeats 4000000 in
theorem sparseMade_of (b : Nat) (hb32 : b < 4294967296) (v : Value) (zs : List Int) (w : World) (hv : IntsAt w v zs) (hT : Tb w) :
    Calls Tryd.prog 7 #[.int .u32 (b : Int), v] w fun e w' => e = .returned (.bool true) ∧ Below w.heap.size w w' := by
  have HIV := Lib.hid hv
  obtain ⟨a, cap, bb, oo, rfl, h1, h2, h3, h4⟩ := hv
  have HLO := Lib.hid h1
  have HLC := Lib.hid h2
  have HLI := Lib.hid h3
  have HB32 := Lib.hid hb32
  clear h1 h2 h3 hb32
  have HW0 := Lib.hid (Below.refl w.heap.size w)
  by_cases hlen : zs.length ≤ 100
  case neg =>
    as_aux_lemma =>
    have t1 : (100 : Int) < (zs.length : Int) := by omega
    clear hlen
    go_enter Tryd.func7, Tryd.ntmps7
    go_wp2_with (first
      | (go_at_call 9; with_reducible refine (live6_true S w hT).mono ?_; rintro e w1 ⟨rfl, hb⟩; have HW1 := Lib.hid (HW0.out.trans (hb.mono HW0.out.size)); clear hb)
      | (go_at_call 9; with_reducible refine (live6_true S w1 (S.tab hT HW1.out)).mono ?_; rintro e w2 ⟨rfl, hb⟩; have HW2 := Lib.hid (HW1.out.trans (hb.mono HW1.out.size)); clear hb))
    go_ret
    exact ⟨rfl, HW2.out⟩
  have t1 : ¬ (100 : Int) < (zs.length : Int) := by omega
  go_enter Tryd.func7, Tryd.ntmps7
  go_upto_region 3 with (first
    | (go_at_call 9; with_reducible refine (live6_true S w hT).mono ?_; rintro e w1 ⟨rfl, hb⟩; have HW1 := Lib.hid (HW0.out.trans (hb.mono HW0.out.size)); clear hb))
  clear t1
  have hp : ∀ W : World, Sem.run Tryd.prog (pure (#[] : Array Value)) W = .ok #[] W := fun _ => rfl
  have hq : ∀ (a : Addr) (W : World), Sem.run Tryd.prog (storeCells a []) W = .ok () W := fun _ _ => rfl
  go_cut [5] from 19 to 21 (fun v wx => ∃ (g cap : Nat) (cur : Array Value), v = .slice (some ⟨g, 0, none⟩) zs.length cap ∧ w1.heap.size ≤ g ∧ wx.heap[g]? = some (.cells cur 3 (0, 0)) ∧ zs.length ≤ cur.size ∧ (∀ j, j < zs.length → cur[j]? = some (.int .i64 (zs.getD j 0))) ∧ Below w1.heap.size w1 wx)
  case first =>
    as_aux_lemma =>
    by_cases hz : zs.length = 0
    · cases a
      all_goals
        go_wp2_with fail
        go_meet
        case rel => exact ⟨w1.heap.size, 0, #[], by rw [hz], Nat.le_refl _, heap_alloc_last w1 _, by rw [hz]; exact Nat.zero_le _, fun j hj => absurd hj (by omega), Below.newly' w1 _⟩
    · obtain rfl : a = some ⟨bb, oo, none⟩ := HLO.out (by omega)
      have hc : ∀ j u, (iv zs)[j]? = some u → (w1.alloc (.cells #[] 3)).cell? ((⟨bb, oo, none⟩ : Addr).add j) = some u := fun j u hj => by
        unfold iv at hj
        rw [List.getElem?_map, Option.map_eq_some_iff] at hj
        obtain ⟨z, hz1, rfl⟩ := hj
        have hjl := (List.getElem?_eq_some_iff.1 hz1).1
        have e1 := HLC.out j hjl
        have e2 : zs.getD j 0 = z := by rw [List.getD_eq_getElem?_getD, hz1]; rfl
        rw [e2] at e1
        have hb2 : Below w.heap.size w (w1.alloc (.cells #[] 3)) := Below.more HW1.out _
        rw [show (⟨bb, oo, none⟩ : Addr).add j = ⟨bb, oo + j, none⟩ by unfold Addr.add; split <;> simp_all]
        exact (hb2.cell (World.block_lt_of_cell? w _ e1)).trans e1
      have HCC := Lib.hid hc
      have HLL := Lib.hid hlen
      clear hc
      go_wp2_with (at_builtin; go_loud (refine own_append rfl (.tmp 19) (.tmp 20) rfl rfl (World.ownsRow_lit w1 #[] 0 (Nat.le_refl w1.heap.size) (by decide) rfl) zs ⟨bb, oo, none⟩ cap rfl HCC.out (by have := HLL.out; omega) (by simp) ?_); intro v2 w2 hv2 hg2; have HV2 := Lib.hid hv2; have HG2 := Lib.hid hg2; clear hv2 hg2)
      go_meet
      case rel =>
        obtain ⟨hx, hy⟩ := HV2.out
        rcases hy with ⟨_, h0⟩ | ⟨g, cp, cur, e1, e2, e3, e4, e5, e6, e7⟩
        · exact absurd h0 (by omega)
        · refine ⟨g, cp, cur, by rw [e1]; simp, e2, e3, by simp at e6; omega, fun j hj => ?_, ?_⟩
          · have h9 : (cur.toList.take ((0 + zs.length) * 1))[j]? = (iv zs)[j]? := by rw [e7]; rfl
            rw [List.getElem?_take_of_lt (by omega)] at h9
            rw [← Array.getElem?_toList, h9]
            unfold iv
            rw [List.getElem?_map, List.getElem?_eq_getElem hj, List.getD_eq_getElem?_getD, List.getElem?_eq_getElem hj]; rfl
          · have hg2 := HG2.out
            refine ⟨hg2.os, hg2.tape, hg2.output, by have := hg2.size; simp at this; omega, fun k hk => (hg2.block k (by simp; omega) (fun h => by have h' : some k = some w1.heap.size := h; have := Option.some.inj h'; omega)).trans (Lib.alloc_old w1 _ k hk)⟩
  case rest =>
    obtain ⟨g, cap2, cur, rfl, hg, hcur, hsz, hcs, hbc⟩ := hcut
    have HG2 := Lib.hid hcur
    have HW2 := Lib.hid (HW1.out.trans (hbc.mono HW1.out.size))
    have HGE : Hid (w.heap.size ≤ g) := Nat.le_trans HW1.out.size hg
    have HOI : Hid (IntsAt wc (.slice (some ⟨g, 0, none⟩) zs.length cap2) zs) := ⟨some ⟨g, 0, none⟩, cap2, g, 0, rfl, fun _ => rfl, fun j hj => by rw [Nat.zero_add]; exact cell_in hcur (hcs j hj), HLI.out, h4⟩
    have HCS : Hid (zs.length ≤ cur.size ∧ ∀ j, j < zs.length → ∃ z, cur[j]? = some (.int .i64 z)) := ⟨hsz, fun j hj => ⟨_, hcs j hj⟩⟩
    have HOF := Lib.hid (SO.of wc b _ zs HB32.out HOI.out (by omega))
    clear hcur hsz hcs hbc hg hp hq HOI HLO HLC
    obtain ⟨er, her⟩ : ∃ er : Int, er = if rkN b 32 = zs.length then 0 else 1 := ⟨_, rfl⟩
    rw [← her] at HOF
    have HER := Lib.hid her
    clear her
    go_upto_region 5 with (first
      | (go_at_call 21; refine HOF.out.mono ?_; rintro e w3 ⟨c', rfl, hb, hnew⟩; have HNEW := Lib.hid hnew; have HB3 := Lib.hid hb; have HG3 := Lib.hid ((hb.block _ (Array.getElem?_eq_some_iff.1 HG2.out).1).trans HG2.out); have HW3 := Lib.hid (HW2.out.trans (hb.mono HW2.out.size)); clear hb hnew)
      | (refine st_agg rfl 27 _ _ rfl w3.heap.size c' rfl rfl 27 zeroS (heap_alloc_last w3 _) (by rw [S.size (HNEW.out w3 (From.refl _ _))]; exact srow_info) (by rw [S.size (HNEW.out w3 (From.refl _ _))]; rfl) (S.one (HNEW.out w3 (From.refl _ _))) ?_; intro w4 h4 k4; have HR4 := Lib.hid h4; have HF4 := Lib.hid (From.new (n := wc.heap.size) k4); have HG4 := Lib.hid (k4.other (((Below.newly' w3 _).block _ (Array.getElem?_eq_some_iff.1 HG3.out).1).trans HG3.out) (Nat.ne_of_lt (Array.getElem?_eq_some_iff.1 HG3.out).1)); have HW4 := Lib.hid (HW3.out.trans ((Below.more (Below.refl w3.heap.size w3) _).trans (k4.below (Nat.le_refl _)) |>.mono HW3.out.size)); clear h4 k4))
    obtain ⟨R', hR'⟩ : ∃ R', R' = if rkN b 32 = zs.length then ofR b zs 32 else noR := ⟨_, rfl⟩
    rw [← hR'] at HNEW
    have HR' := Lib.hid hR'
    obtain ⟨n₀, hn₀⟩ : ∃ n₀, n₀ = wc.heap.size := ⟨_, rfl⟩
    rw [← hn₀] at HNEW HF4
    have HNEW4 : Hid (∀ W'', From n₀ w4 W'' → At W'' R' c') := fun W'' hf => HNEW.out W'' (HF4.out.trans hf)
    have HGN : Hid (g < n₀) := by show _ < _; rw [hn₀]; exact (Array.getElem?_eq_some_iff.1 HG2.out).1
    obtain ⟨Y, hY⟩ : ∃ Y, Y = w3.heap.size := ⟨_, rfl⟩
    have HYN : Hid (n₀ ≤ Y) := by show _ ≤ _; rw [hn₀, hY]; exact HB3.out.size
    rw [← hY] at HR4 ⊢
    have HYS : Hid (Y < w4.heap.size) := (Array.getElem?_eq_some_iff.1 HR4.out).1
    clear HNEW HF4 HG2 HG3 HB3 HW3 HOF hY hn₀ hR'
    go_wp2_with fail
    go_loopw [30] (fun i wl => ∃ (k : Nat) (cu : Array Value), k ≤ zs.length ∧ i = .int .i64 k ∧ From n₀ w4 wl ∧ Below w.heap.size w wl ∧ wl.heap[g]? = some (.cells cu 3 (0, 0)) ∧ (zs.length ≤ cu.size ∧ ∀ j, j < zs.length → ∃ z, cu[j]? = some (.int .i64 z))) (fun i _ => zs.length - (intOf i).toNat)
    case atStart => exact ⟨0, _, Nat.zero_le _, rfl, From.refl _ _, HW4.out, HG4.out, HCS.out⟩
    case round =>
      obtain ⟨k, cu, hk, rfl, hf, hwl, hg, hsz, hcs⟩ := hrel
      have HF := Lib.hid hf
      have HWL := Lib.hid hwl
      have HG := Lib.hid hg
      have HCU := Lib.hid hcs
      clear hf hwl hcs HG4 HW4
      by_cases hlt : k < zs.length
      · obtain ⟨z, hz⟩ := HCU.out k hlt
        have hc : wr.cell? ⟨g, k, none⟩ = some (.int .i64 z) := cell_in hg hz
        have HSZ := Lib.hid hsz
        clear hg hz hsz
        go_wp2_with (refine st_cell rfl 3 _ _ rfl g k (.int .i64 (wrap64 (z + 1))) rfl rfl rfl 3 cu HG.out int_size (by have := HSZ.out; omega) ?_; intro w5 h5 k5)
        go_roundw
        case rel =>
          refine ⟨k + 1, _, by omega, by simp, HF.out.trans (From.only k5 HGN.out), HWL.out.trans (k5.below HGE.out), h5, by simpa using HSZ.out, fun j hj => ?_⟩
          rw [Array.getElem?_setIfInBounds]
          split
          · rw [if_pos (by have := HSZ.out; omega)]; exact ⟨_, rfl⟩
          · exact HCU.out j hj
        case measure => simp [intOf]; omega
      · obtain rfl : k = zs.length := by omega
        clear hg hsz
        have HI := Lib.hid (ref_Of6 b _ zs wr (HIV.out.later HWL.out))
        have HRW : Hid (At wr R' c') := HNEW4.out wr HF.out
        have HY : Hid (wr.heap[Y]? = some (.cells c' 27 (0, 0))) := (HF.out.block Y HYN.out HYS.out).trans HR4.out
        by_cases he : rkN b 32 = zs.length
        · rw [if_pos he] at HER HR'
          rw [if_pos he, decide_eq_true he] at HI
          obtain rfl := HER.out
          have HRC := HR'.out
          subst HRC
          clear HG HCU HR4 HNEW4 HIV he
          go_wp2_with (first
            | (go_at_call 22; refine HI.out.mono ?_; rintro e w6 ⟨d, rfl, hd, hb⟩; have HD := Lib.hid hd; have HW6 := Lib.hid (HWL.out.trans (hb.mono HWL.out.size)); have HR6 := Lib.hid (S.later HRW.out hb); have HY6 := Lib.hid ((hb.block _ (Array.getElem?_eq_some_iff.1 HY.out).1).trans HY.out); clear hd hb)
            | (refine st_agg rfl 31 _ _ rfl w6.heap.size d rfl rfl 31 zeroC (heap_alloc_last w6 _) (by rw [HD.out.size]; exact row_info) (by rw [HD.out.size]; rfl) HD.out.one ?_; intro w7 h7 k7; have HD7 := Lib.hid h7; have HW7 := Lib.hid (HW6.out.trans (((Below.more (Below.refl w6.heap.size w6) _).trans (k7.below (Nat.le_refl _))).mono HW6.out.size)); have HY7 := Lib.hid (k7.other (((Below.newly' w6 _).block _ (Array.getElem?_eq_some_iff.1 HY6.out).1).trans HY6.out) (Nat.ne_of_lt (Array.getElem?_eq_some_iff.1 HY6.out).1)); have HR7 := Lib.hid (S.but (S.later HR6.out (Below.newly' w6 _)) k7 (heap_alloc_last w6 _) (by decide)); clear h7 k7)
            | (refine ld_if rfl 27 _ rfl Y rfl 27 _ _ _ HY7.out Tryd.underlying27 rfl (by rw [S.size HR7.out]; exact srow_info) ?_)
            | (refine ld_if rfl 31 _ rfl w6.heap.size rfl 31 _ _ _ HD7.out Tryd.underlying31 rfl (by rw [HD.out.size]; exact row_info) ?_)
            | (go_at_call 14; refine (same_walk S _ c' d w7 HR7.out HD.out (S.tab hT HW7.out)).mono ?_; rintro e w8 ⟨rfl, hb⟩; have HW8 := Lib.hid (HW7.out.trans (hb.mono HW7.out.size)); clear hb))
          go_ret
          exact ⟨rfl, HW8.out⟩
        · rw [if_neg he] at HER HR'
          rw [if_neg he, decide_eq_false he] at HI
          obtain rfl := HER.out
          have HRC := HR'.out
          subst HRC
          clear HG HCU HR4 HNEW4 HIV he
          go_wp2_with (first
            | (go_at_call 22; refine HI.out.mono ?_; rintro e w6 ⟨d, rfl, hd, hb⟩; have HD := Lib.hid hd; have HW6 := Lib.hid (HWL.out.trans (hb.mono HWL.out.size)); have HR6 := Lib.hid (S.later HRW.out hb); have HY6 := Lib.hid ((hb.block _ (Array.getElem?_eq_some_iff.1 HY.out).1).trans HY.out); clear hd hb)
            | (refine st_agg rfl 31 _ _ rfl w6.heap.size d rfl rfl 31 zeroC (heap_alloc_last w6 _) (by rw [HD.out.size]; exact row_info) (by rw [HD.out.size]; rfl) HD.out.one ?_; intro w7 h7 k7; have HD7 := Lib.hid h7; have HW7 := Lib.hid (HW6.out.trans (((Below.more (Below.refl w6.heap.size w6) _).trans (k7.below (Nat.le_refl _))).mono HW6.out.size)); have HY7 := Lib.hid (k7.other (((Below.newly' w6 _).block _ (Array.getElem?_eq_some_iff.1 HY6.out).1).trans HY6.out) (Nat.ne_of_lt (Array.getElem?_eq_some_iff.1 HY6.out).1)); have HR7 := Lib.hid (S.but (S.later HR6.out (Below.newly' w6 _)) k7 (heap_alloc_last w6 _) (by decide)); clear h7 k7)
            | (refine ld_if rfl 27 _ rfl Y rfl 27 _ _ _ HY7.out Tryd.underlying27 rfl (by rw [S.size HR7.out]; exact srow_info) ?_)
            | (refine ld_if rfl 31 _ rfl w6.heap.size rfl 31 _ _ _ HD7.out Tryd.underlying31 rfl (by rw [HD.out.size]; exact row_info) ?_)
            | (go_at_call 14; refine (same_walk S _ c' d w7 HR7.out HD.out (S.tab hT HW7.out)).mono ?_; rintro e w8 ⟨rfl, hb⟩; have HW8 := Lib.hid (HW7.out.trans (hb.mono HW7.out.size)); clear hb))
          go_ret
          exact ⟨rfl, HW8.out⟩
end
end Go.Proofs.YtmdfpkklnaekmaaDoor
