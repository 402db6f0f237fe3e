/- Package pvec: Of; All: the iterator's contract. -/
import Derived.Test.YtpjbhdplginbaaaPv11
import Derived.Test.YtpjbhdplginbaaaKeptIn
import Derived.Shelf.Abstract
import Derived.OwnWalkIn
import Derived.TacticsInMore
import Derived.LoopNIn
import Derived.LoopIn
namespace Go.Proofs.Ytpjbhdplginbaaa
open Go.RowKit Go.Shelf
set_option maxRecDepth 1000000
set_option linter.unusedSimpArgs false
attribute [local go_sem] Oper.semAt_some

/-- At the wide fence, too, one operation is walked as it is plainly. -/
theorem wp_in_wide {P : Program} {Q : Exit → Act → World → Prop} {n : Nat} {o : Oper} {a : Act} {w : World} {K : Act → World → Prop} (hd : ∀ c, o.op ≠ .defer c) (h : o.wp P a w K Q) : o.wpIn Fence.wide n P a w K Q := by
  unfold Oper.wpIn
  refine ⟨fun _ _ => trivial, ?_⟩
  rw [Oper.semAt_eq _ _ _ hd]
  unfold Oper.wp at h
  generalize (execOp a.eval o).run P w = r at h ⊢
  cases r with
  | ok x w' =>
    cases x with
    | value v => exact h
    | skip => exact h
    | defer d => exact h
    | enter f args => exact ⟨fun hh => by simp [Fence.wide] at hh, callsIn_wide.2 h⟩
    | row row args => exact ⟨fun hh => by simp [Fence.wide] at hh, fun c cs _ => by obtain ⟨v, w', r, s⟩ := h c cs; exact ⟨v, w', r, stepsIn_wide.2 s⟩⟩
    | _ => exact h.elim
  | halt x w' =>
    cases x with
    | panic v => exact h
    | _ => exact h.elim
theorem ld_wide {ops : Array Oper} {rest : List Oper} {o : Oper} {a : Act} {w : World} {Q : Exit → Act → World → Prop} {n : Nat} (hgd : o.guard = none) (ty : TypeId) (x : Operand) (ho : o.op = .load ty x)
    (X : Nat) (hx : a.eval x = .pointer (some ⟨X, 0, none⟩)) (T : TypeId) (c : Array Value) (fr : Nat × Nat) (d : TypeDesc) (hB : w.heap[X]? = some (.cells c T fr))
    (hu : Try.prog.underlying ty = some d) (hd : d.isRow = true) (hi : (Try.prog.info? ty).map (·.size) = some c.size)
    (h : wpListIn Fence.wide n Try.prog ops Q rest (a.put o.dst (.agg c)) w) : wpListIn Fence.wide n Try.prog ops Q (o :: rest) a w :=
  wpListIn_plain hgd fun _ hK => wp_in_wide (fun c' hc => by rw [ho] at hc; cases hc) (wp_load_row ty x ho X hx T c fr d hB hu (by cases d <;> simp_all [TypeDesc.isRow]) hi (hK _ _ h))
set_option maxHeartbeats 1000000 in
theorem pv_Of {g : Nat → Int} {k : Nat} (W : World) (lv : Value) (hl : SpotAt W lv g k) (hk : k ≤ 1000000) : Calls Try.prog 14 #[lv] W fun e W' => ∃ c', e = .returned (.agg c') ∧ VecAt W' c' g k ∧ Below W.heap.size W W' := by
  obtain ⟨w1, hw1⟩ : ∃ w1, W.alloc (.cells #[.int .i64 0, .slice none 0 0, .slice none 0 0, .slice none 0 0] 30) = w1 := ⟨_, rfl⟩
  have hb1 : Below W.heap.size W w1 := by rw [← hw1]; exact Below.newly' _ _
  have hx1 : w1.heap[W.heap.size]? = some (.cells #[.int .i64 0, .slice none 0 0, .slice none 0 0, .slice none 0 0] 30 (0, 0)) := by rw [← hw1]; exact heap_alloc_last _ _
  have HP := Lib.hid (pv_Push w1 (VecG.zero _ _ g : VecAt w1 _ g 0) lv (hl.later hb1) (by omega))
  rw [Nat.zero_add, show appF g 0 g = g by funext j; simp [appF]] at HP
  have HX1 := Lib.hid hx1
  have HB1 := Lib.hid hb1
  obtain ⟨a, _, _, cl, rfl, _⟩ := hl
  clear hx1 hb1
  go_enter Try.func14, Try.ntmps14
  go_upto_region 1 with fail
  clear hw1
  go_wp2_with (first
    | (go_at_call 19; with_reducible refine HP.out.mono ?_; rintro e w2 ⟨c2, rfl, hv2, hb2⟩; have HV2 := Lib.hid hv2; have HX2 := Lib.hid ((hb2.block _ (Array.getElem?_eq_some_iff.1 HX1.out).1).trans HX1.out); have HB2 := Lib.hid (HB1.out.trans (hb2.mono HB1.out.size)); clear hv2 hb2)
    | (refine st_agg rfl 30 _ _ rfl W.heap.size c2 rfl rfl 30 #[.int .i64 0, .slice none 0 0, .slice none 0 0, .slice none 0 0] HX2.out (by rw [VecG.size HV2.out]; exact vec_size) (by rw [VecG.size HV2.out]; rfl) (VecG.one HV2.out) ?_; intro w5 h5 k5))
  exact bodyPost_ret (results_cell_row rfl _ _ W.heap.size 30 _ (0, 0) _ rfl h5 Try.underlying30 rfl (by rw [VecG.size HV2.out]; exact vec_size)) rfl ⟨_, rfl, VecG.but HV2.out k5 HX2.out (by decide) (by decide), HB2.out.trans (k5.below (Nat.le_refl _))⟩
section
variable {n₀ : Nat} {A B : World} {T : TypeId} {s : Nat}
/-- What lies in blocks below a mark is as it was where what lay below is. -/
theorem RunAt.low {v : Value} {F : Nat → Value} {n : Nat} (h : RunAt (fun g => g < n₀) A T s v F n) (hb : Below n₀ A B) : RunAt (fun g => g < n₀) B T s v F n := by
  rcases h with h | ⟨h0, g, c, cs, fr, h1, h2, h3, h4, h5⟩
  · exact .inl h
  · exact .inr ⟨h0, g, c, cs, fr, h1, h2, h3, (hb.block g h3).trans h4, h5⟩
theorem NodeAt.low (hb : Below n₀ A B) : ∀ {h : Nat} {a b : Value} {f : Nat → Int} {n : Nat}, NodeAt (fun g => g < n₀) A h a b f n → NodeAt (fun g => g < n₀) B h a b f n
  | 0, _, _, _, _, ⟨h1, h2, h3⟩ => ⟨h1, h2, h3.low hb⟩
  | _ + 1, _, _, _, _, ⟨h1, h2, h3, F, h4, h5⟩ => ⟨h1, h2, h3, F, h4.low hb, fun j hj => (h5 j hj).low hb⟩
theorem VecG.low {c : Array Value} {f : Nat → Int} {n t : Nat} (h : VecG (fun g => g < n₀) A c f n t) (hb : Below n₀ A B) : VecG (fun g => g < n₀) B c f n t := by
  obtain ⟨h1, h2, h3, h4, a, b, v, h5, h6, h7⟩ := h
  refine ⟨h1, h2, h3, h4, a, b, v, h5, ?_, h7.low hb⟩
  rcases h6 with h6 | ⟨h0, h6⟩
  · exact .inl h6
  · exact .inr ⟨h0, h6.low hb⟩
end
abbrev encV (x : Nat × Int) : Array Value := #[Value.int .i64 (x.1 : Int), Value.int .i64 x.2]
/-- The places of a vector, each with its thing. -/
def placesV (f : Nat → Int) (n : Nat) : List (Nat × Int) := (List.range n).map fun i => (i, f i)
theorem placesV_len (f : Nat → Int) (n : Nat) : (placesV f n).length = n := by simp [placesV]
theorem placesV_take (f : Nat → Int) (n p : Nat) (h : p < n) : (placesV f n).take p ++ [(p, f p)] = (placesV f n).take (p + 1) := by
  rw [List.take_succ_eq_append_getElem (by rw [placesV_len]; exact h)]
  simp [placesV]
/-- What a round keeps: what lay below n₀, and the box. -/
def KB (n₀ Bs : Nat) (A B : World) : Prop := Below n₀ A B ∧ B.heap[Bs]? = A.heap[Bs]?
theorem KB.refl (n₀ Bs : Nat) (A : World) : KB n₀ Bs A A := ⟨Below.refl _ _, rfl⟩
theorem KB.trans {n₀ Bs : Nat} {A B C : World} (h : KB n₀ Bs A B) (k : KB n₀ Bs B C) : KB n₀ Bs A C := ⟨h.1.trans k.1, k.2.trans h.2⟩
theorem KB.below {n₀ Bs : Nat} {A B : World} (h : Below A.heap.size A B) (hn : n₀ ≤ A.heap.size) (hB : Bs < A.heap.size) : KB n₀ Bs A B := ⟨h.mono hn, h.block _ hB⟩
theorem kb_b {n₀ Bs : Nat} {w : World} (hn : n₀ ≤ w.heap.size) (hB : Bs < w.heap.size) (W : World) (l : Nat) (o o' : Obj) (hl : w.heap.size ≤ l) (h : W.heap[l]? = some o) (h1 : o.isCells = false) (h2 : o.isWalk = false) : KB n₀ Bs W (W.putObj l o') :=
  ⟨belowK_b hn W l o o' hl h h1 h2, World.putObj_heap_other (by omega)⟩
set_option maxHeartbeats 2000000 in
theorem pv_all1_in (n : Nat) (hn : 1 ≤ n) (l Bs n₀ : Nat) (f : Nat → Int) (N t : Nat) (c : Array Value) (J Jx : List (Nat × Int) → World → Prop)
    (hJ : ∀ xs A B, J xs A → Below A.heap.size A B → J xs B)
    (hY : ∀ pre x W, J pre W → pre.length < N → YieldAt Fence.wide (n - 1) Try.prog l #[Value.int .i64 (x.1 : Int), Value.int .i64 x.2] W fun e W' =>
      (e = .returned (.bool true) ∧ J (pre ++ [x]) W' ∧ KB n₀ Bs W W') ∨ (e = .returned (.bool false) ∧ Jx (pre ++ [x]) W'))
    (W : World) (hX : W.heap[Bs]? = some (.cells c 30 (0, 0))) (hv : VecG (fun g => g < n₀) W c f N t) (hn0 : n₀ ≤ W.heap.size) (h0 : J [] W) :
    CallsIn Fence.wide n Try.prog 31 #[.func (.yield l) #[] #[], .pointer (some ⟨Bs, 0, none⟩)] W fun e W' => (∃ v, e = .returned v) ∧
      ((∃ ys, ys = placesV f N ∧ J ys W') ∨ (∃ pre, (∃ k, k ≤ N ∧ pre = (placesV f N).take k) ∧ Jx pre W')) := by
  have HS := Lib.hid hv.size
  have HC0 : Hid (c[0]? = some (.int .i64 (N : Int))) := by
    obtain ⟨_, _, _, _, a, b, v, rfl, _⟩ := hv
    exact rfl
  have hN6 : (N : Int) ≤ 1000000 := by obtain ⟨_, _, _, h4, _⟩ := hv; omega
  have HV := Lib.hid hv
  have HX := Lib.hid hX
  have HJ := Lib.hid hJ
  have H0 := Lib.hid h0
  have HN0 := Lib.hid hn0
  clear hv hX hJ h0 hn0
  refine callsIn_of_wp Try.func31 rfl trivial ?_ rfl
  simp only [Try.ntmps31, List.size_toArray, List.length_cons, List.length_nil, Nat.reduceAdd, Nat.reduceSub, Array.replicate_succ, Array.replicate_zero, List.push_toArray, List.append_toArray, List.nil_append, List.cons_append]
  gi_wp2
  gi_loopw [3] (fun first wr => ∃ p : Nat, first = .int .i64 p ∧ (p % 32 = 0 ∧ p ≤ 1000032) ∧ J ((placesV f N).take p) wr ∧ KB n₀ Bs W wr) (fun first _ => N - (intOf first).toNat)
  case atStart => exact ⟨0, rfl, ⟨rfl, by omega⟩, H0.out, KB.refl _ _ _⟩
  case round =>
    obtain ⟨p, rfl, hp, hJs, hk⟩ := hrel
    have HJ5 := Lib.hid hJs
    have HK5 := Lib.hid hk
    have HP := Lib.hid hp
    have c5 : wr.cell? ⟨Bs, 0, none⟩ = some (.int .i64 (N : Int)) := cell_in (hk.2.trans HX.out) HC0.out
    clear hJs hk
    by_cases hlt : p < N
    · have hlt' : (p : Int) < (N : Int) := by omega
      have HPC := Lib.hid (pv_piece wr (HV.out.low HK5.out.1) p hlt)
      rw [show p / 32 * 32 = p by omega] at HPC
      obtain ⟨cnt, hcnt⟩ : ∃ cnt, cnt = min 32 (N - p) := ⟨_, rfl⟩
      rw [← hcnt] at HPC
      have HCN := Lib.hid (show 0 < cnt ∧ cnt ≤ 32 ∧ p + cnt ≤ N ∧ (cnt = 32 ∨ p + cnt = N) by omega)
      have HBW := Lib.hid (show Bs < wr.heap.size from World.block_lt_of_cell? wr _ c5)
      clear hp hcnt hlt
      gi_wp2_with (first
        | (refine ld_wide rfl 30 _ rfl Bs rfl 30 _ _ _ (HK5.out.2.trans HX.out) Try.underlying30 rfl (by rw [HS.out]; exact vec_size) ?_)
        | (refine ⟨trivial, ?_⟩; gi_at_call 29; refine (callsIn_wide.2 HPC.out).mono ?_; rintro e w6 ⟨v6, rfl, hr6, hb6⟩; obtain ⟨g6, c6, cs6, fr6, rfl, hc6, hS6, hg6, hcs6⟩ := hr6.pos HCN.out.1; have HG6 : Hid (∀ j, j < cnt → w6.cell? ⟨g6, j, none⟩ = some (.int .i64 (f (p + j)))) := (fun j hj => cell_in hg6 (hcs6 j (by omega))); have HS6 := Lib.hid hS6; have HJ6 := Lib.hid (HJ.out _ _ _ HJ5.out hb6); have HK6 := Lib.hid (HK5.out.trans (KB.below hb6 (Nat.le_trans HN0.out HK5.out.1.size) HBW.out)); clear hr6 hb6 hc6 hS6 hg6 hcs6))
      gi_loopw [16] (fun iv wr' => ∃ k : Nat, iv = .int .i64 k ∧ k ≤ cnt ∧ J ((placesV f N).take (p + k)) wr' ∧ KB n₀ Bs W wr' ∧ Below n₀ w6 wr') (fun iv _ => cnt - (intOf iv).toNat)
      case atStart => exact ⟨0, rfl, by omega, HJ6.out, HK6.out, Below.refl _ _⟩
      case round =>
        obtain ⟨k, rfl, hkc, hJ7, hK7, hb7⟩ := hrel
        by_cases hlt : k < cnt
        · have hlt2 : (k : Int) < (cnt : Int) := by omega
          have hcell := (hb7.cell (p := ⟨g6, k, none⟩) HS6.out).trans (HG6.out k hlt)
          have hc := HCN.out
          obtain ⟨fn, tmps, assign, body, hy, hR⟩ := hY _ (p + k, f (p + k)) wr hJ7 (by rw [List.length_take, placesV_len]; omega)
          dsimp only at hy
          have htk := placesV_take f N (p + k) (by omega)
          have HTK := Lib.hid htk
          have hsum : (p : Int) + (k : Int) = ((p + k : Nat) : Int) := by omega
          have hcnt32 : (cnt : Int) ≤ 32 := by omega
          have hp6 : (p : Int) ≤ 1000032 := by omega
          obtain ⟨pk, hpk⟩ : ∃ pk, pk = p + k := ⟨_, rfl⟩
          rw [← hpk] at hsum hcell hR HTK hy
          have HPK := Lib.hid hpk
          clear htk hc hpk
          gi_wp2
          refine hR.mono ?_
          rintro e W3 (⟨rfl, hJ3, hk3⟩ | ⟨rfl, hJx3⟩)
          · gi_wp2
            go_roundw
            case rel => exact ⟨k + 1, by simp, by omega, by rw [HTK.out, HPK.out] at hJ3; exact hJ3, hK7.trans hk3, hb7.trans hk3.1⟩
            case measure => simp [intOf]; omega
          · gi_wp2
            refine bodyPost_ret (results_none rfl _ _ _) rfl ?_
            exact ⟨⟨_, rfl⟩, .inr ⟨_, ⟨pk + 1, by have := HPK.out; have := HCN.out; omega, HTK.out⟩, hJx3⟩⟩
        · obtain rfl : k = cnt := by omega
          have hc := HCN.out
          gi_wp2
          go_roundw
          case rel =>
            refine ⟨p + 32, by simp, by have := HP.out; omega, ?_, hK7⟩
            rcases hc.2.2.2 with e | e
            · rw [e] at hJ7; exact hJ7
            · rw [e] at hJ7
              rw [List.take_of_length_le (by rw [placesV_len]; omega)]
              rwa [List.take_of_length_le (by rw [placesV_len]; omega)] at hJ7
          case measure => simp [intOf]; omega
    · have hlt' : ¬ (p : Int) < (N : Int) := by omega
      gi_wp2
      go_end0
      exact ⟨⟨_, rfl⟩, .inl (by have h := HJ5.out; rw [List.take_of_length_le (by rw [placesV_len]; omega)] at h; first | exact h | exact ⟨_, rfl, h⟩)⟩
end Go.Proofs.Ytpjbhdplginbaaa
