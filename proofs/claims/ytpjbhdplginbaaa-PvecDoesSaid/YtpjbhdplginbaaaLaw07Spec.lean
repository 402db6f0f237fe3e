/- Layer 7's laws: vectors and their lists; lists of what is done; few; live. -/
import Derived.Test.YtpjbhdplginbaaaRef07B
import Derived.Test.YtpjbhdplginbaaaPv9
import Derived.Test.YtpjbhdplginbaaaPv13
namespace Go.Proofs.Ytpjbhdplginbaaa
open Go.RowKit
set_option maxRecDepth 1000000
set_option linter.unusedSimpArgs false

/-- A vector of this list. -/
def VL (w : World) (c : Array Value) (l : List Int) : Prop := VecAt w c (fun i => l.getD i 0) l.length
theorem VL.later {w w' : World} {c : Array Value} {l : List Int} (h : VL w c l) (hb : Below w.heap.size w w') : VL w' c l := VecG.later h hb
theorem VL.but {w w' : World} {X : Nat} {c cs : Array Value} {l : List Int} {T : TypeId} {fr : Nat × Nat} (h : VL w c l) (k : Only X w w') (hX : w.heap[X]? = some (.cells cs T fr)) (h1 : T ≠ 3) (h2 : T ≠ 28) : VL w' c l := VecG.but h k hX h1 h2
theorem VecAt.later {w w' : World} {c : Array Value} {f : Nat → Int} {n : Nat} (h : VecAt w c f n) (hb : Below w.heap.size w w') : VecAt w' c f n := VecG.later h hb
theorem VecAt.but {w w' : World} {X : Nat} {c cs : Array Value} {f : Nat → Int} {n : Nat} {T : TypeId} {fr : Nat × Nat} (h : VecAt w c f n) (k : Only X w w') (hX : w.heap[X]? = some (.cells cs T fr)) (h1 : T ≠ 3) (h2 : T ≠ 28) : VecAt w' c f n := VecG.but h k hX h1 h2
theorem VL.size {w : World} {c : Array Value} {l : List Int} (h : VL w c l) : c.size = 4 := VecG.size h
theorem VL.one {w : World} {c : Array Value} {l : List Int} (h : VL w c l) : c.all (·.oneCell') = true := VecG.one h
theorem VL.zero (w : World) : VL w #[.int .i64 0, .slice none 0 0, .slice none 0 0, .slice none 0 0] [] := VecG.zero _ _ _
theorem VL.of {w : World} {c : Array Value} {f : Nat → Int} {n : Nat} (h : VecAt w c f n) : VL w c (lsF f n) := by
  unfold VL
  rw [lsF_len]
  exact VecG.congr h fun j hj => (lsF_getD2 f n j hj).symm
theorem VL.len {w : World} {c : Array Value} {l : List Int} (h : VL w c l) : l.length ≤ 1000000 := by obtain ⟨_, _, _, h4, _⟩ := h; exact h4
theorem lsF_app (l r : List Int) : lsF (appF (fun i => l.getD i 0) l.length (fun i => r.getD i 0)) (l.length + r.length) = l ++ r := by
  apply List.ext_getElem?
  intro j
  rcases Nat.lt_or_ge j (l.length + r.length) with h | h
  · rw [lsF_at _ _ _ h]
    unfold appF
    by_cases e : j < l.length
    · rw [if_pos e, List.getElem?_append_left e]; show some (l.getD j 0) = _; rw [List.getD_eq_getElem?_getD, List.getElem?_eq_getElem e]; rfl
    · rw [if_neg e, List.getElem?_append_right (by omega)]; show some (r.getD (j - l.length) 0) = _; rw [List.getD_eq_getElem?_getD, List.getElem?_eq_getElem (by omega)]; rfl
  · rw [List.getElem?_eq_none (by rw [lsF_len]; exact h), List.getElem?_eq_none (by rw [List.length_append]; exact h)]
theorem lsF_upd (l : List Int) (i : Nat) (x : Int) : lsF (upd (fun i => l.getD i 0) i x) l.length = l.set i x := by
  apply List.ext_getElem?
  intro j
  rcases Nat.lt_or_ge j l.length with h | h
  · rw [lsF_at _ _ _ h]
    unfold upd
    by_cases e : j = i
    · subst e; rw [if_pos rfl]; simp [h]
    · rw [if_neg e, List.getElem?_set_ne (fun x => e x.symm)]; show some (l.getD j 0) = _; rw [List.getD_eq_getElem?_getD, List.getElem?_eq_getElem h]; rfl
  · rw [List.getElem?_eq_none (by rw [lsF_len]; exact h), List.getElem?_eq_none (by rw [List.length_set]; exact h)]
theorem lsF_take (l : List Int) (k : Nat) (h : k ≤ l.length) : lsF (fun i => l.getD i 0) k = l.take k := by
  apply List.ext_getElem?
  intro j
  rcases Nat.lt_or_ge j k with h1 | h1
  · rw [lsF_at _ _ _ h1, List.getElem?_take_of_lt h1, List.getD_eq_getElem?_getD, List.getElem?_eq_getElem (by omega)]; rfl
  · rw [List.getElem?_eq_none (by rw [lsF_len]; exact h1), List.getElem?_eq_none (by rw [List.length_take]; omega)]

/-- What is done: Do, I, X, N. -/
abbrev Op7 := Int × Int × Int × Int
abbrev op7C (o : Op7) : Array Value := #[.int .i64 o.1, .int .i64 o.2.1, .int .i64 o.2.2.1, .int .i64 o.2.2.2]
def Op7In (W : World) (b o : Nat) (x : Op7) : Prop := W.rangeAt b o (op7C x).toList
theorem Op7In.later {W W' : World} {b o : Nat} {x : Op7} (h : Op7In W b o x) (hb : Below W.heap.size W W') : Op7In W' b o x :=
  fun j v hv => (hb.cell (World.block_lt_of_cell? W _ (h j v hv))).trans (h j v hv)
/-- v is a list that reads as these. -/
def Ops7 (w : World) (v : Value) (l : List Op7) : Prop :=
  ∃ (a : Option Addr) (cap b o : Nat), v = .slice a l.length cap ∧ (0 < l.length → a = some ⟨b, o, none⟩) ∧ (∀ j (h : j < l.length), Op7In w b (o + j * 4) l[j]) ∧ l.length ≤ maxLen
theorem Ops7.later {w w' : World} {v : Value} {l : List Op7} (h : Ops7 w v l) (hb : Below w.heap.size w w') : Ops7 w' v l := by
  obtain ⟨a, cap, b, o, h1, h2, h3, h4⟩ := h
  exact ⟨a, cap, b, o, h1, h2, fun j hj => (h3 j hj).later hb, h4⟩
theorem op7_info : (Try.prog.info? 34).map (·.size) = some 4 := by kernel_rfl
theorem ld_op7 {ops : Array Oper} {rest : List Oper} {o : Oper} {a : Act} {w : World} {Q : Exit → Act → World → Prop} (hwd : Region.wanted o (yielded ops a.tmps) = true) (y : Operand) (ho : o.op = .load 34 y)
    (b k : Nat) (hx : a.eval y = .pointer (some ⟨b, k, none⟩)) (x : Op7) (hR : Op7In w b k x)
    (h : wpList Try.prog ops Q rest (a.put o.dst (.agg (op7C x))) w) : wpList Try.prog ops Q (o :: rest) a w :=
  wpList_step fun _ hK => by
    rw [if_pos hwd]
    exact wp_load_mid 34 y ho b k hx _ _ hR Try.underlying34 rfl op7_info (hK _ _ h)
theorem yieldsIf_op7 {ops : Array Oper} {S : World → Prop} {op : Oper} {a : Act} (hw : Region.wanted op (yielded ops a.tmps) = true) (y : Operand) (ho : op.op = .load 34 y)
    (b k : Nat) (hx : a.eval y = .pointer (some ⟨b, k, none⟩)) (x : Op7) (hS : ∀ w, S w → Op7In w b k x) : YieldsIf Try.prog ops S op (.agg (op7C x)) a :=
  yieldsIf_load_mid hw 34 y ho b k hx _ _ hS Try.underlying34 rfl op7_info
/-- How many things are told of, all together. -/
def total (l : List Op7) : Nat := (l.map fun o => o.2.2.2.toNat).sum
theorem total_take {l : List Op7} {n : Nat} (h : n < l.length) : total (l.take (n + 1)) = total (l.take n) + l[n].2.2.2.toNat := by
  unfold total
  rw [List.take_succ_eq_append_getElem h, List.map_append, List.sum_append]
  simp
theorem total_le (l : List Op7) (n : Nat) : total (l.take n) ≤ total l := by
  have h : l = l.take n ++ l.drop n := (List.take_append_drop n l).symm
  have e : total l = total (l.take n) + total (l.drop n) := by
    unfold total
    conv => lhs; rw [h]
    rw [List.map_append, List.sum_append]
  omega
/-- Are these few operations, of few things? -/
def fewB (l : List Op7) : Bool := decide ((∀ o ∈ l, o.2.2.2 ≤ 1500) ∧ total l ≤ 5000 ∧ l.length ≤ 40)
set_option maxHeartbeats 2000000 in
theorem few7 (v : Value) (l : List Op7) (w : World) (hl : Ops7 w v l) : Calls Try.prog 9 #[v] w fun e w' => e = .returned (.bool (fewB l)) ∧ Below w.heap.size w w' := by
  obtain ⟨ad, cap, bb, oo, rfl, h1, h2, hmax⟩ := hl
  have HLO := Lib.hid h1
  have HLC := Lib.hid h2
  have hm63 : (l.length : Int) ≤ 9223372036854775807 := by unfold maxLen at hmax; omega
  obtain ⟨B, hB⟩ : ∃ B, B = fewB l := ⟨_, rfl⟩
  rw [← hB]
  have HFB := Lib.hid hB
  clear h1 h2 hmax hB
  go_enter Try.func9, Try.ntmps9
  go_wp2_with fail
  go_loopw [3, 8] (fun s i wl => ∃ n : Nat, n ≤ l.length ∧ i = .int .i64 (n : Int) ∧ s = .int .i64 (total (l.take n) : Nat) ∧ (total (l.take n) ≤ 5000 ∧ ∀ o ∈ l.take n, o.2.2.2 ≤ 1500) ∧ Below w.heap.size w wl) (fun _ i _ => l.length - (intOf i).toNat)
  case atStart => exact ⟨0, Nat.zero_le _, rfl, rfl, ⟨by simp [total], by simp⟩, Below.refl _ _⟩
  case round =>
    obtain ⟨n, hn, rfl, rfl, ht, hb⟩ := hrel
    have HB := Lib.hid hb
    have HT := Lib.hid ht
    have ht5 : ((total (l.take n) : Nat) : Int) ≤ 5000 := by omega
    by_cases hlt : n < l.length
    · have hlt' : (n : Int) < (l.length : Int) := by omega
      have i0 : (0 : Int) ≤ (n : Int) := by omega
      have had : ad = some ⟨bb, oo, none⟩ := HLO.out (by omega)
      subst had
      have HR := Lib.hid ((HLC.out n hlt).later hb)
      have HTT := Lib.hid (total_take hlt)
      have HMEM := Lib.hid (List.getElem_mem hlt)
      have HTK := Lib.hid (List.take_succ_eq_append_getElem hlt)
      obtain ⟨x, hx⟩ : ∃ x, x = l[n] := ⟨_, rfl⟩
      rw [← hx] at HR HTT HMEM HTK
      obtain ⟨x1, x2, x3, x4⟩ := x
      have HN := Lib.hid (fun (m : Nat) => (show Below w.heap.size w (wr.alloc (.cells (op7C (x1, x2, x3, x4)) 34)) from Below.alloc HB.out HB.out.size _))
      obtain ⟨T, hT⟩ : ∃ T, T = total (l.take n) := ⟨_, rfl⟩
      rw [← hT] at HT ht5 HTT ⊢
      clear hx hb ht hT
      obtain ⟨m, hm⟩ : ∃ m, m = x4.toNat := ⟨_, rfl⟩
      have hm2 : max x4 0 = (m : Int) := by omega
      by_cases h15 : 1500 < x4
      · have hf : fewB l = false := by
          unfold fewB
          rw [decide_eq_false_iff_not]
          intro h
          have := h.1 _ HMEM.out
          simp only at this
          omega
        obtain rfl : B = false := by rw [HFB.out, hf]
        clear hm2 hm hf
        go_wp2_with (refine ld_op7 rfl _ rfl bb (oo + n * 4) rfl (x1, x2, x3, x4) HR.out ?_)
        go_ret
        exact ⟨rfl, HN.out 0⟩
      · have hm15 : (m : Int) ≤ 1500 := by omega
        have h15' : x4 ≤ 1500 := by omega
        by_cases h5 : 5000 < T + m
        · have h5' : (5000 : Int) < (T : Int) + (m : Int) := by omega
          have hf : fewB l = false := by
            unfold fewB
            rw [decide_eq_false_iff_not]
            intro h
            have h1 := total_le l (n + 1)
            have h2 := HTT.out
            simp only at h2
            omega
          obtain rfl : B = false := by rw [HFB.out, hf]
          clear hm hf
          go_wp2_with (refine ld_op7 rfl _ rfl bb (oo + n * 4) rfl (x1, x2, x3, x4) HR.out ?_)
          go_ret
          exact ⟨rfl, HN.out 0⟩
        · have h5' : ¬ (5000 : Int) < (T : Int) + (m : Int) := by omega
          have HM := Lib.hid hm
          clear hm
          go_wp2_with (refine ld_op7 rfl _ rfl bb (oo + n * 4) rfl (x1, x2, x3, x4) HR.out ?_)
          go_roundw
          case rel =>
            have e : total (l.take (n + 1)) = T + m := by rw [HTT.out, HM.out]
            refine ⟨n + 1, by omega, by go_num, by rw [e]; simp, ⟨by rw [e]; omega, fun o ho => ?_⟩, HN.out 0⟩
            rw [HTK.out, List.mem_append, List.mem_singleton] at ho
            rcases ho with ho | rfl
            · exact HT.out.2 o ho
            · exact h15'
          case measure => simp [intOf]; omega
    · obtain rfl : n = l.length := by omega
      have HFE : Hid (fewB l = decide ((l.length : Int) ≤ 40)) := by
        show _ = _
        have h := HT.out
        rw [List.take_length] at h
        unfold fewB
        rw [decide_eq_decide]
        exact ⟨fun a => by omega, fun a => ⟨h.2, h.1, by omega⟩⟩
      obtain rfl : B = decide ((l.length : Int) ≤ 40) := by rw [HFB.out, HFE.out]
      go_wp2_with fail
      go_ret
      exact ⟨rfl, HB.out⟩
end Go.Proofs.Ytpjbhdplginbaaa
