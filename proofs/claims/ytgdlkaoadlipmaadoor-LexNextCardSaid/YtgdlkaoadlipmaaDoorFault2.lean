/- Package fault: Where and Last by their contracts. -/
import Derived.Test.YtgdlkaoadlipmaaDoorFault1
import Derived.Test.YtgdlkaoadlipmaaDoorPkH
namespace Go.Proofs.YtgdlkaoadlipmaaDoor
open Go.RowKit
set_option maxRecDepth 1000000

theorem Ch.range {B : Nat} {w : World} {E : Value} {c : Option Int} {l : List Int} (h : Ch B w E c l) : (∀ n ∈ l, -9223372036854775808 ≤ n ∧ n ≤ 9223372036854775807) ∧ (∀ k, c = some k → -9223372036854775808 ≤ k ∧ k ≤ 9223372036854775807) := by
  induction h with
  | code c hc => exact ⟨by simp, fun k e => by cases e; exact hc⟩
  | bare b n _ h2 _ _ => exact ⟨by simpa using h2, fun k e => by cases e⟩
  | put b n u x c l _ h2 _ _ _ ih => exact ⟨by simpa using ⟨h2, ih.1⟩, ih.2⟩

/-- What is left of a chain: nothing, or a chain. -/
def Rest (B : Nat) (w : World) (E : Value) (l : List Int) : Prop := (E = .nilIface ∧ l = []) ∨ ∃ c, Ch B w E c l
theorem chLen_nil (B : Nat) (w : World) : chLen B w .nilIface = 0 := by
  unfold chLen
  rw [dif_neg]
  rintro ⟨c, l, h⟩
  cases h
theorem Rest.len {B : Nat} {w : World} {E : Value} {l : List Int} (h : Rest B w E l) : chLen B w E = l.length := by
  rcases h with ⟨rfl, rfl⟩ | ⟨c, h⟩
  · exact chLen_nil B w
  · exact chLen_eq h
/-- A rest that is no fault, or a fault over a rest. -/
theorem Rest.cases {B : Nat} {w : World} {E : Value} {l : List Int} (h : Rest B w E l) : (E = .nilIface ∧ l = []) ∨ (∃ c, E = .iface 29 (.int .i64 c) ∧ l = []) ∨
    ∃ b n U r, E = .iface 66 (.pointer (some ⟨b, 0, none⟩)) ∧ l = n :: r ∧ b < B ∧ w.cell? ⟨b, 0, none⟩ = some (.int .i64 n) ∧ w.cell? ⟨b, 1, none⟩ = some U ∧ Rest B w U r := by
  rcases h with h | ⟨c, h⟩
  · exact .inl h
  · cases h with
    | code c hc => exact .inr (.inl ⟨c, rfl, rfl⟩)
    | bare b n h1 h2 h3 h4 => exact .inr (.inr ⟨b, n, _, [], rfl, rfl, h1, h3, h4, .inl ⟨rfl, rfl⟩⟩)
    | put b n u x c l h1 h2 h3 h4 h5 => exact .inr (.inr ⟨b, n, _, l, rfl, rfl, h1, h3, h4, .inr ⟨_, h5⟩⟩)

/-- Where's state: the target in block T = the size that the heap had; the places so far, behind it. -/
structure St (w wl : World) (v : Value) (pre : List Int) : Prop where
  below : Below w.heap.size w wl
  tgt : ∃ p, wl.heap[w.heap.size]? = some (.cells #[p] 66 (0, 0))
  ints : Ints (w.heap.size + 1) v pre wl
theorem St.start (w : World) : St w (w.alloc (.cells #[.pointer none] 66)) (.slice none 0 0) [] :=
  ⟨Below.newly' _ _, ⟨_, heap_alloc_new w _⟩, Ints.nil (by simp)⟩
theorem St.cell {w wl : World} {v : Value} {pre : List Int} (h : St w wl v pre) : ∃ p, wl.cell? ⟨w.heap.size, 0, none⟩ = some p := by
  obtain ⟨p, hp⟩ := h.tgt
  exact ⟨p, by simp [World.cell?, hp]⟩
theorem St.unfrozen {w wl : World} {v : Value} {pre : List Int} (h : St w wl v pre) : wl.frozen? ⟨w.heap.size, 0, none⟩ = false := by
  obtain ⟨p, hp⟩ := h.tgt
  simp [World.frozen?, hp]
theorem St.ne {w wl : World} {v : Value} {pre : List Int} (h : St w wl v pre) : v.ownBlock ≠ some w.heap.size := by
  intro e
  have := (h.ints.1.lt _ e).1
  omega
theorem St.more {w wl w1 : World} {v : Value} {pre : List Int} (h : St w wl v pre) (hb : Below wl.heap.size wl w1) : St w w1 v pre := by
  obtain ⟨p, hp⟩ := h.tgt
  have hlt : w.heap.size < wl.heap.size := (Array.getElem?_eq_some_iff.1 hp).1
  exact ⟨h.below.trans (hb.mono (Nat.le_of_lt hlt)), ⟨p, (hb.block _ hlt).trans hp⟩, h.ints.later hb⟩
theorem St.hit {w wl w1 : World} {v : Value} {pre : List Int} (h : St w wl v pre) (x : Value) (hh : ∃ w2, Below wl.heap.size wl w2 ∧ w1 = w2.setCell ⟨w.heap.size, 0, none⟩ x) : St w w1 v pre ∧ w1.cell? ⟨w.heap.size, 0, none⟩ = some x := by
  obtain ⟨w2, hb, rfl⟩ := hh
  have h2 := h.more hb
  obtain ⟨p, hp⟩ := h2.tgt
  have hs : (w2.setCell ⟨w.heap.size, 0, none⟩ x).heap[w.heap.size]? = some (.cells #[x] 66 (0, 0)) := by
    simp [World.setCell, Array.getElem?_modify, hp]
  refine ⟨⟨h2.below.setCell (p := ⟨w.heap.size, 0, none⟩) (Nat.le_refl _) _, ⟨x, hs⟩, ?_⟩, by simp [World.cell?, hs]⟩
  exact h2.ints.grown (row := some w.heap.size) ⟨rfl, rfl, rfl, by simp [World.setCell], fun k _ hk => Below.heap_setCell _ _ _ _ (fun e => hk (by simp [e]))⟩ (.inr h2.ne)
theorem St.app {w wl w1 : World} {v v' : Value} {pre pre' : List Int} {x : Value} (h : St w wl v pre) (hc : wl.cell? ⟨w.heap.size, 0, none⟩ = some x) (hi : Ints (w.heap.size + 1) v' pre' w1) (hg : wl.grownBy w1 v.ownBlock) : St w w1 v' pre' ∧ w1.cell? ⟨w.heap.size, 0, none⟩ = some x := by
  obtain ⟨p, hp⟩ := h.tgt
  have hlt : w.heap.size < wl.heap.size := (Array.getElem?_eq_some_iff.1 hp).1
  refine ⟨⟨h.below.grown hg (Nat.le_of_lt hlt) (fun k hk => by have := (h.ints.1.lt k hk).1; omega), ⟨p, (hg.block _ hlt (fun e => h.ne e.symm)).trans hp⟩, hi⟩, hg.cell hc (fun e => h.ne e.symm)⟩
theorem St.old {w wl : World} {v : Value} {pre : List Int} (h : St w wl v pre) (b o : Nat) (x : Value) (hb : b < w.heap.size) (hc : w.cell? ⟨b, o, none⟩ = some x) : wl.cell? ⟨b, o, none⟩ = some x := (h.below.cell (p := ⟨b, o, none⟩) hb).trans hc

set_option maxHeartbeats 4000000 in
theorem fault_Where_rest {B : Nat} (E : Value) (l : List Int) (w : World) (hg : ET w) (hr : Rest B w E l) (hB : B ≤ w.heap.size) (hl : l.length ≤ 1000) :
    Calls Tryd.prog 35 #[E] w fun e w' => ∃ v, e = .returned v ∧ Ints w.heap.size v l w' ∧ Below w.heap.size w w' := by
  have HG := Lib.hid hg
  have HR := Lib.hid hr
  have HB := Lib.hid hB
  have HL := Lib.hid hl
  clear hg hr hB hl
  go_enter Tryd.func35, Tryd.ntmps35
  go_wp2
  go_loopw [0, 3] (fun x v wl => ∃ pre r, l = pre ++ r ∧ Rest B w x r ∧ St w wl v pre) (fun x _ _ => chLen B w x)
  case atStart => exact ⟨[], l, rfl, HR.out, St.start w⟩
  case round =>
    obtain ⟨pre, r, hlr, hrest, hst⟩ := hrel
    have HS := Lib.hid hst
    have HLR := Lib.hid hlr
    have HRE := Lib.hid hrest
    have HE := Lib.hid (HG.out.below hst.below)
    clear hst hlr
    rcases hrest.cases with ⟨rfl, rfl⟩ | ⟨c, rfl, rfl⟩ | ⟨b, n, U, r', rfl, rfl, hb, h0, h1, h2⟩
    · clear hrest
      go_wp2_with fail
      refine (As_fault_nil ⟨w.heap.size, 0, none⟩ _ HE.out).mono ?_
      rintro e w1 ⟨rfl, hb⟩
      have H1 := Lib.hid (HS.out.more hb)
      clear hb
      go_wp2_with fail
      go_ret
      exact ⟨_, rfl, by rw [HLR.out, List.append_nil]; exact H1.out.ints.low (Nat.le_succ _), H1.out.below⟩
    · clear hrest
      go_wp2_with fail
      refine (As_fault_c c ⟨w.heap.size, 0, none⟩ _ HE.out).mono ?_
      rintro e w1 ⟨rfl, hb⟩
      have H1 := Lib.hid (HS.out.more hb)
      clear hb
      go_wp2_with fail
      go_ret
      exact ⟨_, rfl, by rw [HLR.out, List.append_nil]; exact H1.out.ints.low (Nat.le_succ _), H1.out.below⟩
    · obtain ⟨q, hq⟩ := HS.out.cell
      have HQ := Lib.hid hq
      have H0 := Lib.hid h0
      have H1 := Lib.hid h1
      have H2 := Lib.hid h2
      have HB2 := Lib.hid (Nat.lt_of_lt_of_le hb HB.out)
      clear hrest hq h0 h1 h2 hb
      go_wp2_with fail
      refine (As_fault_p ⟨b, 0, none⟩ ⟨w.heap.size, 0, none⟩ q _ HE.out HQ.out HS.out.unfrozen).mono ?_
      rintro e w1 ⟨rfl, hh⟩
      obtain ⟨hs1, hc1⟩ := HS.out.hit _ hh
      have k0 := hs1.old b 0 _ HB2.out H0.out
      have HS1 := Lib.hid hs1
      have HC1 := Lib.hid hc1
      have HLEN := Lib.hid (show pre.length + 1 ≤ 1000 by have := HL.out; rw [HLR.out] at this; simp at this; omega)
      clear hh hs1
      go_wp2_with (at_builtin; go_loud (refine ints_append_new rfl (.tmp 10) (.tmp 15) rfl rfl HS1.out.ints [n] _ rfl 1 1 rfl rfl (by have := HLEN.out; simp; omega) ?_))
      intro v' w' hi hgr
      obtain ⟨hs2, hc2⟩ := HS1.out.app HC1.out hi hgr
      have k1 := hs2.old b 1 _ HB2.out H1.out
      have HS2 := Lib.hid hs2
      clear hs2 hi hgr hc1 k0
      go_wp2_with fail
      go_roundw
      case rel => exact ⟨pre ++ [n], r', by rw [HLR.out]; simp, H2.out, HS2.out⟩
      case measure =>
        show chLen B w U < chLen B w (.iface 66 (.pointer (some ⟨b, 0, none⟩)))
        rw [H2.out.len, HRE.out.len]
        simp

theorem fault_Where {B : Nat} (E : Value) (c : Option Int) (l : List Int) (w : World) (hg : ET w) (hch : Ch B w E c l) (hB : B ≤ w.heap.size) (hl : l.length ≤ 1000) :
    Calls Tryd.prog 35 #[E] w fun e w' => ∃ v, e = .returned v ∧ Ints w.heap.size v l w' ∧ Below w.heap.size w w' := fault_Where_rest E l w hg (.inr ⟨c, hch⟩) hB hl
theorem fault_Where_nil (w : World) (hg : ET w) :
    Calls Tryd.prog 35 #[.nilIface] w fun e w' => ∃ v, e = .returned v ∧ Ints w.heap.size v [] w' ∧ Below w.heap.size w w' := fault_Where_rest (B := 0) .nilIface [] w hg (.inl ⟨rfl, rfl⟩) (Nat.zero_le _) (by simp)

/-- The last of these places. -/
theorem fault_Last_nil (w : World) (hg : ET w) :
    Calls Tryd.prog 15 #[.nilIface] w fun e w' => e = .returned (.tuple #[.int .i64 0, .bool false]) ∧ Below w.heap.size w w' := by
  have HW := Lib.hid (fault_Where_nil w hg)
  clear hg
  go_enter Tryd.func15, Tryd.ntmps15
  go_wp2_with fail
  refine HW.out.mono ?_
  rintro e w1 ⟨v, rfl, hi, hb⟩
  obtain ⟨a, c, rfl⟩ := hi.len
  have HB := Lib.hid hb
  clear hi hb
  go_wp2_with fail
  go_ret2
  exact ⟨rfl, HB.out⟩
theorem fault_Last {B : Nat} (E : Value) (c : Option Int) (l : List Int) (n : Int) (w : World) (hg : ET w) (hch : Ch B w E c (l ++ [n])) (hB : B ≤ w.heap.size) (hl : l.length + 1 ≤ 1000) :
    Calls Tryd.prog 15 #[E] w fun e w' => e = .returned (.tuple #[.int .i64 n, .bool true]) ∧ Below w.heap.size w w' := by
  have HW := Lib.hid (fault_Where E c _ w hg hch hB (by simpa using hl))
  have HR := Lib.hid hch.range.1
  clear hg hch hB
  go_enter Tryd.func15, Tryd.ntmps15
  go_wp2_with fail
  refine HW.out.mono ?_
  rintro e w1 ⟨v, rfl, hi, hb⟩
  obtain ⟨a, cap, b, o, rfl, ha, hc, _, _⟩ := hi.reads HR.out
  obtain rfl := ha (by simp)
  have hc' := hc l.length (by simp)
  rw [List.getD_eq_getElem?_getD, List.getElem?_append_right (Nat.le_refl _)] at hc'
  simp only [Nat.sub_self, List.getElem?_cons_zero, Option.getD_some] at hc'
  have hll : ((l ++ [n]).length : Int) = (l.length : Int) + 1 := by simp
  have HB := Lib.hid hb
  clear hi hb ha hc
  obtain ⟨k, hk⟩ : ∃ k, k = l.length := ⟨_, rfl⟩
  rw [← hk] at hc' hl hll
  rw [show (l ++ [n]).length = k + 1 by simp [hk]] at *
  clear hk
  go_wp2_with fail
  go_ret2
  exact ⟨rfl, HB.out⟩
end Go.Proofs.YtgdlkaoadlipmaaDoor
