/- Layer 4's law FaultAsks. -/
import Derived.Test.YtlgjmmhofklneaaDoorLaw04Live
import Derived.Deep.QuietTactic
import Derived.BigQuiet
import Derived.Deep.RegionHeld3
namespace Go.Proofs.YtlgjmmhofklneaaDoor
open Go.RowKit
set_option maxRecDepth 1000000
set_option maxHeartbeats 4000000

theorem Ch.drew {B : Nat} {w : World} {E : Value} {c : Option Int} {l : List Int} (h : Ch B w E c l) : Ch B w.drew E c l := h.later (Below.drewMany (Below.refl B w) 1) (Nat.le_refl _)
theorem Ch.drewN {B : Nat} {w : World} {E : Value} {c : Option Int} {l : List Int} (h : Ch B w E c l) (k : Nat) : Ch B (w.drewN k) E c l := h.later (Below.drewMany (Below.refl B w) k) (Nat.le_refl _)
/-- The document's answer in block T. -/
def At (T : Nat) (k : Bool) (c : Int) (v : Value) (W : World) : Prop := W.heap[T]? = some (.cells #[.bool k, .int .i64 c, v] 29 (0, 0))
theorem At.cells {T : Nat} {k : Bool} {c : Int} {v : Value} {W : World} (h : At T k c v W) : W.cell? ⟨T, 0, none⟩ = some (.bool k) ∧ W.cell? ⟨T, 1, none⟩ = some (.int .i64 c) ∧ W.cell? ⟨T, 2, none⟩ = some v := by
  unfold At at h
  simp [World.cell?, h]
theorem At.later {T : Nat} {k : Bool} {c : Int} {v : Value} {W W' : World} (h : At T k c v W) (hb : Below W.heap.size W W') : At T k c v W' := (hb.block T (Array.getElem?_eq_some_iff.1 h).1).trans h

theorem code_some {B : Nat} (E : Value) (c : Int) (l : List Int) (w : World) (hg : ET w) (hch : Ch B w E (some c) l) (hB : B ≤ w.heap.size) :
    Calls Tryd.prog 13 #[E] w fun e w' => e = .returned (.int .i64 c) ∧ Below w.heap.size w w' := fault_Code E (some c) l w hg hch hB
theorem text_some {B : Nat} (E : Value) (c : Int) (l : List Int) (w : World) (hg : ET w) (ht : Tab w) (hch : Ch B w E (some c) l) (hB : B ≤ w.heap.size) (hl : l.length ≤ 1000) :
    Calls Tryd.prog 17 #[E] w fun e w' => e = .returned (.string ⟨(errS c l).toArray⟩) ∧ Below w.heap.size w w' := fault_Text E (some c) l w hg ht hch hB hl
theorem same_self (v v' : Value) (l : List Int) (w : World) (hv : IntsAt w v l) (hv' : IntsAt w v' l) :
    Calls Tryd.prog 15 #[v, v'] w fun e w' => e = .returned (.bool true) ∧ Below w.heap.size w w' := by
  have h := ref_Same v v' l l w hv hv'
  rw [show decide (l = l) = true by simp] at h
  exact h
theorem asked_true (c : Int) (a : Option Addr) (len cap : Nat) (w : World) (hm : len ≤ 1000) :
    Calls Tryd.prog 14 #[.agg #[.bool true, .int .i64 c, .slice a len cap]] w fun e w' => e = .returned (.int .i64 c) ∧ Below w.heap.size w w' := by
  have h := ref_Asked true c a cap (List.replicate len 0) w (by simpa using hm)
  rw [List.length_replicate] at h
  exact h
theorem asked_none (w : World) :
    Calls Tryd.prog 14 #[.agg #[.bool false, .int .i64 0, .slice none 0 0]] w fun e w' => e = .returned (.int .i64 0) ∧ Below w.heap.size w w' := ref_Asked false 0 none 0 [] w (by simp)
theorem IntsAt.none (w : World) : IntsAt w (.slice none 0 0) [] := (Ints.nil (B := 0) (Nat.zero_le _)).reads (by simp)
theorem reftext_true (c : Int) (a : Option Addr) (cap len : Nat) (l : List Int) (w : World) (hc : InR c) (hlen : len = l.length) (hm : l.length ≤ 1000) (hv : IntsAt w (.slice a len cap) l) :
    Calls Tryd.prog 18 #[.agg #[.bool true, .int .i64 c, .slice a len cap]] w fun e w' => e = .returned (.string ⟨(errS c l).toArray⟩) ∧ Below w.heap.size w w' := ref_Text true c a cap len l w hc (.inl rfl) hlen hm hv

theorem faultAsks_walk (c n : Int) (v : Value) (l : List Int) (hc : InR c) (hn : InR n) (w : World) (hv : IntsAt w v l) (hg : ET w) (ht : Tab w) :
    Calls Tryd.prog 3 #[.int .i64 c, .int .i64 n, v] w fun e w' => e = .returned (.bool true) ∧ Below w.heap.size w w' := by
  have HG := Lib.hid hg
  have HT := Lib.hid ht
  have HL := Lib.hid (fun W (hb : Below w.heap.size w W) => live_true W (hg.below hb) (ht.below hb))
  have HV := Lib.hid hv
  have HC := Lib.hid hc
  have HN := Lib.hid hn
  obtain ⟨a, cap, b, off, rfl, _, _, _, hm⟩ := hv
  unfold maxLen at hm
  obtain ⟨len, hlen⟩ : ∃ len, len = l.length := ⟨_, rfl⟩
  have HLL := Lib.hid hlen
  rw [← hlen] at HV hm ⊢
  clear hlen hc hn hg ht
  by_cases h100 : (100 : Int) < (len : Int)
  · go_enter Tryd.func3, Tryd.ntmps3
    go_wp2_with fail
    refine (HL.out _ (Below.refl _ _)).mono ?_
    rintro e w1 ⟨rfl, hb⟩
    have B1 := Lib.hid hb
    clear hb
    go_wp2_with fail
    refine (HL.out _ B1.out).mono ?_
    rintro e w2 ⟨rfl, hb⟩
    have B2 := Lib.hid (B1.out.trans (hb.mono B1.out.size))
    clear hb
    go_wp2_with fail
    go_ret
    exact ⟨rfl, B2.out⟩
  · have hlen1 : len ≤ 100 := by omega
    have HLEN : Hid (l.length ≤ 100) := by show _ ≤ _; rw [← HLL.out]; exact hlen1
    by_cases h0 : c = 0
    · subst h0
      go_enter Tryd.func3, Tryd.ntmps3
      go_wp2_with fail
      refine (HL.out _ (Below.refl _ _)).mono ?_
      rintro e w1 ⟨rfl, hb⟩
      have B1 := Lib.hid hb
      clear hb
      go_wp2_with fail
      refine (made_ok n _ l _ (HV.out.later B1.out) (Nat.le_trans HLEN.out (by decide))).mono ?_
      rintro e w2 ⟨rfl, hb⟩
      have B2 := Lib.hid (B1.out.trans (hb.mono B1.out.size))
      clear hb B1
      go_wp2_with fail
      refine (want_ok n _ _).mono ?_
      rintro e w3 ⟨rfl, hb⟩
      have B3 := Lib.hid (B2.out.trans (hb.mono B2.out.size))
      clear hb B2
      go_wp2_with fail
      obtain ⟨T, hT⟩ : ∃ T, T = w3.heap.size := ⟨_, rfl⟩
      obtain ⟨w4, hw4⟩ : ∃ w4, w4 = w3.alloc (.cells #[.bool false, .int .i64 0, .slice none 0 0] 29) := ⟨_, rfl⟩
      have hb4 : Below w3.heap.size w3 w4 := by rw [hw4]; exact Below.newly' _ _
      have K4 : Hid (w4.heap[T]? = some (.cells #[.bool false, .int .i64 0, .slice none 0 0] 29 (0, 0))) := by show _ = _; rw [hw4, hT]; exact heap_alloc_new w3 _
      have B4 := Lib.hid (B3.out.trans (hb4.mono B3.out.size))
      rw [← hw4, ← hT]
      clear hb4 hw4 hT B3
      refine (fault_Last_nil w4 (HG.out.below B4.out)).mono ?_
      rintro e w5 ⟨rfl, hb⟩
      have B5 := Lib.hid (B4.out.trans (hb.mono B4.out.size))
      have K5 := Lib.hid ((hb.block T (Array.getElem?_eq_some_iff.1 K4.out).1).trans K4.out)
      have k0 : w5.cell? ⟨T, 0, none⟩ = some (.bool false) := by have := K5.out; simp [World.cell?, this]
      have k1 : w5.cell? ⟨T, 1, none⟩ = some (.int .i64 0) := by have := K5.out; simp [World.cell?, this]
      have k2 : w5.cell? ⟨T, 2, none⟩ = some (.slice none 0 0) := by have := K5.out; simp [World.cell?, this]
      clear hb B4 K4
      go_wp2_with fail
      go_quiet (fail)
      go_wp2_with fail
      generalize hw6 : World.drewN _ _ = w6
      have B6 : Hid (Below w.heap.size w w6.drew) := by show Below _ _ _; rw [← hw6]; exact Below.drewMany (Below.drewMany B5.out _) 1
      have K6 : Hid (At T false 0 (.slice none 0 0) w6.drew) := by show At _ _ _ _ _; rw [← hw6]; exact K5.out
      clear hw6 B5 K5 k0 k1 k2
      go_region_held3 (fun W => W.cell? ⟨T, 0, none⟩ = some (.bool false) ∧ W.cell? ⟨T, 1, none⟩ = some (.int .i64 0) ∧ W.cell? ⟨T, 2, none⟩ = some (.slice none 0 0)) (first | exact K6.out.cells | exact K8.out.cells | exact K9.out.cells | exact K10.out.cells | exact K12.out.cells)
        (first
          | (go_at_call 13; refine (fault_Code_nil _).mono ?_; rintro e w7 ⟨rfl, rfl⟩)
          | (go_at_call 14; refine (asked_none _).mono ?_; rintro e w8 ⟨rfl, hb⟩; have B8 := Lib.hid (B6.out.trans (hb.mono B6.out.size)); have K8 := Lib.hid (K6.out.later hb); clear hb)
          | (go_at_call 16; refine (fault_Where_nil _ (HG.out.below B8.out)).mono ?_; rintro e w9 ⟨v9, rfl, hi, hb⟩; have B9 := Lib.hid (B8.out.trans (hb.mono B8.out.size)); have V9 := Lib.hid (hi.reads (l := []) (fun n h => absurd h List.not_mem_nil)); have K9 := Lib.hid (K8.out.later hb); clear hb hi)
          | (go_at_call 15; refine (same_self _ _ _ _ V9.out (IntsAt.none _)).mono ?_; rintro e w10 ⟨rfl, hb⟩; have B10 := Lib.hid (B9.out.trans (hb.mono B9.out.size)); have K10 := Lib.hid (K9.out.later hb); clear hb)
          | (go_at_call 17; refine (fault_Text_nil _).mono ?_; rintro e w11 ⟨rfl, rfl⟩)
          | (go_at_call 18; refine (ref_Text_ok 0 none 0 _).mono ?_; rintro e w12 ⟨rfl, hb⟩; have B12 := Lib.hid (B10.out.trans (hb.mono B10.out.size)); have K12 := Lib.hid (K10.out.later hb); clear hb))
      go_wp2_with fail
      go_ret
      exact ⟨rfl, B12.out⟩
    · have H0 := Lib.hid h0
      have hnn : (n != n) = false := by simp
      have hcc : (c == c) = true := beq_self_eq_true c
      go_enter Tryd.func3, Tryd.ntmps3
      go_wp2_with fail
      refine (HL.out _ (Below.refl _ _)).mono ?_
      rintro e w1 ⟨rfl, hb⟩
      have B1 := Lib.hid hb
      clear hb
      go_wp2_with fail
      refine (made_err c n _ l _ H0.out HC.out HN.out (HV.out.later B1.out) (Nat.le_trans HLEN.out (by decide))).mono ?_
      rintro e w2 ⟨E, rfl, hch, hb⟩
      have C2 := Lib.hid hch
      have B2 := Lib.hid (B1.out.trans (hb.mono B1.out.size))
      clear hb hch B1
      obtain ⟨u, x, hE⟩ := C2.out.iface
      subst hE
      go_wp2_with fail
      refine (want_err c n _ l _ H0.out (HV.out.later B2.out) (Nat.le_trans HLEN.out (by decide))).mono ?_
      rintro e w3 ⟨v3, rfl, hi, hb⟩
      have B3 := Lib.hid (B2.out.trans (hb.mono B2.out.size))
      have C3 := Lib.hid (C2.out.later hb hb.size)
      have I3 := Lib.hid (hi.reads C2.out.range.1)
      obtain ⟨a3, cap3, rfl⟩ := hi.len
      obtain ⟨n3, hn3⟩ : ∃ n3, n3 = (l.reverse ++ [n]).length := ⟨_, rfl⟩
      have HN3 := Lib.hid hn3
      have HM4 : Hid ((l.reverse ++ [n]).length ≤ 1000) := by show _ ≤ _; have := HLEN.out; simp; omega
      have HM3 : Hid (n3 ≤ 1000) := by show _ ≤ _; rw [hn3]; exact HM4.out
      have I3' : Hid (IntsAt w3 (.slice a3 n3 cap3) (l.reverse ++ [n])) := by
        show IntsAt _ _ _
        rw [hn3]; exact I3.out
      rw [← hn3]
      clear hi hb C2 B2 I3 hn3
      go_wp2_with fail
      obtain ⟨T, hT⟩ : ∃ T, T = w3.heap.size := ⟨_, rfl⟩
      obtain ⟨w4, hw4⟩ : ∃ w4, w4 = w3.alloc (.cells #[.bool true, .int .i64 c, .slice a3 n3 cap3] 29) := ⟨_, rfl⟩
      have hb4 : Below w3.heap.size w3 w4 := by rw [hw4]; exact Below.newly' _ _
      have K4 : Hid (w4.heap[T]? = some (.cells #[.bool true, .int .i64 c, .slice a3 n3 cap3] 29 (0, 0))) := by show _ = _; rw [hw4, hT]; exact heap_alloc_new w3 _
      have B4 := Lib.hid (B3.out.trans (hb4.mono B3.out.size))
      have C4 := Lib.hid (C3.out.later hb4 hb4.size)
      have I4 := Lib.hid (I3'.out.later hb4)
      rw [← hw4, ← hT]
      clear hb4 hw4 hT B3 C3 I3'
      refine (fault_Last (l := l.reverse) _ _ n w4 (HG.out.below B4.out) C4.out (Nat.le_refl _) (by have := HLEN.out; simp; omega)).mono ?_
      rintro e w5 ⟨rfl, hb⟩
      have B5 := Lib.hid (B4.out.trans (hb.mono B4.out.size))
      have C5 := Lib.hid (C4.out.later hb hb.size)
      have I5 := Lib.hid (I4.out.later hb)
      have K5 := Lib.hid ((hb.block T (Array.getElem?_eq_some_iff.1 K4.out).1).trans K4.out)
      have k0 : w5.cell? ⟨T, 0, none⟩ = some (.bool true) := by have := K5.out; simp [World.cell?, this]
      have k1 : w5.cell? ⟨T, 1, none⟩ = some (.int .i64 c) := by have := K5.out; simp [World.cell?, this]
      have k2 : w5.cell? ⟨T, 2, none⟩ = some (.slice a3 n3 cap3) := by have := K5.out; simp [World.cell?, this]
      clear hb B4 C4 I4 K4
      go_wp2_with fail
      go_quiet (fail)
      go_wp2_with fail
      generalize hw6 : World.drewN _ _ = w6
      have B6 : Hid (Below w.heap.size w w6.drew) := by show Below _ _ _; rw [← hw6]; exact Below.drewMany (Below.drewMany B5.out _) 1
      have C6 : Hid (Ch w6.drew.heap.size w6.drew (.iface u x) (some c) (l.reverse ++ [n])) := by show Ch _ _ _ _ _; rw [← hw6]; exact (C5.out.drewN _).drew
      have I6 : Hid (IntsAt w6.drew (.slice a3 n3 cap3) (l.reverse ++ [n])) := by show IntsAt _ _ _; rw [← hw6]; exact I5.out
      have K6 : Hid (At T true c (.slice a3 n3 cap3) w6.drew) := by show At _ _ _ _ _; rw [← hw6]; exact K5.out
      clear hw6 B5 C5 I5 K5 k0 k1 k2
      go_region_held3 (fun W => W.cell? ⟨T, 0, none⟩ = some (.bool true) ∧ W.cell? ⟨T, 1, none⟩ = some (.int .i64 c) ∧ W.cell? ⟨T, 2, none⟩ = some (.slice a3 n3 cap3)) (first | exact K6.out.cells | exact K7.out.cells | exact K8.out.cells | exact K9.out.cells | exact K10.out.cells | exact K11.out.cells | exact K12.out.cells)
        (first
          | (go_at_call 13; refine (code_some _ _ _ _ (HG.out.below B6.out) C6.out (Nat.le_refl _)).mono ?_; rintro e w7 ⟨rfl, hb⟩; have B7 := Lib.hid (B6.out.trans (hb.mono B6.out.size)); have C7 := Lib.hid (C6.out.later hb hb.size); have I7 := Lib.hid (I6.out.later hb); have K7 := Lib.hid (K6.out.later hb); clear hb)
          | (go_at_call 14; refine (asked_true c a3 n3 cap3 _ HM3.out).mono ?_; rintro e w8 ⟨rfl, hb⟩; have B8 := Lib.hid (B7.out.trans (hb.mono B7.out.size)); have C8 := Lib.hid (C7.out.later hb hb.size); have I8 := Lib.hid (I7.out.later hb); have K8 := Lib.hid (K7.out.later hb); clear hb)
          | (go_at_call 16; refine (fault_Where _ _ _ _ (HG.out.below B8.out) C8.out (Nat.le_refl _) HM4.out).mono ?_; rintro e w9 ⟨v9, rfl, hi, hb⟩; have B9 := Lib.hid (B8.out.trans (hb.mono B8.out.size)); have V9 := Lib.hid (hi.reads C8.out.range.1); have C9 := Lib.hid (C8.out.later hb hb.size); have I9 := Lib.hid (I8.out.later hb); have K9 := Lib.hid (K8.out.later hb); clear hb hi)
          | (go_at_call 15; refine (same_self _ _ _ _ V9.out I9.out).mono ?_; rintro e w10 ⟨rfl, hb⟩; have B10 := Lib.hid (B9.out.trans (hb.mono B9.out.size)); have C10 := Lib.hid (C9.out.later hb hb.size); have I10 := Lib.hid (I9.out.later hb); have K10 := Lib.hid (K9.out.later hb); clear hb)
          | (go_at_call 17; refine (text_some _ _ _ _ (HG.out.below B10.out) (HT.out.below B10.out) C10.out (Nat.le_refl _) HM4.out).mono ?_; rintro e w11 ⟨rfl, hb⟩; have B11 := Lib.hid (B10.out.trans (hb.mono B10.out.size)); have I11 := Lib.hid (I10.out.later hb); have K11 := Lib.hid (K10.out.later hb); clear hb)
          | (go_at_call 18; refine (reftext_true c a3 cap3 n3 _ _ HC.out HN3.out HM4.out I11.out).mono ?_; rintro e w12 ⟨rfl, hb⟩; have B12 := Lib.hid (B11.out.trans (hb.mono B11.out.size)); have K12 := Lib.hid (K11.out.later hb); clear hb))
      go_wp2_with fail
      go_ret
      exact ⟨rfl, B12.out⟩
end Go.Proofs.YtlgjmmhofklneaaDoor
