/- Layer 4's law FaultKept. -/
import Derived.Test.YtlgjmmhofklneaaDoorLaw04Live
namespace Go.Proofs.YtlgjmmhofklneaaDoor
open Go.RowKit
set_option maxRecDepth 1000000
set_option maxHeartbeats 1000000

theorem IntsAt.tail {w : World} {b o len cap : Nat} {n : Int} {l : List Int} (h : IntsAt w (.slice (some ⟨b, o, none⟩) len cap) (n :: l)) (len' : Nat) (hl : len' = l.length) : IntsAt w (.slice (some ⟨b, o + 1, none⟩) len' (cap - 1)) l := by
  subst hl
  obtain ⟨a', cap', b', o', heq, ha, hc, hr, hm⟩ := h
  simp only [Value.slice.injEq] at heq
  obtain ⟨rfl, _, rfl⟩ := heq
  have e := ha (by simp)
  simp only [Option.some.injEq, Addr.mk.injEq] at e
  obtain ⟨rfl, rfl, _⟩ := e
  refine ⟨_, _, b, o + 1, rfl, fun _ => rfl, fun j hj => ?_, fun n hn => hr n (by simp [hn]), by simp at hm; omega⟩
  have := hc (j + 1) (by simp; omega)
  rw [show o + (j + 1) = o + 1 + j by omega] at this
  rw [this]; rfl

theorem ints_cap {B : Nat} {v : Value} {l : List Int} {w : World} (h : Ints B v l w) : ∃ a c, v = .slice a l.length c ∧ l.length ≤ c := by
  obtain ⟨⟨_, h2⟩, _⟩ := h
  rcases h2 with ⟨rfl, h2⟩ | ⟨g, cap, cur, fz, rfl, _, _, _, h3, _⟩
  · exact ⟨none, 0, by rw [h2], by omega⟩
  · exact ⟨_, _, rfl, h3⟩
theorem faultKept_walk (c n : Int) (v : Value) (l : List Int) (hc : InR c) (hn : InR n) (w : World) (hv : IntsAt w v l) (hg : ET w) (ht : Tab w) :
    Calls Tryd.prog 7 #[.int .i64 c, .int .i64 n, v] w fun e w' => e = .returned (.bool true) ∧ Below w.heap.size w w' := by
  have HG := Lib.hid hg
  have HL := Lib.hid (fun W (hb : Below w.heap.size w W) => live_true W (hg.below hb) (ht.below hb))
  have HV := Lib.hid hv
  have HC := Lib.hid hc
  have HN := Lib.hid hn
  obtain ⟨a, cap, b, o, rfl, _, _, _, hm⟩ := hv
  unfold maxLen at hm
  obtain ⟨len, hlen⟩ : ∃ len, len = l.length := ⟨_, rfl⟩
  have HLL := Lib.hid hlen
  rw [← hlen] at HV hm ⊢
  clear hlen hc hn hg ht
  by_cases h100 : (100 : Int) < (len : Int) ∨ c = 0
  · have two : ∀ P : Prop, ((100 : Int) < (len : Int) → P) → (¬ (100 : Int) < (len : Int) → c = 0 → P) → P := fun P h1 h2 => by
      by_cases h : (100 : Int) < (len : Int)
      · exact h1 h
      · rcases h100 with h' | h'
        · exact absurd h' h
        · exact h2 h h'
    refine two _ (fun h => ?_) (fun h h' => ?_)
    · clear two h100
      go_enter Tryd.func7, Tryd.ntmps7
      go_wp2_with fail
      refine (HL.out _ (Below.refl _ _)).mono ?_
      rintro e w1 ⟨rfl, hb⟩
      have B1 := Lib.hid hb
      clear hb
      go_wp2_with fail
      refine (HL.out _ B1.out).mono ?_
      rintro e w2 ⟨rfl, hb⟩
      have B2 := Lib.hid (B1.out.trans (hb.mono B1.out.size))
      clear hb
      go_wp2_with fail
      go_ret
      exact ⟨rfl, B2.out⟩
    · clear two h100
      subst h'
      go_enter Tryd.func7, Tryd.ntmps7
      go_wp2_with fail
      refine (HL.out _ (Below.refl _ _)).mono ?_
      rintro e w1 ⟨rfl, hb⟩
      have B1 := Lib.hid hb
      clear hb
      go_wp2_with fail
      refine (HL.out _ B1.out).mono ?_
      rintro e w2 ⟨rfl, hb⟩
      have B2 := Lib.hid (B1.out.trans (hb.mono B1.out.size))
      clear hb
      go_wp2_with fail
      go_ret
      exact ⟨rfl, B2.out⟩
  · have h100' : ¬ (100 : Int) < (len : Int) := fun h => h100 (.inl h)
    have H0 : Hid (¬ c = 0) := fun h => h100 (.inr h)
    have h1 : (c == 0) = false := beq_eq_false_iff_ne.2 H0.out
    have hcc : (c != c) = false := by simp
    have hnn : (n != n) = false := by simp
    have hlen1 : len ≤ 100 := by omega
    clear h100
    go_enter Tryd.func7, Tryd.ntmps7
    go_wp2_with fail
    refine (HL.out _ (Below.refl _ _)).mono ?_
    rintro e w1 ⟨rfl, hb⟩
    have B1 := Lib.hid hb
    clear hb
    go_wp2_with fail
    refine (fault_New c n _ H0.out HC.out HN.out).mono ?_
    rintro e w2 ⟨b2, rfl, _, hch, hb⟩
    have C2 := Lib.hid hch
    have B2 := Lib.hid (B1.out.trans (hb.mono B1.out.size))
    clear hb hch B1
    go_wp2_with fail
    go_loopw [7, 31] (fun x i wl => ∃ k : Nat, k ≤ len ∧ i = .int .i64 k ∧ Ch wl.heap.size wl x (some c) ((l.take k).reverse ++ [n]) ∧ Below w.heap.size w wl) (fun _ i _ => len - (intOf i).toNat)
    case atStart => exact ⟨0, Nat.zero_le _, rfl, by simpa using C2.out, B2.out⟩
    case round =>
      obtain ⟨k, hk, rfl, hch, hb⟩ := hrel
      have C3 := Lib.hid hch
      have B3 := Lib.hid hb
      clear hch hb C2 B2
      by_cases hkl : k < len
      · obtain ⟨b, o, hao, hcell, hrn⟩ := (HV.out.later B3.out).cellAt HLL.out k hkl
        subst hao
        obtain ⟨m, hm'⟩ : ∃ m, m = l.getD k 0 := ⟨_, rfl⟩
        rw [← hm'] at hcell hrn
        have HM := Lib.hid hm'
        have HRN := Lib.hid hrn
        have hmm : (m != m) = false := by simp
        obtain ⟨p, hp⟩ : ∃ p, p = (l.take k).reverse := ⟨_, rfl⟩
        have hpl : p.length = k := by
          have := HLL.out
          rw [hp, List.length_reverse, List.length_take]; omega
        have HP := Lib.hid hp
        have HPL := Lib.hid hpl
        rw [← hp] at C3
        clear hm' hrn hp hpl
        have h2 : ((p ++ [n]).length : Int) = (k : Int) + 1 := by rw [List.length_append, HPL.out]; simp
        have h3 : ((m :: (p ++ [n])).length : Int) = (k : Int) + 2 := by rw [List.length_cons, List.length_append, HPL.out]; simp; omega
        go_wp2_with fail
        refine (fault_Where _ _ _ _ (HG.out.below B3.out) C3.out (Nat.le_refl _) (by have := HPL.out; rw [List.length_append]; simp; omega)).mono ?_
        rintro e w4 ⟨v4, rfl, hi, hb⟩
        have V4 := Lib.hid (hi.reads C3.out.range.1)
        have C4 := Lib.hid (C3.out.later hb hb.size)
        have B4 := Lib.hid (B3.out.trans (hb.mono B3.out.size))
        clear hi hb C3 B3
        go_wp2_with fail
        refine (fault_In _ _ _ m _ C4.out (Nat.le_refl _) HRN.out).mono ?_
        rintro e w5 ⟨b5, rfl, _, _, _, hch, hb⟩
        have C5 := Lib.hid hch
        have V5 := Lib.hid (V4.out.later hb)
        have B5 := Lib.hid (B4.out.trans (hb.mono B4.out.size))
        clear hch hb C4 B4 V4
        go_wp2_with fail
        refine (fault_Where _ _ _ _ (HG.out.below B5.out) C5.out (Nat.le_refl _) (by have := HPL.out; simp; omega)).mono ?_
        rintro e w6 ⟨v6, rfl, hi, hb⟩
        obtain ⟨a6, cap6, rfl, hcap⟩ := ints_cap hi
        have e2 : (m :: (p ++ [n])).length = k + 2 := by have := HPL.out; simp; omega
        rw [e2] at hcap hi ⊢
        have W6 := Lib.hid (hi.reads C5.out.range.1)
        have V6 := Lib.hid (V5.out.later hb)
        have C6 := Lib.hid (C5.out.later hb hb.size)
        have B6 := Lib.hid (B5.out.trans (hb.mono B5.out.size))
        clear hi hb C5 B5 V5
        go_wp2_with fail
        refine (fault_Last (l := m :: p) _ _ n _ (HG.out.below B6.out) C6.out (Nat.le_refl _) (by have := HPL.out; simp; omega)).mono ?_
        rintro e w7 ⟨rfl, hb⟩
        have W7 := Lib.hid (W6.out.later hb)
        have V7 := Lib.hid (V6.out.later hb)
        have C7 := Lib.hid (C6.out.later hb hb.size)
        have B7 := Lib.hid (B6.out.trans (hb.mono B6.out.size))
        clear hb C6 B6 V6 W6
        go_wp2_with fail
        refine (fault_Code _ _ _ _ (HG.out.below B7.out) C7.out (Nat.le_refl _)).mono ?_
        rintro e w8 ⟨rfl, hb⟩
        have W8 := Lib.hid (W7.out.later hb)
        have V8 := Lib.hid (V7.out.later hb)
        have C8 := Lib.hid (C7.out.later hb hb.size)
        have B8 := Lib.hid (B7.out.trans (hb.mono B7.out.size))
        clear hb C7 B7 V7 W7
        rw [show codeS (some c) = c from rfl]
        obtain ⟨a8, cap8, b8, o8, hv8, ha8, hc8, _, hm8⟩ := W8.out
        obtain rfl := ha8 (by simp)
        simp only [Value.slice.injEq] at hv8
        obtain ⟨rfl, he8, rfl⟩ := hv8
        clear he8
        have hcell8 : w8.cell? ⟨b8, o8, none⟩ = some (.int .i64 m) := hc8 0 (by simp)
        clear ha8 hc8 h2 h3 e2 hm8
        go_wp2_with fail
        refine (ref_Same _ _ _ _ _ (W8.out.tail (k + 1) (by have := HPL.out; simp; omega)) V8.out).mono ?_
        rintro e w9 ⟨rfl, hb⟩
        have C9 := Lib.hid (C8.out.later hb hb.size)
        have B9 := Lib.hid (B8.out.trans (hb.mono B8.out.size))
        clear hb C8 B8 V8 W8
        rw [show decide (p ++ [n] = p ++ [n]) = true by simp]
        have C10 : Hid (Ch w9.heap.size w9 (.iface 43 (.pointer (some ⟨b5, 0, none⟩))) (some c) ((l.take (k + 1)).reverse ++ [n])) := by
          show Ch _ _ _ _ _
          rw [take_snocI l k (by have := HLL.out; omega), ← HM.out, List.reverse_append, List.reverse_singleton, ← HP.out]
          exact C9.out
        clear C9
        go_wp2_with fail
        go_roundw
        case rel => exact ⟨k + 1, by omega, by go_num, C10.out, B9.out⟩
        case measure => simp [intOf]; omega
      · go_wp2_with fail
        refine (fault_In_nil n _).mono ?_
        rintro e w4 ⟨rfl, rfl⟩
        go_wp2_with fail
        go_ret
        exact ⟨rfl, B3.out⟩
end Go.Proofs.YtlgjmmhofklneaaDoor
