/- Layer 4's laws FaultHas and FaultFound. -/
import Derived.Test.YtlgjmmhofklneaaDoorLaw04Live
namespace Go.Proofs.YtlgjmmhofklneaaDoor
open Go.RowKit
set_option maxRecDepth 1000000
set_option maxHeartbeats 4000000

theorem faultHas_walk (c d n : Int) (v : Value) (l : List Int) (hc : InR c) (_hd : InR d) (hn : InR n) (w : World) (hv : IntsAt w v l) (hg : ET w) (ht : Tab w) :
    Calls Tryd.prog 4 #[.int .i64 c, .int .i64 d, .int .i64 n, v] w fun e w' => e = .returned (.bool true) ∧ Below w.heap.size w w' := by
  have HL := Lib.hid (fun W (hb : Below w.heap.size w W) => live_true W (hg.below hb) (ht.below hb))
  have HV := Lib.hid hv
  have HC := Lib.hid hc
  have HN := Lib.hid hn
  obtain ⟨a, cap, b, o, rfl, _, _, _, hm⟩ := hv
  unfold maxLen at hm
  obtain ⟨len, hlen⟩ : ∃ len, len = l.length := ⟨_, rfl⟩
  have HLL := Lib.hid hlen
  rw [← hlen] at HV hm ⊢
  clear hlen hc hn hg ht
  by_cases h100 : (100 : Int) < (len : Int)
  · go_enter Tryd.func4, Tryd.ntmps4
    go_wp2_with fail
    refine (HL.out _ (Below.refl _ _)).mono ?_
    rintro e w1 ⟨rfl, hb⟩
    have B1 := Lib.hid hb
    clear hb
    go_wp2_with fail
    refine (HL.out _ B1.out).mono ?_
    rintro e w2 ⟨rfl, hb⟩
    have B2 := Lib.hid (B1.out.trans (hb.mono B1.out.size))
    clear hb
    go_wp2_with fail
    go_ret
    exact ⟨rfl, B2.out⟩
  · have HL1 : Hid (l.length ≤ 1000) := by
      show _ ≤ _
      have := HLL.out
      omega
    by_cases h0 : c = 0
    · subst h0
      go_enter Tryd.func4, Tryd.ntmps4
      go_wp2_with fail
      refine (HL.out _ (Below.refl _ _)).mono ?_
      rintro e w1 ⟨rfl, hb⟩
      have B1 := Lib.hid hb
      have V1 := Lib.hid (HV.out.later hb)
      clear hb
      go_wp2_with fail
      refine (made_ok n _ l _ V1.out HL1.out).mono ?_
      rintro e w2 ⟨rfl, hb⟩
      have B2 := Lib.hid (B1.out.trans (hb.mono B1.out.size))
      clear hb
      go_wp2_with fail
      refine (fault_Has_nil d _).mono ?_
      rintro e w3 ⟨rfl, hb⟩
      have B3 := Lib.hid (B2.out.trans (hb.mono B2.out.size))
      clear hb
      go_wp2_with fail
      go_ret
      exact ⟨rfl, B3.out⟩
    · have H0 := Lib.hid h0
      have h1 : (c != 0) = true := bne_iff_ne.2 h0
      have key : ∀ r : Bool, (some c == some d) = r → (d == c) = r → Calls Tryd.prog 4 #[.int .i64 c, .int .i64 d, .int .i64 n, .slice a len cap] w fun e w' => e = .returned (.bool true) ∧ Below w.heap.size w w' := by
        intro r hr1 hr2
        have HR1 := Lib.hid hr1
        clear hr1 h0
        go_enter Tryd.func4, Tryd.ntmps4
        go_wp2_with fail
        refine (HL.out _ (Below.refl _ _)).mono ?_
        rintro e w1 ⟨rfl, hb⟩
        have B1 := Lib.hid hb
        have V1 := Lib.hid (HV.out.later hb)
        clear hb
        go_wp2_with fail
        refine (made_err c n _ l _ H0.out HC.out HN.out V1.out HL1.out).mono ?_
        rintro e w2 ⟨E, rfl, hch, hb⟩
        have C2 := Lib.hid hch
        have B2 := Lib.hid (B1.out.trans (hb.mono B1.out.size))
        clear hb hch
        go_wp2_with fail
        refine (fault_Has E _ _ d _ C2.out (Nat.le_refl _)).mono ?_
        rintro e w3 ⟨rfl, hb⟩
        have B3 := Lib.hid (B2.out.trans (hb.mono B2.out.size))
        clear hb
        rw [HR1.out]
        cases r
        all_goals go_wp2_with fail
        all_goals go_ret
        all_goals exact ⟨rfl, B3.out⟩
      refine key (d == c) ?_ rfl
      rw [show ((some c : Option Int) == some d) = (c == d) from rfl]
      exact Bool.beq_comm

theorem faultFound_walk (c d n : Int) (v : Value) (l : List Int) (hc : InR c) (_hd : InR d) (hn : InR n) (w : World) (hv : IntsAt w v l) (hg : ET w) (ht : Tab w) :
    Calls Tryd.prog 5 #[.int .i64 c, .int .i64 d, .int .i64 n, v] w fun e w' => e = .returned (.bool true) ∧ Below w.heap.size w w' := by
  have HL := Lib.hid (fun W (hb : Below w.heap.size w W) => live_true W (hg.below hb) (ht.below hb))
  have HV := Lib.hid hv
  have HC := Lib.hid hc
  have HN := Lib.hid hn
  obtain ⟨a, cap, b, o, rfl, _, _, _, hm⟩ := hv
  unfold maxLen at hm
  obtain ⟨len, hlen⟩ : ∃ len, len = l.length := ⟨_, rfl⟩
  have HLL := Lib.hid hlen
  rw [← hlen] at HV hm ⊢
  clear hlen hc hn hg ht
  by_cases h100 : (100 : Int) < (len : Int) ∨ c = 0
  · have two : ∀ P : Prop, ((100 : Int) < (len : Int) → P) → (¬ (100 : Int) < (len : Int) → c = 0 → P) → P := fun P h1 h2 => by
      by_cases h : (100 : Int) < (len : Int)
      · exact h1 h
      · rcases h100 with h' | h'
        · exact absurd h' h
        · exact h2 h h'
    refine two _ (fun h => ?_) (fun h h' => ?_)
    · clear two h100
      go_enter Tryd.func5, Tryd.ntmps5
      go_wp2_with fail
      refine (HL.out _ (Below.refl _ _)).mono ?_
      rintro e w1 ⟨rfl, hb⟩
      have B1 := Lib.hid hb
      clear hb
      go_wp2_with fail
      refine (HL.out _ B1.out).mono ?_
      rintro e w2 ⟨rfl, hb⟩
      have B2 := Lib.hid (B1.out.trans (hb.mono B1.out.size))
      clear hb
      go_wp2_with fail
      go_ret
      exact ⟨rfl, B2.out⟩
    · clear two h100
      subst h'
      go_enter Tryd.func5, Tryd.ntmps5
      go_wp2_with fail
      refine (HL.out _ (Below.refl _ _)).mono ?_
      rintro e w1 ⟨rfl, hb⟩
      have B1 := Lib.hid hb
      clear hb
      go_wp2_with fail
      refine (HL.out _ B1.out).mono ?_
      rintro e w2 ⟨rfl, hb⟩
      have B2 := Lib.hid (B1.out.trans (hb.mono B1.out.size))
      clear hb
      go_wp2_with fail
      go_ret
      exact ⟨rfl, B2.out⟩
  · have HL1 : Hid (l.length ≤ 1000) := by
      show _ ≤ _
      have := HLL.out
      omega
    have h100' : ¬ (100 : Int) < (len : Int) := fun h => h100 (.inl h)
    have H0 : Hid (¬ c = 0) := fun h => h100 (.inr h)
    have h1 : (c == 0) = false := beq_eq_false_iff_ne.2 H0.out
    have key : ∀ r : Bool, (c == d) = r → Calls Tryd.prog 5 #[.int .i64 c, .int .i64 d, .int .i64 n, .slice a len cap] w fun e w' => e = .returned (.bool true) ∧ Below w.heap.size w w' := by
      intro r hr1
      have HR1 : Hid ((some c == some d) = r) := hr1
      clear h100
      go_enter Tryd.func5, Tryd.ntmps5
      go_wp2_with fail
      refine (HL.out _ (Below.refl _ _)).mono ?_
      rintro e w1 ⟨rfl, hb⟩
      have B1 := Lib.hid hb
      have V1 := Lib.hid (HV.out.later hb)
      clear hb
      go_wp2_with fail
      refine (made_err c n _ l _ H0.out HC.out HN.out V1.out HL1.out).mono ?_
      rintro e w2 ⟨E, rfl, hch, hb⟩
      have C2 := Lib.hid hch
      have B2 := Lib.hid (B1.out.trans (hb.mono B1.out.size))
      clear hb hch
      go_wp2_with fail
      refine (Is_chain E _ _ d _ C2.out).mono ?_
      rintro e w3 ⟨rfl, hb⟩
      have B3 := Lib.hid (B2.out.trans (hb.mono B2.out.size))
      clear hb
      rw [HR1.out]
      cases r
      all_goals go_wp2_with fail
      all_goals go_ret
      all_goals exact ⟨rfl, B3.out⟩
    exact key _ rfl
end Go.Proofs.YtlgjmmhofklneaaDoor
