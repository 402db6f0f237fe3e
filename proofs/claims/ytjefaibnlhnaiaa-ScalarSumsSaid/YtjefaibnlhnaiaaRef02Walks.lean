/- The contracts of the document's own answers for layer 2. -/
import Derived.Test.YtjefaibnlhnaiaaBuf
import Derived.Test.YtjefaibnlhnaiaaQuotePure
import Derived.LoopTactic
import Derived.WalkLawsBesides
import Derived.Handy
import Derived.Deep.QuietTactic
import Derived.BigQuiet
namespace Go.Proofs.Ytjefaibnlhnaiaa
open Go.RowKit

/-- Nothing but draws. -/
def Drawn (w w' : World) : Prop := ∃ n, w' = w.drewN n
theorem Drawn.refl (w : World) : Drawn w w := ⟨0, rfl⟩
theorem Drawn.more {w w1 : World} (h : Drawn w w1) (n : Nat) : Drawn w (w1.drewN n) := by
  obtain ⟨k, rfl⟩ := h
  exact ⟨k + n, by rw [World.drewN_drewN]⟩
theorem Drawn.below {w w1 : World} (h : Drawn w w1) : Below w.heap.size w w1 := by
  obtain ⟨n, rfl⟩ := h
  exact ⟨rfl, rfl, rfl, Nat.le_refl _, fun _ _ => rfl⟩
theorem len_bytes (s : ByteArray) : s.data.toList.length = s.size := by simp
theorem take_bytes (s : ByteArray) (k : Nat) (h : k < s.size) : s.data.toList.take (k + 1) = s.data.toList.take k ++ [s[k]] := by
  rw [List.take_succ_eq_append_getElem (by simpa using h)]; rfl
theorem get_bytes (s : ByteArray) (k : Nat) (h : k < s.size) : s.data.toList[k]? = some s[k] := by
  rw [List.getElem?_eq_getElem (by simpa using h)]; rfl
theorem ret_nat {x y : Int} (h : x = y) : Ending.returned (.int .i64 x) = .returned (.int .i64 y) := by rw [h]

set_option maxHeartbeats 1000000 in
theorem ref_Common (a b : ByteArray) (w : World) (ha : a.size ≤ maxLen) : Calls Try.prog 21 #[.string a, .string b] w fun e w' => e = .returned (.int .i64 (commonS a.data.toList b.data.toList : Nat)) ∧ Drawn w w' := by
  unfold maxLen at ha
  go_enter Try.func21, Try.ntmps21
  go_wp2
  go_loopw [5] (fun n wr => ∃ k : Nat, k ≤ a.size ∧ k ≤ b.size ∧ n = .int .i64 k ∧ a.data.toList.take k = b.data.toList.take k ∧ Drawn w wr) (fun n _ => a.size - (intOf n).toNat)
  case atStart => exact ⟨0, Nat.zero_le _, Nat.zero_le _, rfl, rfl, Drawn.refl _⟩
  case round =>
    obtain ⟨k, hka, hkb, rfl, ht, hd⟩ := hrel
    have HT := Lib.hid ht
    have HD := Lib.hid hd
    clear ht hd
    by_cases h1 : k < a.size
    · by_cases h2 : k < b.size
      · have h1' : decide ((k : Int) < (a.size : Int)) = true := by simp; omega
        have h2' : decide ((k : Int) < (b.size : Int)) = true := by simp; omega
        by_cases h3 : a[k] = b[k]
        · have HS : Hid (a.data.toList.take (k + 1) = b.data.toList.take (k + 1)) := by
            show _ = _
            rw [take_bytes a k h1, take_bytes b k h2, HT.out, h3]
          have h4 : ((a[k].toNat : Int) == (b[k].toNat : Int)) = true := by rw [h3]; exact beq_self_eq_true _
          have h5 : (a[k].toNat : Int) = (b[k].toNat : Int) := by rw [h3]
          clear h3
          go_wp2
          go_quiet (fail)
          go_wp2
          go_roundw
          case rel => exact ⟨k + 1, by omega, by omega, by go_num, HS.out, HD.out.more _⟩
          case measure => simp [intOf]; omega
        · have HF : Hid (commonS a.data.toList b.data.toList = k) := by
            refine commonS_of k _ _ HT.out (by rw [len_bytes]; omega) (by rw [len_bytes]; omega) (.inr (.inr ?_))
            rw [get_bytes a k h1, get_bytes b k h2]; simpa using h3
          have h5 : ¬ (a[k].toNat : Int) = (b[k].toNat : Int) := fun e => h3 (UInt8.toNat_inj.1 (by omega))
          have h4 : ((a[k].toNat : Int) == (b[k].toNat : Int)) = false := beq_eq_false_iff_ne.2 h5
          clear h3
          go_wp2
          go_quiet (fail)
          go_wp2
          go_ret
          exact ⟨ret_nat (by rw [HF.out]), HD.out.more _⟩
      · have HF : Hid (commonS a.data.toList b.data.toList = k) :=
          commonS_of k _ _ HT.out (by rw [len_bytes]; omega) (by rw [len_bytes]; omega) (.inr (.inl (by rw [len_bytes]; omega)))
        have h1' : decide ((k : Int) < (a.size : Int)) = true := by simp; omega
        have h2' : decide ((k : Int) < (b.size : Int)) = false := by simp; omega
        go_wp2
        go_quiet (fail)
        go_wp2
        go_ret
        exact ⟨ret_nat (by rw [HF.out]), HD.out.more _⟩
    · have HF : Hid (commonS a.data.toList b.data.toList = k) :=
        commonS_of k _ _ HT.out (by rw [len_bytes]; omega) (by rw [len_bytes]; omega) (.inl (by rw [len_bytes]; omega))
      have h1' : decide ((k : Int) < (a.size : Int)) = false := by simp; omega
      go_wp2
      go_quiet (fail)
      go_wp2
      go_ret
      exact ⟨ret_nat (by rw [HF.out]), HD.out.more _⟩

theorem order_bytes (a b : ByteArray) (k : Nat) (ht : a.data.toList.take k = b.data.toList.take k) (ha : k ≤ a.size) (hb : k ≤ b.size) :
    (k = a.size → k = b.size → orderS a.data.toList b.data.toList = 0) ∧ (k = a.size → ¬ k = b.size → orderS a.data.toList b.data.toList = -1) ∧ (¬ k = a.size → k = b.size → orderS a.data.toList b.data.toList = 1) ∧
    (∀ (h1 : k < a.size) (h2 : k < b.size), ((a[k].toNat : Int) < (b[k].toNat : Int) → orderS a.data.toList b.data.toList = -1) ∧ ((b[k].toNat : Int) < (a[k].toNat : Int) → orderS a.data.toList b.data.toList = 1)) := by
  obtain ⟨h1, h2, h3, h4⟩ := order_of a.data.toList b.data.toList k ht (by rw [len_bytes]; exact ha) (by rw [len_bytes]; exact hb)
  rw [len_bytes, len_bytes] at h1 h2 h3
  refine ⟨h1, h2, h3, fun g1 g2 => ?_⟩
  have := h4 (by rw [len_bytes]; exact g1) (by rw [len_bytes]; exact g2)
  exact ⟨fun h => this.1 (by rw [UInt8.lt_iff_toNat_lt]; show a[k].toNat < b[k].toNat; omega), fun h => this.2 (by rw [UInt8.lt_iff_toNat_lt]; show b[k].toNat < a[k].toNat; omega)⟩

set_option maxHeartbeats 1000000 in
theorem ref_Order (a b : ByteArray) (w : World) (ha : a.size ≤ maxLen) : Calls Try.prog 22 #[.string a, .string b] w fun e w' => e = .returned (.int .i64 (orderS a.data.toList b.data.toList)) ∧ Drawn w w' := by
  have HC := Lib.hid (ref_Common a b w ha)
  unfold maxLen at ha
  obtain ⟨k, hk⟩ : ∃ k, commonS a.data.toList b.data.toList = k := ⟨_, rfl⟩
  obtain ⟨h1, h2, h3, h4⟩ := commonS_le a.data.toList b.data.toList
  rw [hk] at h1 h2 h3 h4 HC
  rw [len_bytes] at h1 h2
  clear hk
  obtain ⟨o1, o2, o3, o4⟩ := order_bytes a b k h3 h1 h2
  have H4 : Hid (∀ (g1 : k < a.size) (g2 : k < b.size), (a[k].toNat : Int) < (b[k].toNat : Int) ∨ (b[k].toNat : Int) < (a[k].toNat : Int)) := by
    intro g1 g2
    rcases h4 with h4 | h4 | h4
    · rw [len_bytes] at h4; omega
    · rw [len_bytes] at h4; omega
    · rw [get_bytes a k g1, get_bytes b k g2] at h4
      have : ¬ a[k].toNat = b[k].toNat := fun e => h4 (by rw [UInt8.toNat_inj.1 e])
      omega
  have O1 := Lib.hid o1
  have O2 := Lib.hid o2
  have O3 := Lib.hid o3
  have O4 := Lib.hid o4
  clear o1 o2 o3 o4 h3 h4
  by_cases e1 : k = a.size <;> by_cases e2 : k = b.size
  · have H := Lib.hid (O1.out e1 e2)
    have b1 : ((k : Int) == (a.size : Int)) = true := beq_iff_eq.2 (by omega)
    have b2 : ((k : Int) == (b.size : Int)) = true := beq_iff_eq.2 (by omega)
    have i1 : (k : Int) = (a.size : Int) := by omega
    have i2 : (k : Int) = (b.size : Int) := by omega
    clear e1 e2
    go_enter Try.func22, Try.ntmps22
    go_wp2_with fail
    refine HC.out.mono ?_
    rintro e w1 ⟨rfl, hd⟩
    have HD := Lib.hid hd; clear hd
    go_wp2_with fail
    go_ret
    exact ⟨by rw [H.out]; rfl, HD.out⟩
  · have H := Lib.hid (O2.out e1 e2)
    have b1 : ((k : Int) == (a.size : Int)) = true := beq_iff_eq.2 (by omega)
    have b2 : ((k : Int) == (b.size : Int)) = false := beq_eq_false_iff_ne.2 (by omega)
    have i1 : (k : Int) = (a.size : Int) := by omega
    have i2 : ¬ (k : Int) = (b.size : Int) := by omega
    clear e1 e2
    go_enter Try.func22, Try.ntmps22
    go_wp2_with fail
    refine HC.out.mono ?_
    rintro e w1 ⟨rfl, hd⟩
    have HD := Lib.hid hd; clear hd
    go_wp2_with fail
    go_ret
    exact ⟨by rw [H.out]; rfl, HD.out⟩
  · have H := Lib.hid (O3.out e1 e2)
    have b1 : ((k : Int) == (a.size : Int)) = false := beq_eq_false_iff_ne.2 (by omega)
    have b2 : ((k : Int) == (b.size : Int)) = true := beq_iff_eq.2 (by omega)
    have i1 : ¬ (k : Int) = (a.size : Int) := by omega
    have i2 : (k : Int) = (b.size : Int) := by omega
    clear e1 e2
    go_enter Try.func22, Try.ntmps22
    go_wp2_with fail
    refine HC.out.mono ?_
    rintro e w1 ⟨rfl, hd⟩
    have HD := Lib.hid hd; clear hd
    go_wp2_with fail
    go_ret
    exact ⟨by rw [H.out]; rfl, HD.out⟩
  · have g1 : k < a.size := by omega
    have g2 : k < b.size := by omega
    have b1 : ((k : Int) == (a.size : Int)) = false := beq_eq_false_iff_ne.2 (by omega)
    have b2 : ((k : Int) == (b.size : Int)) = false := beq_eq_false_iff_ne.2 (by omega)
    have i1 : ¬ (k : Int) = (a.size : Int) := by omega
    have i2 : ¬ (k : Int) = (b.size : Int) := by omega
    clear e1 e2
    rcases H4.out g1 g2 with hlt | hlt
    · have H := Lib.hid ((O4.out g1 g2).1 hlt)
      go_enter Try.func22, Try.ntmps22
      go_wp2_with fail
      refine HC.out.mono ?_
      rintro e w1 ⟨rfl, hd⟩
      have HD := Lib.hid hd; clear hd
      go_wp2_with fail
      go_quiet (fail)
      go_wp2_with fail
      go_ret
      exact ⟨by rw [H.out]; rfl, HD.out.more _⟩
    · have H := Lib.hid ((O4.out g1 g2).2 hlt)
      have hge : ¬ (a[k].toNat : Int) < (b[k].toNat : Int) := by omega
      have hge2 : (b[k].toNat : Int) ≤ (a[k].toNat : Int) := by omega
      go_enter Try.func22, Try.ntmps22
      go_wp2_with fail
      refine HC.out.mono ?_
      rintro e w1 ⟨rfl, hd⟩
      have HD := Lib.hid hd; clear hd
      go_wp2_with fail
      go_quiet (fail)
      go_wp2_with fail
      go_ret
      exact ⟨by rw [H.out]; rfl, HD.out.more _⟩
end Go.Proofs.Ytjefaibnlhnaiaa
