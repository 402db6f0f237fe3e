/- Layer 1: the document's own digits, and its own reading of them. -/
import Derived.Test.YtlgjmmhofklneaaDoorTextPure
import Derived.Test.YtlgjmmhofklneaaDoorRef01Bytes
import Derived.Deep.RegionWith
import Derived.Handy
import Derived.Lib.ItoaLen
namespace Go.Proofs.YtlgjmmhofklneaaDoor
open Go.RowKit

/-- A list of one byte as a text: by what its cell holds. -/
theorem old_cell {W w1 : World} (hb : Below W.heap.size W w1) (b o : Nat) (h : b < W.heap.size) : w1.cell? ⟨b, o, none⟩ = W.cell? ⟨b, o, none⟩ := hb.cell (p := ⟨b, o, none⟩) h
noncomputable def cv1X (w : World) (a : Addr) : Result Value := (convert 58 9 (.slice (some a) 1 1)).run Tryd.prog w
open Classical in
noncomputable def cv1 (w : World) (a : Addr) (c : Option Value) : Result Value := if ∃ v, 0 ≤ v ∧ v < 256 ∧ c = some (.int .u8 v) then
  match c with
  | some (.int .u8 v) => .ok (.string ⟨#[bt8 v]⟩) w
  | _ => cv1X w a
  else cv1X w a
theorem cv1_run (w : World) (a : Addr) : (convert 58 9 (.slice (some a) 1 1)).run Tryd.prog w = cv1 w a (w.cell? a) := by
  unfold cv1
  split
  · rename_i h
    obtain ⟨v, h0, h1, hc⟩ := h
    rw [hc]
    have := run_convert_bytes_back (P := Tryd.prog) w 58 9 5 a 1 [bt8 v] Tryd.underlying58 Tryd.underlying5 Tryd.underlying9 (fun j hj => by
      have hj' : j = 0 := by simp at hj; exact hj
      subst hj'
      rw [show a.add 0 = a from by simp [Addr.add], hc]
      simp [bt8_toNat]; omega)
    exact this
  · rfl
theorem cv1_at (w : World) (a : Addr) (v : Int) (h0 : 0 ≤ v) (h1 : v < 256) : cv1 w a (some (.int .u8 v)) = .ok (.string ⟨#[bt8 v]⟩) w := by
  unfold cv1
  rw [if_pos ⟨v, h0, h1, rfl⟩]

theorem bt8_dch (d : Nat) (h : d < 10) : bt8 (48 + (d : Int)) = dch d := by
  refine UInt8.toNat_inj.1 ?_
  have := bt8_toNat (48 + (d : Int))
  rw [dch_toNat d h]; omega

theorem itoa_small (n : Int) (h0 : 0 ≤ n) (h1 : n < 10) : Lib.itoa n = [bt8 (48 + n)] := by
  obtain ⟨d, rfl⟩ := Int.eq_ofNat_of_zero_le h0
  unfold Lib.itoa
  rw [if_neg (by omega), Int.toNat_natCast, dec_small d (by omega), bt8_dch d (by omega)]
theorem itoa_big (q r : Int) (h0 : 1 ≤ q) (h1 : 0 ≤ r) (h2 : r < 10) : Lib.itoa (10 * q + r) = Lib.itoa q ++ [bt8 (48 + r)] := by
  obtain ⟨k, rfl⟩ := Int.eq_ofNat_of_zero_le (show 0 ≤ q by omega)
  obtain ⟨d, rfl⟩ := Int.eq_ofNat_of_zero_le h1
  unfold Lib.itoa
  rw [if_neg (by omega), if_neg (by omega), show (10 * (k : Int) + (d : Int)).toNat = 10 * k + d by omega, Int.toNat_natCast, dec_big _ (by omega), bt8_dch d (by omega),
    show (10 * k + d) / 10 = k by omega, show (10 * k + d) % 10 = d by omega]
theorem itoa_neg (n : Int) (h : n < 0) : Lib.itoa n = 45 :: Lib.itoa (-n) := by
  unfold Lib.itoa
  rw [if_pos h, if_neg (by omega), show (-n).toNat = n.natAbs by omega]
theorem cat_mk (l r : List UInt8) : (⟨l.toArray⟩ : ByteArray) ++ ⟨r.toArray⟩ = ⟨(l ++ r).toArray⟩ := by
  apply ByteArray.ext
  simp [ByteArray.data_append]

set_option maxHeartbeats 1000000 in
theorem ref_Digits_small (n : Int) (w : World) (h0 : 0 ≤ n) (h1 : n < 10) : Calls Tryd.prog 30 #[.int .i64 n] w fun e w' => e = .returned (.string ⟨(Lib.itoa n).toArray⟩) ∧ Below w.heap.size w w' := by
  have hcv := cv1_run
  have hca : ∀ (w : World) (a : Addr), cv1 w a (some (.int .u8 (48 + n))) = .ok (.string ⟨#[bt8 (48 + n)]⟩) w := fun w a => cv1_at w a _ (by omega) (by omega)
  have hb : Hid (∀ o, Below w.heap.size w (w.alloc o)) := fun o => (Below.refl _ _).alloc (Nat.le_refl _) o
  have H := Lib.hid (itoa_small n h0 h1)
  go_enter Tryd.func30, Tryd.ntmps30
  go_wp2_with fail
  go_ret
  exact ⟨by rw [H.out]; rfl, hb.out _⟩

set_option maxHeartbeats 4000000 in
theorem ref_Digits_big (q r : Int) (hq0 : 1 ≤ q) (hr0 : 0 ≤ r) (hr1 : r ≤ 9) (hin : 10 * q + r ≤ 9223372036854775807) (w : World)
    (ih : ∀ W : World, Calls Tryd.prog 30 #[.int .i64 q] W fun e w' => e = .returned (.string ⟨(Lib.itoa q).toArray⟩) ∧ Below W.heap.size W w') :
    Calls Tryd.prog 30 #[.int .i64 (10 * q + r)] w fun e w' => e = .returned (.string ⟨(Lib.itoa (10 * q + r)).toArray⟩) ∧ Below w.heap.size w w' := by
  have IH := Lib.hid ih
  clear ih
  have hcv := cv1_run
  have hca : ∀ (w : World) (a : Addr), cv1 w a (some (.int .u8 (48 + r))) = .ok (.string ⟨#[bt8 (48 + r)]⟩) w := fun w a => cv1_at w a _ (by omega) (by omega)
  have H := Lib.hid (itoa_big q r hq0 hr0 (by omega))
  obtain ⟨n, hn⟩ : ∃ n, n = 10 * q + r := ⟨_, rfl⟩
  rw [← hn] at H hin ⊢
  have h1 : n.tdiv 10 = q := by rw [Int.tdiv_eq_ediv_of_nonneg (by omega)]; omega
  have h2 : n.tmod 10 = r := by rw [Int.tmod_eq_emod_of_nonneg (by omega)]; omega
  have h1' : n / 10 = q := by omega
  have h2' : n % 10 = r := by omega
  have hw1 : IntKind.i64.wrap q = q := by rw [IntKind.wrap_i64]; omega
  have hw2 : IntKind.i64.wrap (48 + r) = 48 + r := by rw [IntKind.wrap_i64]; omega
  have hw3 : IntKind.u8.wrap (48 + r) = 48 + r := by rw [IntKind.wrap_u8]; omega
  have hw4 : (48 + r) % 256 = 48 + r := by omega
  have hw5 : wrap64 (48 + r) = 48 + r := by unfold wrap64; omega
  have hn10 : 10 ≤ n := by omega
  have hl := Lib.itoa_length_le q (by omega) (by omega)
  clear hn
  go_enter Tryd.func30, Tryd.ntmps30
  go_wp2_with fail
  go_region_with (go_at_call 30; refine (IH.out _).mono ?_; rintro e w' ⟨rfl, hb⟩; have hbc := old_cell hb; have HB := Lib.hid hb; clear hb)
  all_goals go_wp2_with fail
  all_goals go_ret
  all_goals refine ⟨by rw [H.out, ← cat_mk]; rfl, ?_⟩
  · exact Below.chain (Below.drawn _) (Below.chain HB.out (Below.laid _ _))
  · exact Below.chain (Below.laid _ _) (Below.chain (Below.drawn _) HB.out)
  · exact Below.chain (Below.laid _ _) (Below.chain (Below.drawn _) HB.out)

theorem ref_Digits_nn (k : Nat) : ∀ (n : Int), n ≤ k → 0 ≤ n → n ≤ 9223372036854775807 → ∀ w : World,
    Calls Tryd.prog 30 #[.int .i64 n] w fun e w' => e = .returned (.string ⟨(Lib.itoa n).toArray⟩) ∧ Below w.heap.size w w' := by
  induction k with
  | zero => intro n h1 h2 h3 w; exact ref_Digits_small n w h2 (by omega)
  | succ k ih =>
    intro n h1 h2 h3 w
    by_cases h : n < 10
    · exact ref_Digits_small n w h2 h
    · have := ref_Digits_big (n / 10) (n % 10) (by omega) (by omega) (by omega) (by omega) w (ih (n / 10) (by omega) (by omega) (by omega))
      rwa [show 10 * (n / 10) + n % 10 = n by omega] at this
theorem itoa_least : Lib.itoa (-9223372036854775808) = [45, 57, 50, 50, 51, 51, 55, 50, 48, 51, 54, 56, 53, 52, 55, 55, 53, 56, 48, 56] := by
  have h : parseS [45, 57, 50, 50, 51, 51, 55, 50, 48, 51, 54, 56, 53, 52, 55, 55, 53, 56, 48, 56] = (-9223372036854775808, 0) := by decide +kernel
  have h1 := itoa_parse _ (by rw [h])
  rw [h] at h1
  exact h1
set_option maxHeartbeats 1000000 in
theorem ref_Digits (n : Int) (hn : InR n) (w : World) :
    Calls Tryd.prog 30 #[.int .i64 n] w fun e w' => e = .returned (.string ⟨(Lib.itoa n).toArray⟩) ∧ Below w.heap.size w w' := by
  obtain ⟨h0, h1⟩ := hn
  by_cases h : 0 ≤ n
  · exact ref_Digits_nn n.toNat n (by omega) h h1 w
  · by_cases hm : n = -9223372036854775808
    · subst hm
      rw [itoa_least]
      go_enter Tryd.func30, Tryd.ntmps30
      go_wp2_with fail
      go_ret
      exact ⟨rfl, Below.refl _ _⟩
    · have hc := Lib.hid (ref_Digits_nn (-n).toNat (-n) (by omega) (by omega) (by omega))
      have H := Lib.hid (itoa_neg n (by omega))
      have hl := Lib.itoa_length_le (-n) (by omega) (by omega)
      have h2 : n < 0 := by omega
      have h3 : (n == -9223372036854775808) = false := beq_eq_false_iff_ne.2 hm
      have hz : wrap64 (-n) = -n := wrap_in _ (by unfold InR; omega)
      clear h hm
      go_enter Tryd.func30, Tryd.ntmps30
      go_wp2_with fail
      refine (hc.out _).mono ?_
      rintro e w' ⟨rfl, hb⟩
      have HB := Lib.hid hb; clear hb
      go_wp2_with fail
      go_ret
      exact ⟨by rw [H.out, show (45 :: Lib.itoa (-n)) = [45] ++ Lib.itoa (-n) from rfl, ← cat_mk]; rfl, HB.out⟩
end Go.Proofs.YtlgjmmhofklneaaDoor
