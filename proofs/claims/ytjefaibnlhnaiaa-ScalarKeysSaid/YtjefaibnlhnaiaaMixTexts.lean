/- The contracts of package mix's sums of texts, and of the document's own narrowed bits. -/
import Derived.Test.YtjefaibnlhnaiaaMixChunks
namespace Go.Proofs.Ytjefaibnlhnaiaa
open Go.RowKit

theorem mixlen_bytes (s : ByteArray) : s.data.toList.length = s.size := by simp
theorem mixget_bytes (s : ByteArray) (k : Nat) (h : k < s.size) : s.data.toList.getD k 0 = s[k] := by
  rw [List.getD_eq_getElem?_getD, List.getElem?_eq_getElem (by simpa using h)]; rfl
theorem mixcut_drop (s : ByteArray) (k : Nat) : (s.extract k s.size).data.toList = s.data.toList.drop k := by
  simp
  rw [List.take_of_length_le (by simp)]
theorem mixcut_size (s : ByteArray) (k : Nat) : (s.extract k s.size).size = s.size - k := by simp

theorem wrap_nat (n : Nat) (h : n < 18446744073709551616) : IntKind.u64.wrap (n : Int) = (n : Int) := by rw [IntKind.wrap_u64]; omega

theorem shl_nat (c : UInt8) (k : Nat) (hk : k ≤ 7) : IntKind.u64.wrap (IntKind.u64.wrap (c.toNat : Int) * 2 ^ (8 * (7 - k))) = ((c.toNat * 2 ^ (8 * (7 - k)) : Nat) : Int) := by
  have hc : c.toNat < 256 := c.toNat_lt
  have h := byte_lt c k hk
  rw [pow_nat, IntKind.wrap_u64, IntKind.wrap_u64, show ((c.toNat : Int) % 18446744073709551616) = (c.toNat : Int) by omega, ← Int.natCast_mul]
  omega

theorem wd_step (l : List UInt8) (k : Nat) (c : UInt8) (hk : k ≤ 7) (hc : l.getD k 0 = c) :
    bits .or .u64 (wd l k : Int) (IntKind.u64.wrap (IntKind.u64.wrap (c.toNat : Int) * 2 ^ (8 * (7 - k)))) = (wd l (k + 1) : Int) := by
  rw [shl_nat c k hk, bits_or_u64_nat _ _ (wd_lt l k (by omega)) (byte_lt c k hk), ← hc]; rfl



theorem mix_word (s : ByteArray) (hs : s.size ≤ maxLen) (w : World) :
    Calls Try.prog 44 #[.string s] w fun e w' => e = .returned (.int .u64 (wd s.data.toList (min s.size 8) : Nat)) ∧ w = w' := by
  unfold maxLen at hs
  go_enter Try.func44, Try.ntmps44
  go_wp2_with fail
  go_loop [3, 8] (fun v n => ∃ i : Nat, i ≤ s.size ∧ i ≤ 8 ∧ n = .int .i64 i ∧ v = .int .u64 (wd s.data.toList i : Nat)) (fun _ n => 8 - (intOf n).toNat)
  case atStart => exact ⟨0, Nat.zero_le _, Nat.zero_le _, rfl, rfl⟩
  case round =>
    obtain ⟨i, hi, h9, rfl, rfl⟩ := hrel
    by_cases h1 : i < 8 ∧ i < s.size
    · obtain ⟨h1, h2⟩ := h1
      have HS := Lib.hid (wd_step s.data.toList i s[i] (by omega) (mixget_bytes s i h2))
      go_wp2
      go_round
      case rel => exact ⟨i + 1, by omega, by omega, by go_num, by rw [HS.out]⟩
      case measure => simp [intOf]; omega
    · have e : Hid (i = min s.size 8) := by show _ = _; omega
      go_wp2
      go_ret
      exact ⟨ret_u64 (by rw [e.out]), rfl⟩

set_option maxHeartbeats 1000000 in
theorem mix_Text (seed : Nat) (s : ByteArray) (hseed : seed < 18446744073709551616) (hz : s.size ≤ 9223372036854775800) (w : World) :
    Calls Try.prog 37 #[.int .u64 (seed : Int), .string s] w fun e w' => e = .returned (.int .u64 (txtN seed s.data.toList : Nat)) ∧ w = w' := by
  have H0 := Lib.hid (fun w => mix_Step seed s.size hseed (by omega) w)
  have hc : IntKind.u64.wrap (s.size : Int) = (s.size : Int) := by rw [IntKind.wrap_u64]; omega
  clear hseed
  go_enter Try.func37, Try.ntmps37
  go_wp2_with fail
  refine (H0.out w).mono ?_
  rintro e w1 ⟨rfl, rfl⟩
  go_wp2_with fail
  go_loop [5, 6] (fun v n => ∃ a j : Nat, Hid (a = 8 * j) ∧ a ≤ s.size + 7 ∧ n = .int .i64 a ∧ v = .int .u64 (hs seed s.data.toList j : Nat)) (fun _ n => s.size + 7 - (intOf n).toNat)
  case atStart => exact ⟨0, 0, rfl, Nat.zero_le _, rfl, by rw [hs, mixlen_bytes]⟩
  case round =>
    obtain ⟨a, j, HJ, ha, rfl, rfl⟩ := hrel
    by_cases h1 : a < s.size
    · have HW := Lib.hid (fun w => mix_word (s.extract a s.size) (by rw [mixcut_size]; unfold maxLen; omega) w)
      rw [mixcut_drop, mixcut_size] at HW
      obtain ⟨x, hx⟩ : ∃ x, x = wd (s.data.toList.drop a) (min (s.size - a) 8) := ⟨_, rfl⟩
      rw [← hx] at HW
      have HX : Hid (x = wd (s.data.toList.drop (8 * j)) (min (s.data.toList.length - 8 * j) 8)) := by show _ = _; rw [mixlen_bytes, ← HJ.out]; exact hx
      have HS := Lib.hid (fun w => mix_Step (hs seed s.data.toList j) x (hs_lt _ _ _) (hx ▸ wd_lt _ _ (by omega)) w)
      clear hx
      go_wp2_with fail
      refine (HW.out _).mono ?_
      rintro e w1 ⟨rfl, rfl⟩
      go_wp2_with fail
      refine (HS.out _).mono ?_
      rintro e w1 ⟨rfl, rfl⟩
      go_wp2_with fail
      go_round
      case rel => exact ⟨a + 8, j + 1, by show _ = _; have := HJ.out; omega, by omega, by go_num, by rw [HX.out]; rfl⟩
      case measure => simp [intOf]; omega
    · have HE := Lib.hid (fun w => mix_End (hs seed s.data.toList j) (hs_lt _ _ _) w)
      have e : Hid (j = (s.data.toList.length + 7) / 8) := by show _ = _; rw [mixlen_bytes]; have := HJ.out; omega
      go_wp2_with fail
      refine (HE.out _).mono ?_
      rintro e w1 ⟨rfl, rfl⟩
      go_wp2_with fail
      go_ret
      exact ⟨ret_u64 (by rw [e.out]; rfl), rfl⟩

/-- what the document's own sum of a text holds ahead of byte i: the sum, and the word so far -/
def Tr (seed : Nat) (l : List UInt8) (i o p : Nat) : Prop :=
  o = hs seed l (if i = l.length then (l.length + 7) / 8 else i / 8) ∧ p = wd (l.drop (8 * (i / 8))) (if i = l.length then 0 else i % 8)

theorem tr_start (seed : Nat) (l : List UInt8) : Tr seed l 0 (stepN seed l.length) 0 := by
  refine ⟨?_, ?_⟩
  · have : (if 0 = l.length then (l.length + 7) / 8 else 0 / 8) = 0 := by split <;> omega
    rw [this]; rfl
  · have : (if 0 = l.length then 0 else 0 % 8) = 0 := by split <;> rfl
    rw [this]; rfl

theorem tr_word {seed : Nat} {l : List UInt8} {i o p : Nat} (h : Tr seed l i o p) (hi : i < l.length) : p = wd (l.drop (8 * (i / 8))) (i % 8) := by
  have := h.2
  rwa [if_neg (by omega)] at this
theorem tr_sum {seed : Nat} {l : List UInt8} {i o p : Nat} (h : Tr seed l i o p) (hi : i < l.length) : o = hs seed l (i / 8) := by
  have := h.1
  rwa [if_neg (by omega)] at this
theorem tr_lt {seed : Nat} {l : List UInt8} {i o p : Nat} (h : Tr seed l i o p) : o < 18446744073709551616 := by rw [h.1]; exact hs_lt _ _ _

theorem tr_flush {seed : Nat} {l : List UInt8} {i o p x : Nat} (h : Tr seed l i o p) (hi : i < l.length) (hf : i % 8 = 7 ∨ i + 1 = l.length) (hx : x = wd (l.drop (8 * (i / 8))) (i % 8 + 1)) : Tr seed l (i + 1) (stepN o x) 0 := by
  have e : min (l.length - 8 * (i / 8)) 8 = i % 8 + 1 := by omega
  have e1 : (if i + 1 = l.length then (l.length + 7) / 8 else (i + 1) / 8) = i / 8 + 1 := by split <;> omega
  have e2 : (if i + 1 = l.length then 0 else (i + 1) % 8) = 0 := by split <;> omega
  refine ⟨?_, ?_⟩
  · rw [e1, tr_sum h hi, hx, ← e]; rfl
  · rw [e2]; rfl

theorem tr_keep {seed : Nat} {l : List UInt8} {i o p x : Nat} (h : Tr seed l i o p) (hi : i < l.length) (h7 : ¬ i % 8 = 7) (hl : ¬ i + 1 = l.length) (hx : x = wd (l.drop (8 * (i / 8))) (i % 8 + 1)) : Tr seed l (i + 1) o x := by
  refine ⟨?_, ?_⟩
  · rw [if_neg hl, tr_sum h hi, show (i + 1) / 8 = i / 8 by omega]
  · rw [if_neg hl, hx, show (i + 1) / 8 = i / 8 by omega, show (i + 1) % 8 = i % 8 + 1 by omega]

theorem tr_end {seed : Nat} {l : List UInt8} {o p : Nat} (h : Tr seed l l.length o p) : endN o = txtN seed l := by
  have := h.1
  rw [if_pos rfl] at this
  rw [this]; rfl

theorem tr_or {seed : Nat} {s : ByteArray} {i o p : Nat} (h : Tr seed s.data.toList i o p) (hi : i < s.size) :
    bits .or .u64 (p : Int) (IntKind.u64.wrap (IntKind.u64.wrap (s[i].toNat : Int) * 2 ^ (56 - 8 * (i % 8)))) = (wd (s.data.toList.drop (8 * (i / 8))) (i % 8 + 1) : Nat) := by
  rw [tr_word h (by rw [mixlen_bytes]; exact hi), show 56 - 8 * (i % 8) = 8 * (7 - i % 8) by omega]
  refine wd_step _ _ s[i] (by omega) ?_
  rw [← mixget_bytes s i hi, List.getD_eq_getElem?_getD, List.getD_eq_getElem?_getD, List.getElem?_drop, show 8 * (i / 8) + i % 8 = i by omega]

set_option maxHeartbeats 1000000 in
theorem ref_Text (seed : Nat) (s : ByteArray) (hseed : seed < 18446744073709551616) (hz : s.size ≤ 9223372036854775800) (w : World) :
    Calls Try.prog 38 #[.int .u64 (seed : Int), .string s] w fun e w' => e = .returned (.int .u64 (txtN seed s.data.toList : Nat)) ∧ w = w' := by
  have H0 := Lib.hid (fun w => ref_Step seed s.size hseed (by omega) w)
  have hc : IntKind.u64.wrap (s.size : Int) = (s.size : Int) := by rw [IntKind.wrap_u64]; omega
  clear hseed
  go_enter Try.func38, Try.ntmps38
  go_wp2_with fail
  refine (H0.out w).mono ?_
  rintro e w1 ⟨rfl, rfl⟩
  go_wp2_with fail
  go_loop [5, 6, 15] (fun v x n => ∃ i o p : Nat, i ≤ s.size ∧ n = .int .i64 i ∧ v = .int .u64 o ∧ x = .int .u64 p ∧ Hid (Tr seed s.data.toList i o p)) (fun _ _ n => s.size - (intOf n).toNat)
  case atStart => exact ⟨0, _, 0, Nat.zero_le _, rfl, rfl, rfl, by have := tr_start seed s.data.toList; rwa [mixlen_bytes] at this⟩
  case round =>
    obtain ⟨i, o, p, hi, rfl, rfl, rfl, HT⟩ := hrel
    by_cases h1 : i < s.size
    · obtain ⟨x, hx⟩ : ∃ x, x = wd (s.data.toList.drop (8 * (i / 8))) (i % 8 + 1) := ⟨_, rfl⟩
      have ho := tr_or HT.out h1
      rw [← hx] at ho
      have HX := Lib.hid hx
      have HL : Hid (i < s.data.toList.length) := by show _ < _; rw [mixlen_bytes]; exact h1
      have HS := Lib.hid (fun w => ref_Step o x (tr_lt HT.out) (hx ▸ wd_lt _ _ (by omega)) w)
      clear hx
      by_cases h2 : i % 8 = 7
      · have HF := Lib.hid (tr_flush HT.out HL.out (.inl h2) HX.out)
        rw [h2, show 56 - 8 * 7 = 0 from rfl, Int.pow_zero, Int.mul_one] at ho
        go_wp2_with fail
        refine (HS.out _).mono ?_
        rintro e w1 ⟨rfl, rfl⟩
        go_wp2_with fail
        go_round
        case rel => exact ⟨i + 1, _, 0, by omega, by go_num, rfl, rfl, HF⟩
        case measure => simp [intOf]; omega
      · have h2' : ((i : Int) % 8 == 7) = false := beq_eq_false_iff_ne.2 (by omega)
        by_cases h3 : i + 1 = s.size
        · have HF := Lib.hid (tr_flush HT.out HL.out (.inr (by rw [mixlen_bytes]; exact h3)) HX.out)
          have h3' : ((i : Int) == (s.size : Int) - 1) = true := by simp; omega
          go_wp2_with fail
          refine (HS.out _).mono ?_
          rintro e w1 ⟨rfl, rfl⟩
          go_wp2_with fail
          go_round
          case rel => exact ⟨i + 1, _, 0, by omega, by go_num, rfl, rfl, HF⟩
          case measure => simp [intOf]; omega
        · have HK := Lib.hid (tr_keep HT.out HL.out h2 (by rw [mixlen_bytes]; exact h3) HX.out)
          have h3' : ((i : Int) == (s.size : Int) - 1) = false := beq_eq_false_iff_ne.2 (by omega)
          go_wp2_with fail
          go_round
          case rel => exact ⟨i + 1, _, _, by omega, by go_num, rfl, rfl, HK⟩
          case measure => simp [intOf]; omega
    · have e : i = s.data.toList.length := by rw [mixlen_bytes]; omega
      have HE := Lib.hid (fun w => ref_End o (tr_lt HT.out) w)
      have HV : Hid (endN o = txtN seed s.data.toList) := tr_end (e ▸ HT.out)
      clear e
      go_wp2_with fail
      refine (HE.out _).mono ?_
      rintro e w1 ⟨rfl, rfl⟩
      go_wp2_with fail
      go_ret
      exact ⟨ret_u64 (by rw [HV.out]), rfl⟩
end Go.Proofs.Ytjefaibnlhnaiaa
