/- The contracts of package quote's digits read back, and of equal beginnings. -/
import Derived.Test.YtdepgbolabepoaaDoorQt6
namespace Go.Proofs.YtdepgbolabepoaaDoor
open Go.RowKit

theorem common_bad (a b : ByteArray) (k : Nat) (ht : a.data.toList.take k = b.data.toList.take k) (h1 : k < a.size) (h2 : k < b.size) (h3 : ¬ a[k] = b[k]) : commonS a.data.toList b.data.toList = k := by
  refine commonS_of k _ _ ht (by rw [len_bytes]; omega) (by rw [len_bytes]; omega) (.inr (.inr ?_))
  rw [get_bytes a k h1, get_bytes b k h2]; simpa using h3
theorem common_more (a b : ByteArray) (k : Nat) (ht : a.data.toList.take k = b.data.toList.take k) (h1 : k < a.size) (h2 : k < b.size) (h3 : a[k] = b[k]) : a.data.toList.take (k + 1) = b.data.toList.take (k + 1) := by
  rw [take_bytes a k h1, take_bytes b k h2, ht, h3]
set_option maxHeartbeats 2000000 in
theorem q_Common (a b : ByteArray) (w : World) (ha : a.size ≤ 20000) (hb : b.size ≤ 20000) : Calls Tryd.prog 13 #[.string a, .string b] w fun e w' => e = .returned (.int .i64 (commonS a.data.toList b.data.toList : Nat)) ∧ Drawn w w' := by
  rcases Nat.le_total a.size b.size with hab | hab
  · have hm : min (a.size : Int) (b.size : Int) = (a.size : Int) := by omega
    go_enter Tryd.func13, Tryd.ntmps13
    go_wp2_with fail
    clear hm
    go_loopw [13] (fun i wr => ∃ k : Nat, k ≤ a.size ∧ i = .int .i64 k ∧ a.data.toList.take k = b.data.toList.take k ∧ Drawn w wr) (fun i _ => a.size - (intOf i).toNat)
    case atStart => exact ⟨0, Nat.zero_le _, rfl, rfl, Drawn.refl _⟩
    case round =>
      obtain ⟨k, hk, rfl, ht, hd⟩ := hrel
      have HT := Lib.hid ht
      have HD := Lib.hid hd
      clear ht hd
      by_cases h1 : k < a.size
      · have h2 : k < b.size := by omega
        by_cases h3 : a[k] = b[k]
        · have HS := Lib.hid (common_more a b k HT.out (by omega) (by omega) h3)
          have h4 : ((a[k].toNat : Int) != (b[k].toNat : Int)) = false := by rw [h3]; exact bne_eq_false_iff_eq.2 rfl
          clear h3
          go_wp2_with fail
          go_quiet (fail)
          go_wp2_with fail
          go_roundw
          case rel => exact ⟨k + 1, by omega, by go_num, HS.out, HD.out.more _⟩
          case measure => simp [intOf]; omega
        · have HF := Lib.hid (common_bad a b k HT.out (by omega) (by omega) h3)
          have h4 : ((a[k].toNat : Int) != (b[k].toNat : Int)) = true := by
            rw [bne_iff_ne]
            exact fun e => h3 (UInt8.toNat_inj.1 (by omega))
          clear h3
          go_wp2_with fail
          go_quiet (fail)
          go_wp2_with fail
          go_ret
          exact ⟨ret_nat (by rw [HF.out]), HD.out.more _⟩
      · have HF : Hid (commonS a.data.toList b.data.toList = a.size) := by
          have e : k = a.size := by omega
          rw [← e]
          exact commonS_of k _ _ HT.out (by rw [len_bytes]; omega) (by rw [len_bytes]; omega) (.inl (by rw [len_bytes]; omega))
        go_wp2_with fail
        go_ret
        exact ⟨ret_nat (by rw [HF.out]), HD.out⟩
  · have hm : min (a.size : Int) (b.size : Int) = (b.size : Int) := by omega
    go_enter Tryd.func13, Tryd.ntmps13
    go_wp2_with fail
    clear hm
    go_loopw [13] (fun i wr => ∃ k : Nat, k ≤ b.size ∧ i = .int .i64 k ∧ a.data.toList.take k = b.data.toList.take k ∧ Drawn w wr) (fun i _ => b.size - (intOf i).toNat)
    case atStart => exact ⟨0, Nat.zero_le _, rfl, rfl, Drawn.refl _⟩
    case round =>
      obtain ⟨k, hk, rfl, ht, hd⟩ := hrel
      have HT := Lib.hid ht
      have HD := Lib.hid hd
      clear ht hd
      by_cases h1 : k < b.size
      · have h2 : k < a.size := by omega
        by_cases h3 : a[k] = b[k]
        · have HS := Lib.hid (common_more a b k HT.out (by omega) (by omega) h3)
          have h4 : ((a[k].toNat : Int) != (b[k].toNat : Int)) = false := by rw [h3]; exact bne_eq_false_iff_eq.2 rfl
          clear h3
          go_wp2_with fail
          go_quiet (fail)
          go_wp2_with fail
          go_roundw
          case rel => exact ⟨k + 1, by omega, by go_num, HS.out, HD.out.more _⟩
          case measure => simp [intOf]; omega
        · have HF := Lib.hid (common_bad a b k HT.out (by omega) (by omega) h3)
          have h4 : ((a[k].toNat : Int) != (b[k].toNat : Int)) = true := by
            rw [bne_iff_ne]
            exact fun e => h3 (UInt8.toNat_inj.1 (by omega))
          clear h3
          go_wp2_with fail
          go_quiet (fail)
          go_wp2_with fail
          go_ret
          exact ⟨ret_nat (by rw [HF.out]), HD.out.more _⟩
      · have HF : Hid (commonS a.data.toList b.data.toList = b.size) := by
          have e : k = b.size := by omega
          rw [← e]
          exact commonS_of k _ _ HT.out (by rw [len_bytes]; omega) (by rw [len_bytes]; omega) (.inr (.inl (by rw [len_bytes]; omega)))
        go_wp2_with fail
        go_ret
        exact ⟨ret_nat (by rw [HF.out]), HD.out⟩
set_option maxRecDepth 100000 in
set_option maxHeartbeats 2000000 in
theorem q_Unhex (s : ByteArray) (w : World) (hs : s.size ≤ 20000) : Calls Tryd.prog 23 #[.string s] w fun e w' => e = .returned (.tuple #[.string ⟨(unhexS s.data.toList).1.toArray⟩, .int .i64 (unhexS s.data.toList).2]) ∧ Below w.heap.size w w' := by
  by_cases hodd : s.size % 2 = 1
  · have H : Hid (unhexS s.data.toList = ([], 2)) := by
      show _ = _
      unfold unhexS
      rw [len_bytes, if_pos hodd]
    have h1 : (s.size : Int) % 2 = 1 := by omega
    clear hodd
    go_enter Tryd.func23, Tryd.ntmps23
    go_wp2_with fail
    go_ret2
    exact ⟨by rw [H.out]; rfl, Below.refl _ _⟩
  · have H : Hid (unhexS s.data.toList = unhxS s.data.toList []) := by
      show _ = _
      unfold unhexS
      rw [len_bytes, if_neg hodd]
    have h1 : (s.size : Int) % 2 = 0 := by omega
    have h2 : s.size % 2 = 0 := by omega
    clear hodd
    go_enter Tryd.func23, Tryd.ntmps23
    go_wp2_with (refine buf_make rfl _ _ rfl _ _ _ (s.size / 2) rfl rfl (by omega) (by omega) (Nat.le_refl w.heap.size) ?_; intro v0 w0 hb0 hl0; have HB0 := Lib.hid hb0; have HL0 := Lib.hid hl0; clear hb0 hl0)
    clear h1
    go_loopw [4, 5] (fun v i wr => ∃ (k : Nat) (out : List UInt8), k ≤ s.size ∧ k % 2 = 0 ∧ i = .int .i64 k ∧ out.length ≤ k ∧ Buf w.heap.size v out wr ∧ Below w.heap.size w wr ∧ unhexS s.data.toList = unhxS (s.data.toList.drop k) out) (fun _ i _ => s.size - (intOf i).toNat)
    case atStart => exact ⟨0, [], Nat.zero_le _, rfl, rfl, Nat.zero_le _, HB0.out, HL0.out, by rw [List.drop_zero]; exact H.out⟩
    case round =>
      obtain ⟨k, out, hk, hk2, rfl, hlen, hbuf, hbw, heq⟩ := hrel
      have HB := Lib.hid hbuf
      have HW := Lib.hid hbw
      have HE := Lib.hid heq
      have HLEN := Lib.hid hlen
      clear hbuf hbw HB0 HL0 heq H hlen
      by_cases hlt : k < s.size
      · have hlt1 : k + 1 < s.size := by omega
        have HU := Lib.hid (unhxS_drop s k hlt1 out)
        have HVa := Lib.hid (fun w => q_digitOf s[k] w)
        have HVb := Lib.hid (fun w => q_digitOf s[k + 1] w)
        have HNa := Lib.hid (fun w => q_digitOf_no s[k] w)
        have HNb := Lib.hid (fun w => q_digitOf_no s[k + 1] w)
        obtain ⟨a, ha⟩ : ∃ a, hval s[k] false = a := ⟨_, rfl⟩
        obtain ⟨b, hb⟩ : ∃ b, hval s[k + 1] false = b := ⟨_, rfl⟩
        rw [ha] at HVa HNa
        rw [hb] at HVb HNb
        rw [ha, hb] at HU
        clear ha hb
        by_cases ha15 : a ≤ 15
        · by_cases hb15 : b ≤ 15
          · have HF : Hid (unhexS s.data.toList = unhxS (s.data.toList.drop (k + 2)) (out ++ [UInt8.ofNat (16 * a + b)])) := by
              show _ = _
              rw [HE.out, HU.out, if_neg (by omega)]
            have HN : Hid (((UInt8.ofNat (16 * a + b)).toNat : Int) = 16 * (a : Int) + (b : Int)) := by
              show _ = _
              rw [UInt8.toNat_ofNat_of_lt' (by simp only [UInt8.size]; omega)]; omega
            have HC : Hid (#[Value.int .u8 (16 * (a : Int) + (b : Int))] = (bv [UInt8.ofNat (16 * a + b)]).toArray) := by
              show _ = _
              rw [← HN.out]; rfl
            have HQ : Hid (out.length + [UInt8.ofNat (16 * a + b)].length ≤ 140737488355328) := by
              have := HLEN.out; have h1 : [UInt8.ofNat (16 * a + b)].length = 1 := rfl; show _ ≤ _; omega
            have s2 : IntKind.u8.wrap ((a : Int) * 16) = ((16 * a : Nat) : Int) := by rw [IntKind.wrap_u8]; omega
            have o2 : bits .or .u8 (16 * (a : Int)) (b : Int) = 16 * (a : Int) + (b : Int) := by
              have := or_low a b (by omega) (by omega)
              simpa using this
            clear h2
            go_wp2_with fail
            refine (HVa.out _ ha15).mono ?_
            rintro e w1 ⟨rfl, rfl⟩
            go_wp2_with fail
            refine (HVb.out _ hb15).mono ?_
            rintro e w1 ⟨rfl, rfl⟩
            go_wp2_with (at_builtin; go_loud (refine buf_append_new rfl (.tmp 45) (.tmp 50) rfl rfl HB.out [UInt8.ofNat (16 * a + b)] _ HC.out 1 1 rfl rfl HQ.out ?_); intro v2 w2 hb2 hl2; have HB2 := Lib.hid hb2; have HL2 := Lib.hid hl2; clear hb2 hl2)
            go_roundw
            case rel =>
              refine ⟨k + 2, out ++ [UInt8.ofNat (16 * a + b)], by omega, by omega, by go_num, ?_, HB2.out, HW.out.trans HL2.out, HF.out⟩
              have := HLEN.out
              rw [List.length_append]
              have h1 : [UInt8.ofNat (16 * a + b)].length = 1 := rfl
              omega
            case measure => simp [intOf]; omega
          · have HF : Hid (unhexS s.data.toList = ([], 2)) := by
              show _ = _
              rw [HE.out, HU.out, if_pos (by omega)]
            go_wp2_with fail
            refine (HVa.out _ ha15).mono ?_
            rintro e w1 ⟨rfl, rfl⟩
            go_wp2_with fail
            refine (HNb.out _ (by omega)).mono ?_
            rintro e w1 ⟨rfl, rfl⟩
            go_wp2_with fail
            go_ret2
            exact ⟨by rw [HF.out]; rfl, HW.out⟩
        · have HF : Hid (unhexS s.data.toList = ([], 2)) := by
            show _ = _
            rw [HE.out, HU.out, if_pos (by omega)]
          by_cases hb15 : b ≤ 15
          · go_wp2_with fail
            refine (HNa.out _ (by omega)).mono ?_
            rintro e w1 ⟨rfl, rfl⟩
            go_wp2_with fail
            refine (HVb.out _ hb15).mono ?_
            rintro e w1 ⟨rfl, rfl⟩
            go_wp2_with fail
            go_ret2
            exact ⟨by rw [HF.out]; rfl, HW.out⟩
          · go_wp2_with fail
            refine (HNa.out _ (by omega)).mono ?_
            rintro e w1 ⟨rfl, rfl⟩
            go_wp2_with fail
            refine (HNb.out _ (by omega)).mono ?_
            rintro e w1 ⟨rfl, rfl⟩
            go_wp2_with fail
            go_ret2
            exact ⟨by rw [HF.out]; rfl, HW.out⟩
      · have HF : Hid (unhexS s.data.toList = (out, 0)) := by
          show _ = _
          rw [HE.out, List.drop_eq_nil_of_le (by rw [len_bytes]; omega)]; rfl
        have hcv := HB.out.str
        go_wp2_with fail
        go_ret2
        exact ⟨by rw [HF.out]; rfl, HW.out⟩
end Go.Proofs.YtdepgbolabepoaaDoor
