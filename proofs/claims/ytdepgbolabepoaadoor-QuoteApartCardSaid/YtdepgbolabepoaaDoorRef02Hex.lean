/- The contracts of the document's own hexadecimal digits. -/
import Derived.Test.YtdepgbolabepoaaDoorRef02Quote
import Derived.Deep.RegionHeld3
import Derived.Deep.RegionWith
import Derived.IntWalk
namespace Go.Proofs.YtdepgbolabepoaaDoor
open Go.RowKit
set_option maxRecDepth 100000 in
set_option maxHeartbeats 2000000 in
theorem ref_Hex (s : ByteArray) (w : World) (hs : s.size ≤ 2000) : Calls Tryd.prog 18 #[.string s] w fun e w' => e = .returned (.string ⟨(hexS s.data.toList).toArray⟩) ∧ Below w.heap.size w w' := by
  have HI : Hid (Buf w.heap.size (.slice none 0 0) [] w) := Buf.nil (Nat.le_refl _)
  go_enter Tryd.func18, Tryd.ntmps18
  go_wp2_with fail
  go_loopw [3, 7] (fun v i wr => ∃ k : Nat, k ≤ s.size ∧ i = .int .i64 k ∧ Buf w.heap.size v (hexS (s.data.toList.take k)) wr ∧ Below w.heap.size w wr) (fun _ i _ => s.size - (intOf i).toNat)
  case atStart => exact ⟨0, Nat.zero_le _, rfl, HI.out, Below.refl _ _⟩
  case round =>
    obtain ⟨k, hk, rfl, hbuf, hbw⟩ := hrel
    have HB := Lib.hid hbuf
    have HW := Lib.hid hbw
    clear hbuf hbw HI
    have HLEN : Hid ((hexS (s.data.toList.take k)).length ≤ 4000) := by
      have := flat_len (fun c => [hxD (c.toNat / 16), hxD (c.toNat % 16)]) 2 (fun c => by simp) (s.data.toList.take k)
      rw [List.length_take] at this
      show _ ≤ _
      unfold hexS
      omega
    by_cases hlt : k < s.size
    · have HF := Lib.hid (flat_take s (fun c => [hxD (c.toNat / 16), hxD (c.toNat % 16)]) k hlt)
      have hc : (s[k].toNat : Int) < 256 := by have := s[k].toNat_lt; omega
      obtain ⟨x, hx⟩ : ∃ x : Int, (s[k].toNat : Int) = x := ⟨_, rfl⟩
      have HX := Lib.hid hx
      have hx0 : 0 ≤ x := by omega
      have hx1 : x < 256 := by omega
      obtain ⟨y, hy⟩ : ∃ y, x / 16 = y := ⟨_, rfl⟩
      obtain ⟨z, hz⟩ : ∃ z, x % 16 = z := ⟨_, rfl⟩
      have hy0 : 0 ≤ y := by omega
      have hy1 : y < 16 := by omega
      have hz0 : 0 ≤ z := by omega
      have hz1 : z < 16 := by omega
      have hq1 : IntKind.u8.wrap y = y := by rw [IntKind.wrap_u8]; omega
      have hq2 : x.tmod 16 = z := by rw [Int.tmod_eq_emod_of_nonneg (by omega)]; exact hz
      have hq3 : x.tdiv 16 = y := by rw [Int.tdiv_eq_ediv_of_nonneg (by omega)]; exact hy
      have hq4 : IntKind.u8.wrap z = z := by rw [IntKind.wrap_u8]; omega
      have HD := Lib.hid (fun w => ref_digit y hy0 hy1 w)
      have HE := Lib.hid (fun w => ref_digit z hz0 hz1 w)
      have HY : Hid (y.toNat = s[k].toNat / 16) := by show _ = _; omega
      have HZ : Hid (z.toNat = s[k].toNat % 16) := by show _ = _; omega
      clear hc
      have HQ : Hid ((hexS (s.data.toList.take k)).length + [hxD y.toNat, hxD z.toNat].length ≤ 140737488355328) := by
        have := HLEN.out
        have h2 : ([hxD y.toNat, hxD z.toNat] : List UInt8).length = 2 := rfl
        show _ ≤ _
        omega
      have HN := Lib.hid (new_cells wr [hxD y.toNat, hxD z.toNat] _ rfl)
      go_wp2_with fail
      go_region_held3 (fun _ => True) (first | exact trivial)
        (first
          | (go_at_call_of 31 y; refine (HD.out _).mono ?_; rintro e w' ⟨rfl, rfl⟩)
          | (go_at_call_of 31 z; refine (HE.out _).mono ?_; rintro e w' ⟨rfl, rfl⟩)
          | (refine buf_step rfl (.tmp 10) (.tmp 21) rfl rfl ((HB.out.alloc _).drew) [hxD y.toNat, hxD z.toNat] ⟨wr.heap.size, 0, none⟩ 2 rfl HN.out HQ.out ?_; intro v2 w2 hb2 hl2; have HB2 := Lib.hid hb2; have HL2 := Lib.hid hl2; clear hb2 hl2))
      all_goals go_wp2_with fail
      all_goals
        go_roundw
        case rel =>
          refine ⟨k + 1, by omega, by go_num, ?_, HW.out.trans ((((Below.refl _ _).alloc HB.out.2 _).drew).trans HL2.out)⟩
          have h := HB2.out
          rw [HY.out, HZ.out] at h
          show Buf _ _ (List.flatMap _ _) _
          rw [HF.out]
          exact h
        case measure => simp [intOf]; omega
    · have HF : Hid (hexS (s.data.toList.take k) = hexS s.data.toList) := by
        show _ = _
        rw [List.take_of_length_le (by rw [len_bytes]; omega)]
      have hcv := HB.out.str
      go_wp2_with fail
      go_ret
      exact ⟨by rw [← HF.out]; rfl, HW.out⟩

theorem unhxS_drop (s : ByteArray) (k : Nat) (h : k + 1 < s.size) (out : List UInt8) : unhxS (s.data.toList.drop k) out =
    if 15 < hval s[k] false ∨ 15 < hval s[k + 1] false then ([], 2) else unhxS (s.data.toList.drop (k + 2)) (out ++ [UInt8.ofNat (16 * hval s[k] false + hval s[k + 1] false)]) := by
  rw [get_mem s k (by omega), get_mem s (k + 1) h]
  simp only [unhxS]
theorem hval_le (c : UInt8) (g : Bool) : hval c g ≤ 16 := by
  unfold hval
  repeat' split
  all_goals omega
theorem ref_value_back (c : UInt8) (great : Bool) (w : World) : Calls Tryd.prog 34 #[.int .u8 (c.toNat : Int), .bool great] w fun e w' => e = .returned (.int .u8 (hval c great : Nat)) ∧ w' = w :=
  (ref_value c great w).mono fun _ _ h => ⟨h.1, h.2.symm⟩
set_option maxRecDepth 100000 in
set_option maxHeartbeats 2000000 in
theorem ref_Unhex (s : ByteArray) (w : World) (hs : s.size ≤ 8002) : Calls Tryd.prog 24 #[.string s] w fun e w' => e = .returned (.tuple #[.string ⟨(unhexS s.data.toList).1.toArray⟩, .int .i64 (unhexS s.data.toList).2]) ∧ Below w.heap.size w w' := by
  by_cases hodd : s.size % 2 = 1
  · have H : Hid (unhexS s.data.toList = ([], 2)) := by
      show _ = _
      unfold unhexS
      rw [len_bytes, if_pos hodd]
    have h1 : (s.size : Int) % 2 = 1 := by omega
    clear hodd
    go_enter Tryd.func24, Tryd.ntmps24
    go_wp2_with fail
    go_ret2
    exact ⟨by rw [H.out]; rfl, Below.refl _ _⟩
  · have H : Hid (unhexS s.data.toList = unhxS s.data.toList []) := by
      show _ = _
      unfold unhexS
      rw [len_bytes, if_neg hodd]
    have h1 : (s.size : Int) % 2 = 0 := by omega
    have h2 : s.size % 2 = 0 := by omega
    clear hodd
    have HI : Hid (Buf w.heap.size (.slice none 0 0) [] w) := Buf.nil (Nat.le_refl _)
    go_enter Tryd.func24, Tryd.ntmps24
    go_wp2_with fail
    clear h1
    go_loopw [4, 5] (fun v i wr => ∃ (k : Nat) (out : List UInt8), k ≤ s.size ∧ k % 2 = 0 ∧ i = .int .i64 k ∧ out.length ≤ k ∧ Buf w.heap.size v out wr ∧ Below w.heap.size w wr ∧ unhexS s.data.toList = unhxS (s.data.toList.drop k) out) (fun _ i _ => s.size - (intOf i).toNat)
    case atStart => exact ⟨0, [], Nat.zero_le _, rfl, rfl, Nat.zero_le _, HI.out, Below.refl _ _, by rw [List.drop_zero]; exact H.out⟩
    case round =>
      obtain ⟨k, out, hk, hk2, rfl, hlen, hbuf, hbw, heq⟩ := hrel
      have HB := Lib.hid hbuf
      have HW := Lib.hid hbw
      have HE := Lib.hid heq
      have HLEN := Lib.hid hlen
      clear hbuf hbw HI heq H hlen
      by_cases hlt : k < s.size
      · have hlt1 : k + 1 < s.size := by omega
        have HU := Lib.hid (unhxS_drop s k hlt1 out)
        have hkw : IntKind.i64.wrap ((k : Int) + 1) = (k : Int) + 1 := by rw [IntKind.wrap_i64]; omega
        have hkn : ((k : Int) + 1).toNat = k + 1 := by omega
        have hk0 : 0 ≤ (k : Int) + 1 := by omega
        have HVa := Lib.hid (fun w => ref_value_back s[k] false w)
        have HVb := Lib.hid (fun w => ref_value_back s[k + 1] false w)
        have HLa := Lib.hid (hval_le s[k] false)
        have HLb := Lib.hid (hval_le s[k + 1] false)
        obtain ⟨x, hx⟩ : ∃ x : Int, (s[k].toNat : Int) = x := ⟨_, rfl⟩
        obtain ⟨y, hy⟩ : ∃ y : Int, (s[k + 1].toNat : Int) = y := ⟨_, rfl⟩
        obtain ⟨a, ha⟩ : ∃ a, hval s[k] false = a := ⟨_, rfl⟩
        obtain ⟨b, hb⟩ : ∃ b, hval s[k + 1] false = b := ⟨_, rfl⟩
        rw [hx, ha] at HVa
        rw [hy, hb] at HVb
        rw [ha] at HLa
        rw [hb] at HLb
        rw [ha, hb] at HU
        clear ha hb
        by_cases hbad : 15 < a ∨ 15 < b
        · have HF : Hid (unhexS s.data.toList = ([], 2)) := by
            show _ = _
            rw [HE.out, HU.out, if_pos hbad]
          rcases Nat.lt_or_ge 15 a with h15 | h15
          all_goals
            go_wp2_with fail
            go_quiet (first
              | (go_at_call_of 34 x; exact Calls.quiet_of_same (HVa.out _))
              | (go_at_call_of 34 y; exact Calls.quiet_of_same (HVb.out _)))
            go_wp2_with fail
          all_goals first | (exfalso; omega) | skip
          all_goals go_ret2
          all_goals exact ⟨by rw [HF.out]; rfl, Below.drewMany HW.out _⟩
        · have ha15 : a ≤ 15 := by omega
          have hb15 : b ≤ 15 := by omega
          have HF : Hid (unhexS s.data.toList = unhxS (s.data.toList.drop (k + 2)) (out ++ [UInt8.ofNat (16 * a + b)])) := by
            show _ = _
            rw [HE.out, HU.out, if_neg hbad]
          have HN : Hid (((UInt8.ofNat (16 * a + b)).toNat : Int) = 16 * (a : Int) + (b : Int)) := by
            show _ = _
            rw [UInt8.toNat_ofNat_of_lt' (by simp only [UInt8.size]; omega)]; omega
          have HC : Hid (#[Value.int .u8 (16 * (a : Int) + (b : Int))] = (bv [UInt8.ofNat (16 * a + b)]).toArray) := by
            show _ = _
            rw [← HN.out]; rfl
          clear hbad
          go_wp2_with fail
          go_quiet (first
          | (go_at_call_of 34 x; exact Calls.quiet_of_same (HVa.out _))
          | (go_at_call_of 34 y; exact Calls.quiet_of_same (HVb.out _)))
          go_wp2_with (at_builtin; go_loud (refine buf_append_new rfl (.tmp 33) (.tmp 38) rfl rfl (HB.out.drewN _) [UInt8.ofNat (16 * a + b)] _ HC.out 1 1 rfl rfl (by have := HLEN.out; have h1 : [UInt8.ofNat (16 * a + b)].length = 1 := rfl; omega) ?_); intro v2 w2 hb2 hl2; have HB2 := Lib.hid hb2; have HL2 := Lib.hid hl2; clear hb2 hl2)
          go_roundw
          case rel =>
            refine ⟨k + 2, out ++ [UInt8.ofNat (16 * a + b)], by omega, by omega, by go_num, ?_, HB2.out, (Below.drewMany HW.out _).trans HL2.out, HF.out⟩
            have := HLEN.out
            rw [List.length_append]
            have h1 : [UInt8.ofNat (16 * a + b)].length = 1 := rfl
            omega
          case measure => simp [intOf]; omega
      · have HF : Hid (unhexS s.data.toList = (out, 0)) := by
          show _ = _
          rw [HE.out, List.drop_eq_nil_of_le (by rw [len_bytes]; omega)]; rfl
        have hcv := HB.out.str
        go_wp2_with fail
        go_ret2
        exact ⟨by rw [HF.out]; rfl, HW.out⟩
end Go.Proofs.YtdepgbolabepoaaDoor
