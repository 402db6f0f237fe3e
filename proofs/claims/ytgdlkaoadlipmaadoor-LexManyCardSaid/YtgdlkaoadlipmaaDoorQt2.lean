/- The contracts of package quote's writers: digits, quotes. -/
import Derived.Test.YtgdlkaoadlipmaaDoorPkF
import Derived.Test.YtgdlkaoadlipmaaDoorQt1
import Derived.Test.YtgdlkaoadlipmaaDoorPkC
import Derived.OwnWalk
namespace Go.Proofs.YtgdlkaoadlipmaaDoor
open Go.RowKit

/-- What a call that appends to a list of its caller's ends in. -/
def Put (B : Nat) (w : World) (l : List UInt8) (e : Ending) (w' : World) : Prop := ∃ v', e = .returned v' ∧ Buf B v' l w' ∧ Below B w w'
theorem hx_index (y : Int) (h0 : 0 ≤ y) (h1 : y < 16) (w : World) : (Instr.index 9 (.string ⟨#[48, 49, 50, 51, 52, 53, 54, 55, 56, 57, 97, 98, 99, 100, 101, 102]⟩) (.int .u8 y)).run Tryd.prog w = .ok (.int .u8 ((hxD y.toNat).toNat : Int)) w := by
  obtain ⟨n, rfl⟩ : ∃ n : Nat, y = n := ⟨y.toNat, by omega⟩
  have : n = 0 ∨ n = 1 ∨ n = 2 ∨ n = 3 ∨ n = 4 ∨ n = 5 ∨ n = 6 ∨ n = 7 ∨ n = 8 ∨ n = 9 ∨ n = 10 ∨ n = 11 ∨ n = 12 ∨ n = 13 ∨ n = 14 ∨ n = 15 := by omega
  rcases this with rfl | rfl | rfl | rfl | rfl | rfl | rfl | rfl | rfl | rfl | rfl | rfl | rfl | rfl | rfl | rfl
  all_goals
    clear h0 h1
    show _ = _
    kernel_rfl
theorem and15 (n : Nat) (h : n < 256) : bits .and .u8 (n : Int) 15 = ((n % 16 : Nat) : Int) := by
  have : ∀ n : Fin 256, bits .and .u8 ((n.val : Nat) : Int) 15 = ((n.val % 16 : Nat) : Int) := by decide +kernel
  exact this ⟨n, h⟩
set_option maxHeartbeats 2000000 in
theorem q_appendHex (B : Nat) (v : Value) (l : List UInt8) (c : UInt8) (w : World) (hb : Buf B v l w) (hl : l.length ≤ 100002) : Calls Tryd.prog 73 #[v, .int .u8 (c.toNat : Int)] w (Put B w (l ++ [hxD (c.toNat / 16), hxD (c.toNat % 16)])) := by
  have hc : (c.toNat : Int) < 256 := by have := c.toNat_lt; omega
  obtain ⟨x, hx⟩ : ∃ x : Int, (c.toNat : Int) = x := ⟨_, rfl⟩
  have HX := Lib.hid hx
  have hx0 : 0 ≤ x := by omega
  have hx1 : x < 256 := by omega
  clear hc
  obtain ⟨y, hy⟩ : ∃ y, x / 16 = y := ⟨_, rfl⟩
  obtain ⟨z, hz⟩ : ∃ z, bits .and .u8 x 15 = z := ⟨_, rfl⟩
  have HZ : Hid (z.toNat = c.toNat % 16 ∧ 0 ≤ z ∧ z < 16) := by
    have h := and15 c.toNat c.toNat_lt
    rw [HX.out, hz] at h
    show _ ∧ _
    omega
  have HY : Hid (y.toNat = c.toNat / 16 ∧ 0 ≤ y ∧ y < 16) := by
    show _ ∧ _
    have := HX.out
    omega
  have HB := Lib.hid hb
  have HQ : Hid (l.length + [hxD y.toNat, hxD z.toNat].length ≤ 140737488355328) := by
    have h2 : ([hxD y.toNat, hxD z.toNat] : List UInt8).length = 2 := rfl
    show _ ≤ _
    omega
  have HN := Lib.hid (new_cells w [hxD y.toNat, hxD z.toNat] _ rfl)
  clear hb hl
  have i1 := fun w => hx_index y HY.out.2.1 HY.out.2.2 w
  have i2 := fun w => hx_index z HZ.out.2.1 HZ.out.2.2 w
  go_enter Tryd.func73, Tryd.ntmps73
  go_wp2_with fail
  go_region_held3 (fun _ => True) (first | exact trivial)
    (first | (go_loud (refine buf_step rfl (.tmp 5) (.tmp 12) rfl rfl ((HB.out.alloc _).drew) [hxD y.toNat, hxD z.toNat] ⟨w.heap.size, 0, none⟩ 2 rfl HN.out HQ.out ?_); intro v2 w2 hb2 hl2; have HB2 := Lib.hid hb2; have HL2 := Lib.hid hl2; clear hb2 hl2))
  all_goals go_wp2_with fail
  all_goals
    go_ret
    have h := HB2.out
    rw [HY.out.1, HZ.out.1] at h
    exact ⟨_, rfl, h, (((Below.refl _ _).alloc HB.out.2 _).drew).trans HL2.out⟩
set_option maxRecDepth 100000 in
set_option maxHeartbeats 4000000 in
theorem q_appendQuoted (B : Nat) (v : Value) (l : List UInt8) (c : UInt8) (w : World) (hb : Buf B v l w) (hl : l.length ≤ 100000) (hT : Esc w) : Calls Tryd.prog 63 #[v, .int .u8 (c.toNat : Int)] w (Put B w (l ++ oneS c)) := by
  have hc : (c.toNat : Int) < 256 := by have := c.toNat_lt; omega
  have HB := Lib.hid hb
  have HT := Lib.hid hT
  have HLEN := Lib.hid hl
  clear hb hT hl
  by_cases h34 : (c.toNat : Int) = 34
  · rw [one_mark (by omega)]
    have HC : Hid (c = 34) := UInt8.toNat_inj.1 (by show c.toNat = 34; omega)
    rw [h34]
    clear h34
    rw [HC.out]
    go_enter Tryd.func63, Tryd.ntmps63
    go_wp2_with (first
      | (go_at_call 72; refine (q_letterOf_34 _ HT.out).mono ?_; rintro e w1 ⟨rfl, hb1⟩; have H1 := Lib.hid hb1; clear hb1)
      | (at_builtin; go_loud (refine buf_append_new rfl (.tmp 13) (.tmp 15) rfl rfl (HB.out.later H1.out) [92, 34] _ rfl 2 2 rfl rfl (by have := HLEN.out; have h1 : [(92 : UInt8), 34].length = 2 := rfl; omega) ?_); intro v2 w2 hb2 hl2; have HB2 := Lib.hid hb2; have HL2 := Lib.hid hl2; clear hb2 hl2))
    go_ret
    exact ⟨_, rfl, HB2.out, (Below.mono H1.out HB.out.2).trans HL2.out⟩
  by_cases h92 : (c.toNat : Int) = 92
  · rw [one_mark (by omega)]
    have HC : Hid (c = 92) := UInt8.toNat_inj.1 (by show c.toNat = 92; omega)
    rw [h92]
    clear h92
    rw [HC.out]
    go_enter Tryd.func63, Tryd.ntmps63
    go_wp2_with (first
      | (go_at_call 72; refine (q_letterOf_92 _ HT.out).mono ?_; rintro e w1 ⟨rfl, hb1⟩; have H1 := Lib.hid hb1; clear hb1)
      | (at_builtin; go_loud (refine buf_append_new rfl (.tmp 13) (.tmp 15) rfl rfl (HB.out.later H1.out) [92, 92] _ rfl 2 2 rfl rfl (by have := HLEN.out; have h1 : [(92 : UInt8), 92].length = 2 := rfl; omega) ?_); intro v2 w2 hb2 hl2; have HB2 := Lib.hid hb2; have HL2 := Lib.hid hl2; clear hb2 hl2))
    go_ret
    exact ⟨_, rfl, HB2.out, (Below.mono H1.out HB.out.2).trans HL2.out⟩
  by_cases h10 : (c.toNat : Int) = 10
  · rw [one_10 h10]
    rw [h10]
    clear h10
    go_enter Tryd.func63, Tryd.ntmps63
    go_wp2_with (first
      | (go_at_call 72; refine (q_letterOf_10 _ HT.out).mono ?_; rintro e w1 ⟨rfl, hb1⟩; have H1 := Lib.hid hb1; clear hb1)
      | (at_builtin; go_loud (refine buf_append_new rfl (.tmp 13) (.tmp 15) rfl rfl (HB.out.later H1.out) [92, 110] _ rfl 2 2 rfl rfl (by have := HLEN.out; have h1 : [(92 : UInt8), 110].length = 2 := rfl; omega) ?_); intro v2 w2 hb2 hl2; have HB2 := Lib.hid hb2; have HL2 := Lib.hid hl2; clear hb2 hl2))
    go_ret
    exact ⟨_, rfl, HB2.out, (Below.mono H1.out HB.out.2).trans HL2.out⟩
  by_cases h9 : (c.toNat : Int) = 9
  · rw [one_9 h9]
    rw [h9]
    clear h9
    go_enter Tryd.func63, Tryd.ntmps63
    go_wp2_with (first
      | (go_at_call 72; refine (q_letterOf_9 _ HT.out).mono ?_; rintro e w1 ⟨rfl, hb1⟩; have H1 := Lib.hid hb1; clear hb1)
      | (at_builtin; go_loud (refine buf_append_new rfl (.tmp 13) (.tmp 15) rfl rfl (HB.out.later H1.out) [92, 116] _ rfl 2 2 rfl rfl (by have := HLEN.out; have h1 : [(92 : UInt8), 116].length = 2 := rfl; omega) ?_); intro v2 w2 hb2 hl2; have HB2 := Lib.hid hb2; have HL2 := Lib.hid hl2; clear hb2 hl2))
    go_ret
    exact ⟨_, rfl, HB2.out, (Below.mono H1.out HB.out.2).trans HL2.out⟩
  by_cases h13 : (c.toNat : Int) = 13
  · rw [one_13 h13]
    rw [h13]
    clear h13
    go_enter Tryd.func63, Tryd.ntmps63
    go_wp2_with (first
      | (go_at_call 72; refine (q_letterOf_13 _ HT.out).mono ?_; rintro e w1 ⟨rfl, hb1⟩; have H1 := Lib.hid hb1; clear hb1)
      | (at_builtin; go_loud (refine buf_append_new rfl (.tmp 13) (.tmp 15) rfl rfl (HB.out.later H1.out) [92, 114] _ rfl 2 2 rfl rfl (by have := HLEN.out; have h1 : [(92 : UInt8), 114].length = 2 := rfl; omega) ?_); intro v2 w2 hb2 hl2; have HB2 := Lib.hid hb2; have HL2 := Lib.hid hl2; clear hb2 hl2))
    go_ret
    exact ⟨_, rfl, HB2.out, (Below.mono H1.out HB.out.2).trans HL2.out⟩
  have b1 : ((34 : Int) == (c.toNat : Int)) = false := beq_eq_false_iff_ne.2 (Ne.symm h34)
  have b2 : ((92 : Int) == (c.toNat : Int)) = false := beq_eq_false_iff_ne.2 (Ne.symm h92)
  have b3 : ((10 : Int) == (c.toNat : Int)) = false := beq_eq_false_iff_ne.2 (Ne.symm h10)
  have b4 : ((9 : Int) == (c.toNat : Int)) = false := beq_eq_false_iff_ne.2 (Ne.symm h9)
  have b5 : ((13 : Int) == (c.toNat : Int)) = false := beq_eq_false_iff_ne.2 (Ne.symm h13)
  have HX := Lib.hid (fun w h => q_letterOf_x (c.toNat : Int) w h b1 b2 b3 b4 b5)
  clear b1 b2 b3 b4 b5
  by_cases hx : (c.toNat : Int) < 32 ∨ 126 < (c.toNat : Int)
  · rw [one_x ⟨h34, h92, h10, h9, h13, hx⟩]
    clear h34 h92 h10 h9 h13
    have HL3 : Hid ((l ++ [92, 120]).length ≤ 100002) := by
      have := HLEN.out
      show _ ≤ _
      rw [List.length_append]
      have h1 : [(92 : UInt8), 120].length = 2 := rfl
      omega
    rcases hx with hx | hx
    all_goals
      go_enter Tryd.func63, Tryd.ntmps63
      go_wp2_with (first
        | (go_at_call 72; refine (HX.out _ HT.out).mono ?_; rintro e w1 ⟨rfl, hb1⟩; have H1 := Lib.hid hb1; clear hb1)
        | (at_builtin; go_loud (refine buf_append_new rfl (.tmp 23) (.tmp 24) rfl rfl (HB.out.later H1.out) [92, 120] _ rfl 2 2 rfl rfl (by have := HLEN.out; have h1 : [(92 : UInt8), 120].length = 2 := rfl; omega) ?_); intro v2 w2 hb2 hl2; have HB2 := Lib.hid hb2; have HL2 := Lib.hid hl2; clear hb2 hl2)
        | (go_at_call 73; refine (q_appendHex _ _ _ c _ HB2.out HL3.out).mono ?_; rintro e w3 ⟨v3, rfl, hb3, hl3⟩; have HB3 := Lib.hid hb3; have HL4 := Lib.hid hl3; clear hb3 hl3))
      go_ret
      refine ⟨_, rfl, ?_, ((Below.mono H1.out HB.out.2).trans HL2.out).trans HL4.out⟩
      have := HB3.out
      rw [List.append_assoc] at this
      exact this
  · rw [one_c ⟨h34, h92, h10, h9, h13, hx⟩]
    have x1 : ¬ (c.toNat : Int) < 32 := by omega
    have x2 : ¬ 126 < (c.toNat : Int) := by omega
    clear h34 h92 h10 h9 h13 hx
    go_enter Tryd.func63, Tryd.ntmps63
    go_wp2_with (first
      | (go_at_call 72; refine (HX.out _ HT.out).mono ?_; rintro e w1 ⟨rfl, hb1⟩; have H1 := Lib.hid hb1; clear hb1)
      | (at_builtin; go_loud (refine buf_append_new rfl (.tmp 28) (.tmp 30) rfl rfl (HB.out.later H1.out) [c] _ rfl 1 1 rfl rfl (by have := HLEN.out; have h1 : [c].length = 1 := rfl; omega) ?_); intro v2 w2 hb2 hl2; have HB2 := Lib.hid hb2; have HL2 := Lib.hid hl2; clear hb2 hl2))
    go_ret
    exact ⟨_, rfl, HB2.out, (Below.mono H1.out HB.out.2).trans HL2.out⟩
theorem q_quote_len (s : ByteArray) (k : Nat) (hk : k ≤ s.size) : (34 :: (s.data.toList.take k).flatMap oneS).length ≤ 4 * s.size + 1 := by
  have := flat_len oneS 4 (fun c => (oneS_len c).2) (s.data.toList.take k)
  rw [List.length_take] at this
  rw [List.length_cons]
  omega
set_option maxRecDepth 100000 in
set_option maxHeartbeats 4000000 in
theorem q_Quote (s : ByteArray) (w : World) (hs : s.size ≤ 20000) (hT : Esc w) : Calls Tryd.prog 50 #[.string s] w fun e w' => e = .returned (.string ⟨(quoteS s.data.toList).toArray⟩) ∧ Below w.heap.size w w' := by
  have HT := Lib.hid hT
  clear hT
  go_enter Tryd.func50, Tryd.ntmps50
  go_wp2_with (first
    | (refine buf_make rfl _ _ rfl _ _ _ (s.size + 2) rfl rfl (by omega) (by omega) (Nat.le_refl w.heap.size) ?_; intro v0 w0 hb0 hl0; have HB0 := Lib.hid hb0; have HL0 := Lib.hid hl0; clear hb0 hl0)
    | (at_builtin; go_loud (refine buf_append_new rfl (.tmp 9) (.tmp 10) rfl rfl HB0.out [34] _ rfl 1 1 rfl rfl (by have h1 : [(34 : UInt8)].length = 1 := rfl; simp) ?_); intro v1 w1 hb1 hl1; have HB1 := Lib.hid hb1; have HL1 := Lib.hid hl1; clear hb1 hl1))
  go_loopw [3, 14] (fun v i wr => ∃ k : Nat, k ≤ s.size ∧ i = .int .i64 k ∧ Buf w.heap.size v (34 :: (s.data.toList.take k).flatMap oneS) wr ∧ Below w.heap.size w wr) (fun _ i _ => s.size - (intOf i).toNat)
  case atStart => exact ⟨0, Nat.zero_le _, rfl, HB1.out, HL0.out.trans HL1.out⟩
  case round =>
    obtain ⟨k, hk, rfl, hbuf, hbw⟩ := hrel
    have HB := Lib.hid hbuf
    have HW := Lib.hid hbw
    have HLEN := Lib.hid (q_quote_len s k hk)
    clear hbuf hbw HB0 HL0 HB1 HL1
    by_cases hlt : k < s.size
    · have HF := Lib.hid (flat_take s oneS k hlt)
      go_wp2_with (go_at_call 63; refine (q_appendQuoted _ _ _ s[k] _ HB.out (by have := HLEN.out; omega) (HT.out.below HW.out)).mono ?_; rintro e w2 ⟨v2, rfl, hb2, hl2⟩; have HB2 := Lib.hid hb2; have HL2 := Lib.hid hl2; clear hb2 hl2)
      go_roundw
      case rel => exact ⟨k + 1, by omega, by go_num, by rw [HF.out]; exact HB2.out, HW.out.trans HL2.out⟩
      case measure => simp [intOf]; omega
    · have HF : Hid ((s.data.toList.take k).flatMap oneS = s.data.toList.flatMap oneS) := by
        show _ = _
        rw [List.take_of_length_le (by rw [len_bytes]; omega)]
      go_wp2_with (at_builtin; go_loud (refine buf_append_new rfl (.tmp 23) (.tmp 24) rfl rfl HB.out [34] _ rfl 1 1 rfl rfl (by have := HLEN.out; have h1 : [(34 : UInt8)].length = 1 := rfl; omega) ?_); intro v2 w2 hb2 hl2; have hcv := hb2.str; have HL2 := Lib.hid hl2; clear hb2 hl2)
      go_ret
      exact ⟨by unfold quoteS; rw [← HF.out]; rfl, HW.out.trans HL2.out⟩
theorem q_hex_len (s : ByteArray) (k : Nat) (hk : k ≤ s.size) : (hexS (s.data.toList.take k)).length ≤ 2 * s.size := by
  have := flat_len (fun c => [hxD (c.toNat / 16), hxD (c.toNat % 16)]) 2 (fun c => by simp) (s.data.toList.take k)
  rw [List.length_take] at this
  unfold hexS
  omega
end Go.Proofs.YtgdlkaoadlipmaaDoor
