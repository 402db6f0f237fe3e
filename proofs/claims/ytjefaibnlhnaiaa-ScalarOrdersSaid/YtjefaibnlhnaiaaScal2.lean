/- Package scalar's own keys: what Key and textKey answer. -/
import Derived.Test.YtjefaibnlhnaiaaScal1
import Derived.Test.YtjefaibnlhnaiaaBufMake
import Derived.Handy
namespace Go.Proofs.Ytjefaibnlhnaiaa
open Go.RowKit
set_option maxRecDepth 1000000

theorem cov_take_len (s : ByteArray) (k : Nat) (hs : s.size ≤ 1000000) : (4 :: covS (s.data.toList.take k)).length ≤ 2000001 := by
  have h := cov_len (s.data.toList.take k)
  have h2 : (s.data.toList.take k).length ≤ 1000000 := by rw [List.length_take, len_bytes]; omega
  simp only [List.length_cons]
  omega
set_option maxHeartbeats 4000000 in
theorem sc_textKey (s : ByteArray) (w : World) (hs : s.size ≤ 1000000) :
    Calls Try.prog 26 #[.string s] w fun e w' => e = .returned (.string ⟨(4 :: (covS s.data.toList ++ [0, 0])).toArray⟩) ∧ Below w.heap.size w w' := by
  go_enter Try.func26, Try.ntmps26
  go_wp2_with (first
    | (refine buf_make rfl _ _ rfl _ _ _ (s.size + 3) rfl rfl (by omega) (by omega) (Nat.le_refl w.heap.size) ?_; intro v0 w0 hb0 hl0; have HB0 := Lib.hid hb0; have HL0 := Lib.hid hl0; clear hb0 hl0)
    | (at_builtin; go_loud (refine buf_append_new rfl (.tmp 10) (.tmp 11) rfl rfl HB0.out [4] _ rfl 1 1 rfl rfl (by decide) ?_); intro v1 w1 hb1 hl1; have HB1 := Lib.hid hb1; have HL1 := Lib.hid hl1; clear hb1 hl1))
  go_loopw [3, 15] (fun v i wr => ∃ k : Nat, k ≤ s.size ∧ i = .int .i64 k ∧ Buf w.heap.size v (4 :: covS (s.data.toList.take k)) wr ∧ Below w.heap.size w wr) (fun _ i _ => s.size - (intOf i).toNat)
  case atStart => exact ⟨0, Nat.zero_le _, rfl, HB1.out, HL0.out.trans HL1.out⟩
  case round =>
    obtain ⟨k, hk, rfl, hbuf, hbw⟩ := hrel
    have HB := Lib.hid hbuf
    have HW := Lib.hid hbw
    have HLEN := Lib.hid (cov_take_len s k hs)
    clear hbuf hbw HB0 HL0 HB1 HL1
    by_cases hlt : k < s.size
    · have HF := Lib.hid (cov_take s k hlt)
      by_cases h0 : s[k] = 0
      · have h0' : (s[k].toNat : Int) = 0 := by rw [h0]; rfl
        rw [h0] at HF
        clear h0
        go_wp2_with (first
          | (at_builtin; go_loud (refine buf_append_new rfl (.tmp 24) (.tmp 25) rfl rfl HB.out [0] _ rfl 1 1 rfl rfl (by have := HLEN.out; have h1 : [(0 : UInt8)].length = 1 := rfl; omega) ?_); intro v2 w2 hb2 hl2; have HB2 := Lib.hid hb2; have HL2 := Lib.hid hl2; clear hb2 hl2)
          | (at_builtin; go_loud (refine buf_append_new rfl (.tmp 27) (.tmp 29) rfl rfl HB2.out [255] _ rfl 1 1 rfl rfl (by have := HLEN.out; have h1 : [(255 : UInt8)].length = 1 := rfl; rw [List.length_append]; have h2 : [(0 : UInt8)].length = 1 := rfl; omega) ?_); intro v3 w3 hb3 hl3; have HB3 := Lib.hid hb3; have HL3 := Lib.hid hl3; clear hb3 hl3))
        go_roundw
        case rel =>
          refine ⟨k + 1, by omega, by go_num, ?_, (HW.out.trans HL2.out).trans HL3.out⟩
          have h := HB3.out
          rw [List.append_assoc] at h
          rw [HF.out]
          exact h
        case measure => simp [intOf]; omega
      · have h0' : ¬ (s[k].toNat : Int) = 0 := fun e => h0 (UInt8.toNat_inj.1 (by simpa using e))
        have HC : Hid (covOne s[k] = [s[k]]) := by show _ = _; simp [covOne, h0]
        clear h0
        go_wp2_with (at_builtin; go_loud (refine buf_append_new rfl (.tmp 27) (.tmp 29) rfl rfl HB.out [s[k]] _ rfl 1 1 rfl rfl (by have := HLEN.out; have h1 : [s[k]].length = 1 := rfl; omega) ?_); intro v2 w2 hb2 hl2; have HB2 := Lib.hid hb2; have HL2 := Lib.hid hl2; clear hb2 hl2)
        go_roundw
        case rel =>
          refine ⟨k + 1, by omega, by go_num, ?_, HW.out.trans HL2.out⟩
          have h := HB2.out
          rw [HF.out, HC.out]
          exact h
        case measure => simp [intOf]; omega
    · have HF : Hid (covS (s.data.toList.take k) = covS s.data.toList) := by show _ = _; rw [List.take_of_length_le (by rw [len_bytes]; omega)]
      go_wp2_with (at_builtin; go_loud (refine buf_append_new rfl (.tmp 32) (.tmp 33) rfl rfl HB.out [0, 0] _ rfl 2 2 rfl rfl (by have := HLEN.out; have h1 : [(0 : UInt8), 0].length = 2 := rfl; omega) ?_); intro v2 w2 hb2 hl2; have hcv := hb2.str; have HL2 := Lib.hid hl2; clear hb2 hl2)
      go_ret
      exact ⟨by rw [← HF.out]; rfl, HW.out.trans HL2.out⟩
theorem old_cell5 {W w1 : World} (hb : Below W.heap.size W w1) (b o : Nat) (h : b < W.heap.size) : w1.cell? ⟨b, o, none⟩ = W.cell? ⟨b, o, none⟩ := hb.cell (p := ⟨b, o, none⟩) h
theorem lit_str (l : List UInt8) (cs : Array Value) (hc : cs.toList = bv l) (hl : l.length ≤ 4096) (W : World) :
    (convert 41 9 (.slice (some ⟨W.heap.size, 0, none⟩) l.length l.length)).run Try.prog (W.alloc (.cells cs 5)) = .ok (.string ⟨l.toArray⟩) (W.alloc (.cells cs 5)) :=
  (Buf.lit (B := W.heap.size) (Nat.le_refl _) cs l hc hl).str
set_option maxHeartbeats 4000000 in
theorem sc_Key (k n : Int) (t : ByteArray) (w : World) (hn : InR n) (ht : t.size ≤ 1000000) :
    Calls Try.prog 14 #[scV k n t] w fun e w' => e = .returned (.string ⟨(keySc (scT k n t)).toArray⟩) ∧ Below w.heap.size w w' := by
  have hb0 : Below w.heap.size w (w.alloc (.cells #[.int .i64 k, .int .i64 n, .string t] 23)) := Below.newly' w _
  have HN := Lib.hid hb0
  have HC := Lib.hid (fun W => sc_Check k n t W)
  have HV := Lib.hid (fun W => sc_textKey t W ht)
  have HB := Lib.hid (fun W => num_Bytes n W hn)
  clear hn hb0 ht
  by_cases hc : chkSc (scT k n t) = 0
  · have key : ∀ (W : World), Below (w.alloc (.cells #[.int .i64 k, .int .i64 n, .string t] 23)).heap.size (w.alloc (.cells #[.int .i64 k, .int .i64 n, .string t] 23)) W →
        W.cell? ⟨w.heap.size, 0, none⟩ = some (.int .i64 k) ∧ W.cell? ⟨w.heap.size, 1, none⟩ = some (.int .i64 n) ∧ W.cell? ⟨w.heap.size, 2, none⟩ = some (.string t) ∧ Below w.heap.size w W := fun W h =>
      ⟨(h.cell (p := ⟨w.heap.size, 0, none⟩) (by simp)).trans (by simp), (h.cell (p := ⟨w.heap.size, 1, none⟩) (by simp)).trans (by simp), (h.cell (p := ⟨w.heap.size, 2, none⟩) (by simp)).trans (by simp), HN.out.trans (h.mono HN.out.size)⟩
    have KEY := Lib.hid key
    clear key
    rcases chk_cases _ hc with h | h | h | ⟨m, h⟩ | ⟨u, h⟩
    · simp only [Prod.mk.injEq] at h
      obtain ⟨rfl, rfl, h3⟩ := h
      have H3 : Hid (scT 0 0 t = (0, 0, [])) := congrArg (fun l => ((0 : Int), (0 : Int), l)) h3
      rw [H3.out] at HC ⊢
      clear h3 hc H3
      have hcv := lit_str [1] #[.int .u8 1] rfl (by decide)
      simp only [List.length_cons, List.length_nil] at hcv
      go_enter Try.func14, Try.ntmps14
      go_wp2_with fail
      refine (HC.out _).mono ?_
      rintro e w1 ⟨rfl, hb⟩
      obtain ⟨c0, c1, c2, hb1⟩ := KEY.out _ hb
      have H1 := Lib.hid hb1
      clear hb hb1
      rw [chk_null]
      go_wp2_with fail
      go_ret
      exact ⟨by rw [key_null]; rfl, Below.more H1.out _⟩
    · simp only [Prod.mk.injEq] at h
      obtain ⟨rfl, rfl, h3⟩ := h
      have H3 : Hid (scT 1 0 t = (1, 0, [])) := congrArg (fun l => ((1 : Int), (0 : Int), l)) h3
      rw [H3.out] at HC ⊢
      clear h3 hc H3
      have hcv := lit_str [2, 0] #[.int .u8 2, .int .u8 0] rfl (by decide)
      simp only [List.length_cons, List.length_nil] at hcv
      go_enter Try.func14, Try.ntmps14
      go_wp2_with fail
      refine (HC.out _).mono ?_
      rintro e w1 ⟨rfl, hb⟩
      obtain ⟨c0, c1, c2, hb1⟩ := KEY.out _ hb
      have H1 := Lib.hid hb1
      clear hb hb1
      rw [chk_false]
      go_wp2_with fail
      go_ret
      exact ⟨by rw [key_false]; rfl, Below.more H1.out _⟩
    · simp only [Prod.mk.injEq] at h
      obtain ⟨rfl, rfl, h3⟩ := h
      have H3 : Hid (scT 1 1 t = (1, 1, [])) := congrArg (fun l => ((1 : Int), (1 : Int), l)) h3
      rw [H3.out] at HC ⊢
      clear h3 hc H3
      have hcv := lit_str [2, 1] #[.int .u8 2, .int .u8 1] rfl (by decide)
      simp only [List.length_cons, List.length_nil] at hcv
      go_enter Try.func14, Try.ntmps14
      go_wp2_with fail
      refine (HC.out _).mono ?_
      rintro e w1 ⟨rfl, hb⟩
      obtain ⟨c0, c1, c2, hb1⟩ := KEY.out _ hb
      have H1 := Lib.hid hb1
      clear hb hb1
      rw [chk_true]
      go_wp2_with fail
      go_ret
      exact ⟨by rw [key_true]; rfl, Below.more H1.out _⟩
    · simp only [Prod.mk.injEq] at h
      obtain ⟨rfl, rfl, h3⟩ := h
      have H3 : Hid (scT 2 n t = (2, n, [])) := congrArg (fun l => ((2 : Int), (n : Int), l)) h3
      rw [H3.out] at HC ⊢
      clear h3 hc H3
      have hcv := cv1_run
      have hca : ∀ (w : World) (a : Addr), cv1 w a (some (.int .u8 3)) = .ok (.string ⟨#[3]⟩) w := fun w a => cv1_at w a 3 (by decide) (by decide)
      have hl : (bytesS n).length = 8 := bytesS_len n
      go_enter Try.func14, Try.ntmps14
      go_wp2_with fail
      refine (HC.out _).mono ?_
      rintro e w1 ⟨rfl, hb⟩
      obtain ⟨c0, c1, c2, hb1⟩ := KEY.out _ hb
      have H1 := Lib.hid hb1
      have hsz : w.heap.size < w1.heap.size := by have := hb.size; simp at this; omega
      clear hb hb1
      rw [chk_int]
      go_wp2_with fail
      go_region_with (go_at_call 25; refine (HB.out _).mono ?_; rintro e w' ⟨rfl, hb⟩; have hbc := old_cell5 hb; have HB2 := Lib.hid hb; clear hb)
      all_goals go_wp2_with fail
      all_goals go_ret
      all_goals refine ⟨by rw [key_int, show (3 :: bytesS n) = [3] ++ bytesS n from rfl, ← cat_mk]; rfl, ?_⟩
      all_goals first
        | exact Below.chain H1.out (Below.chain (Below.laid _ _) (Below.chain (Below.drawn _) HB2.out))
        | exact Below.chain H1.out (Below.chain (Below.drawn _) (Below.chain (Below.laid _ _) HB2.out))
        | exact Below.chain H1.out (Below.chain (Below.drawn _) (Below.chain HB2.out (Below.laid _ _)))
    · simp only [Prod.mk.injEq] at h
      obtain ⟨rfl, rfl, h3⟩ := h
      have HK : Hid (chkSc (scT 3 0 t) = 0) := hc
      clear h3 hc
      go_enter Try.func14, Try.ntmps14
      go_wp2_with fail
      refine (HC.out _).mono ?_
      rintro e w1 ⟨rfl, hb⟩
      obtain ⟨c0, c1, c2, hb1⟩ := KEY.out _ hb
      have H1 := Lib.hid hb1
      clear hb hb1
      rw [HK.out]
      go_wp2_with fail
      refine (HV.out _).mono ?_
      rintro e w2 ⟨rfl, hb⟩
      have H2 := Lib.hid (H1.out.trans (hb.mono H1.out.size))
      clear hb
      go_wp2_with fail
      go_ret
      exact ⟨by rw [key_text]; rfl, H2.out⟩
  · have HK := Lib.hid (key_bad _ hc)
    obtain ⟨c, hcc⟩ : ∃ c, chkSc (scT k n t) = c := ⟨_, rfl⟩
    rw [hcc] at HC hc
    have hcb : (c != 0) = true := by simp [hc]
    clear hcc hc
    go_enter Try.func14, Try.ntmps14
    go_wp2_with fail
    refine (HC.out _).mono ?_
    rintro e w1 ⟨rfl, hb⟩
    have H1 := Lib.hid (HN.out.trans (hb.mono HN.out.size))
    clear hb
    go_wp2_with fail
    go_ret
    exact ⟨by rw [HK.out]; rfl, H1.out⟩
end Go.Proofs.Ytjefaibnlhnaiaa
