/- The contracts of the document's own reading of quotes, and of names. -/
import Derived.Test.YtgdlkaoadlipmaaDoorPkF
namespace Go.Proofs.YtgdlkaoadlipmaaDoor
open Go.RowKit

/-- The texts, places and errors that 'Unquote' hands back. -/
abbrev unqV (x : List UInt8 × Nat × Int) : Value := .tuple #[.string ⟨x.1.toArray⟩, .int .i64 (x.2.1 : Int), .int .i64 x.2.2]
/-- One byte that stands for itself. -/
theorem unqS_plain (s : ByteArray) (k : Nat) (h : k < s.size) (out : List UInt8) (h1 : ¬ (s[k].toNat : Int) = 34) (h2 : ¬ (s[k].toNat : Int) < 32) (h3 : ¬ (s[k].toNat : Int) = 92) :
    unqS (s.data.toList.drop k) k out = unqS (s.data.toList.drop (k + 1)) (k + 1) (out ++ [s[k]]) := by
  rw [get_mem s k h, unqS.eq_def]
  simp only
  rw [if_neg (by omega), if_neg (by omega), if_pos (by omega)]
theorem unqS_mark (s : ByteArray) (k : Nat) (h : k < s.size) (out : List UInt8) (h1 : (s[k].toNat : Int) = 34) : unqS (s.data.toList.drop k) k out = (out, k + 1, 0) := by
  rw [get_mem s k h, unqS.eq_def]
  simp only
  rw [if_pos (by omega)]
theorem unqS_low (s : ByteArray) (k : Nat) (h : k < s.size) (out : List UInt8) (h2 : (s[k].toNat : Int) < 32) : unqS (s.data.toList.drop k) k out = ([], k, 2) := by
  rw [get_mem s k h, unqS.eq_def]
  simp only
  rw [if_neg (by omega), if_pos (by omega)]
theorem unqS_end (s : ByteArray) (k : Nat) (h : s.size ≤ k) (out : List UInt8) : unqS (s.data.toList.drop k) k out = ([], k, 10) := by
  rw [List.drop_eq_nil_of_le (by rw [len_bytes]; exact h), unqS.eq_def]
/-- Behind a backslash. -/
theorem unqS_back (s : ByteArray) (k : Nat) (h : k < s.size) (out : List UInt8) (h1 : (s[k].toNat : Int) = 92) :
    unqS (s.data.toList.drop k) k out = (match s.data.toList.drop (k + 1) with
      | [] => ([], k + 1, 10)
      | d :: r =>
        if d.toNat ≠ 120 then (match escS d with
          | none => ([], k + 1, 2)
          | some x => unqS r (k + 2) (out ++ [x]))
        else match r with
          | [] => ([], k + 2, 10)
          | h1 :: r => if 15 < hval h1 true then ([], k + 2, 2) else match r with
            | [] => ([], k + 3, 10)
            | h2 :: r => if 15 < hval h2 true then ([], k + 3, 2) else unqS r (k + 4) (out ++ [UInt8.ofNat (16 * hval h1 true + hval h2 true)])) := by
  rw [get_mem s k h, unqS.eq_def]
  simp only
  rw [if_neg (by omega), if_neg (by omega), if_neg (by omega)]
  rfl
theorem drop_end (s : ByteArray) (k : Nat) (h : s.size ≤ k) : s.data.toList.drop k = [] := List.drop_eq_nil_of_le (by rw [len_bytes]; exact h)
theorem unqS_b0 (s : ByteArray) (k : Nat) (h : k < s.size) (out : List UInt8) (h1 : (s[k].toNat : Int) = 92) (he : s.size ≤ k + 1) : unqS (s.data.toList.drop k) k out = ([], k + 1, 10) := by
  rw [unqS_back s k h out h1, drop_end s (k + 1) he]
theorem unqS_b1 (s : ByteArray) (k : Nat) (h : k < s.size) (out : List UInt8) (h1 : (s[k].toNat : Int) = 92) (h' : k + 1 < s.size) (hx : ¬ (s[k + 1].toNat : Int) = 120) :
    unqS (s.data.toList.drop k) k out = (match escS s[k + 1] with | none => ([], k + 1, 2) | some x => unqS (s.data.toList.drop (k + 2)) (k + 2) (out ++ [x])) := by
  rw [unqS_back s k h out h1, get_mem s (k + 1) h']
  simp only
  rw [if_pos (by omega)]
theorem unqS_b2 (s : ByteArray) (k : Nat) (h : k < s.size) (out : List UInt8) (h1 : (s[k].toNat : Int) = 92) (h' : k + 1 < s.size) (hx : (s[k + 1].toNat : Int) = 120) (he : s.size ≤ k + 2) :
    unqS (s.data.toList.drop k) k out = ([], k + 2, 10) := by
  rw [unqS_back s k h out h1, get_mem s (k + 1) h']
  simp only
  rw [if_neg (by omega), drop_end s (k + 1 + 1) he]
theorem unqS_b3 (s : ByteArray) (k : Nat) (h : k < s.size) (out : List UInt8) (h1 : (s[k].toNat : Int) = 92) (h' : k + 2 < s.size) (hx : (s[k + 1].toNat : Int) = 120) (hv : 15 < hval s[k + 2] true) :
    unqS (s.data.toList.drop k) k out = ([], k + 2, 2) := by
  rw [unqS_back s k h out h1, get_mem s (k + 1) (by omega)]
  simp only
  rw [if_neg (by omega), get_mem s (k + 1 + 1) h']
  simp only
  rw [if_pos hv]
theorem unqS_b4 (s : ByteArray) (k : Nat) (h : k < s.size) (out : List UInt8) (h1 : (s[k].toNat : Int) = 92) (h' : k + 2 < s.size) (hx : (s[k + 1].toNat : Int) = 120) (hv : hval s[k + 2] true ≤ 15) (he : s.size ≤ k + 3) :
    unqS (s.data.toList.drop k) k out = ([], k + 3, 10) := by
  rw [unqS_back s k h out h1, get_mem s (k + 1) (by omega)]
  simp only
  rw [if_neg (by omega), get_mem s (k + 1 + 1) h']
  simp only
  rw [if_neg (by have : hval s[k + 1 + 1] true ≤ 15 := hv; omega), drop_end s (k + 1 + 1 + 1) he]
theorem unqS_b5 (s : ByteArray) (k : Nat) (h : k < s.size) (out : List UInt8) (h1 : (s[k].toNat : Int) = 92) (h' : k + 3 < s.size) (hx : (s[k + 1].toNat : Int) = 120) (hv : hval s[k + 2] true ≤ 15) :
    unqS (s.data.toList.drop k) k out = if 15 < hval s[k + 3] true then ([], k + 3, 2) else unqS (s.data.toList.drop (k + 4)) (k + 4) (out ++ [UInt8.ofNat (16 * hval s[k + 2] true + hval s[k + 3] true)]) := by
  rw [unqS_back s k h out h1, get_mem s (k + 1) (by omega)]
  simp only
  rw [if_neg (by omega), get_mem s (k + 1 + 1) (by omega)]
  simp only
  rw [if_neg (by have : hval s[k + 1 + 1] true ≤ 15 := hv; omega), get_mem s (k + 1 + 1 + 1) h']

theorem ref_escape_back (c : UInt8) (w : World) : Calls Tryd.prog 44 #[.int .u8 (c.toNat : Int)] w fun e w' => e = .returned (.tuple #[.int .u8 (((escS c).getD 0).toNat : Int), .bool (escS c).isSome]) ∧ w' = w :=
  (ref_escape c w).mono fun _ _ h => ⟨h.1, h.2.symm⟩
set_option maxRecDepth 100000 in
set_option maxHeartbeats 4000000 in
theorem ref_Unquote (s : ByteArray) (w : World) (hs : s.size ≤ 10000) : Calls Tryd.prog 28 #[.string s] w fun e w' => e = .returned (unqV (unquoteS s.data.toList)) ∧ Below w.heap.size w w' := by
  by_cases h0 : 0 < s.size
  · by_cases hq : (s[0].toNat : Int) = 34
    · have H : Hid (unquoteS s.data.toList = unqS (s.data.toList.drop 1) 1 []) := by
        show _ = _
        have h1 := get_mem s 0 h0
        rw [List.drop_zero] at h1
        rw [h1]
        show (if s[0].toNat ≠ 34 then _ else _) = _
        rw [if_neg (by omega)]; rfl
      have hz : ((s.size : Int) == 0) = false := beq_eq_false_iff_ne.2 (by omega)
      have HI : Hid (Buf w.heap.size (.slice none 0 0) [] w) := Buf.nil (Nat.le_refl _)
      go_enter Tryd.func28, Tryd.ntmps28
      go_wp2_with fail
      clear hq hz
      go_loopw [5, 6] (fun v i wr => ∃ (k : Nat) (o : List UInt8), k ≤ s.size ∧ i = .int .i64 (k : Int) ∧ o.length ≤ k ∧ Buf w.heap.size v o wr ∧ Below w.heap.size w wr ∧ unquoteS s.data.toList = unqS (s.data.toList.drop k) k o) (fun _ i _ => s.size - (intOf i).toNat)
      case atStart => exact ⟨1, [], by omega, rfl, by simp, HI.out, Below.refl _ _, H.out⟩
      case round =>
        obtain ⟨k, o, hk, rfl, hlen, hbuf, hbw, heq⟩ := hrel
        have HB := Lib.hid hbuf
        have HW := Lib.hid hbw
        have HE := Lib.hid heq
        have HLEN := Lib.hid hlen
        clear hbuf hbw HI heq H hlen
        by_cases hlt : k < s.size
        · by_cases c34 : (s[k].toNat : Int) = 34
          · have HF : Hid (unquoteS s.data.toList = (o, k + 1, 0)) := by
              show _ = _
              rw [HE.out, unqS_mark s k hlt o c34]
            have hcv := HB.out.str
            go_wp2_with fail
            go_ret3
            exact ⟨by rw [HF.out]; rfl, HW.out⟩
          · have c34' : ((s[k].toNat : Int) == 34) = false := beq_eq_false_iff_ne.2 c34
            by_cases c32 : (s[k].toNat : Int) < 32
            · have HF : Hid (unquoteS s.data.toList = ([], k, 2)) := by
                show _ = _
                rw [HE.out, unqS_low s k hlt o c32]
              go_wp2_with fail
              go_ret3
              exact ⟨by rw [HF.out]; rfl, HW.out⟩
            · by_cases c92 : (s[k].toNat : Int) = 92
              · have hkw : IntKind.i64.wrap ((k : Int) + 1) = (k : Int) + 1 := by rw [IntKind.wrap_i64]; omega
                have hkn : ((k : Int) + 1).toNat = k + 1 := by omega
                have hk0 : 0 ≤ (k : Int) + 1 := by omega
                clear c34 c34' c32
                by_cases h' : k + 1 < s.size
                · have e1 : ((k : Int) + 1 == (s.size : Int)) = false := beq_eq_false_iff_ne.2 (by omega)
                  by_cases hx : (s[k + 1].toNat : Int) = 120
                  · by_cases h2' : k + 2 < s.size
                    · have hx' : ((s[k + 1].toNat : Int) != 120) = false := bne_eq_false_iff_eq.2 hx
                      have hk1 : IntKind.i64.wrap ((k : Int) + 1 + 1) = (k : Int) + 1 + 1 := by rw [IntKind.wrap_i64]; omega
                      have hk2 : ((k : Int) + 1 + 1).toNat = k + 2 := by omega
                      have hk3 : 0 ≤ (k : Int) + 1 + 1 := by omega
                      have hk4 : IntKind.i64.wrap ((k : Int) + 1 + 2) = (k : Int) + 1 + 2 := by rw [IntKind.wrap_i64]; omega
                      have hk5 : ((k : Int) + 1 + 2).toNat = k + 3 := by omega
                      have hk6 : 0 ≤ (k : Int) + 1 + 2 := by omega
                      have hxx := hx
                      have HX := Lib.hid hxx
                      clear hxx
                      have HVa := Lib.hid (fun w => ref_value_back s[k + 2] true w)
                      have HLa := Lib.hid (hval_le s[k + 2] true)
                      obtain ⟨x, hx1⟩ : ∃ x : Int, (s[k + 2].toNat : Int) = x := ⟨_, rfl⟩
                      obtain ⟨a, ha⟩ : ∃ a, hval s[k + 2] true = a := ⟨_, rfl⟩
                      have HA := Lib.hid ha
                      rw [hx1, ha] at HVa
                      rw [ha] at HLa
                      clear ha
                      by_cases h15 : 15 < a
                      · have HF : Hid (unquoteS s.data.toList = ([], k + 2, 2)) := by
                          show _ = _
                          rw [HE.out, unqS_b3 s k hlt o c92 h2' HX.out (by rw [HA.out]; exact h15)]
                        go_wp2_with fail
                        refine wp_loop_rounds 3 ?_
                        rw [rounds_succ]
                        go_wp2_with fail
                        refine (HVa.out _).mono ?_
                        rintro e w1 ⟨rfl, rfl⟩
                        go_wp2_with fail
                        go_ret3
                        exact ⟨by rw [HF.out]; rfl, HW.out⟩
                      · have ha0 : IntKind.u8.wrap (a : Int) = a := by rw [IntKind.wrap_u8]; omega
                        by_cases h3' : k + 3 < s.size
                        · have HB5 := Lib.hid (unqS_b5 s k hlt o c92 h3' HX.out (by rw [HA.out]; omega))
                          have HVb := Lib.hid (fun w => ref_value_back s[k + 3] true w)
                          have HLb := Lib.hid (hval_le s[k + 3] true)
                          obtain ⟨y, hy1⟩ : ∃ y : Int, (s[k + 3].toNat : Int) = y := ⟨_, rfl⟩
                          obtain ⟨b, hb⟩ : ∃ b, hval s[k + 3] true = b := ⟨_, rfl⟩
                          have HBB := Lib.hid hb
                          rw [hy1, hb] at HVb
                          rw [hb] at HLb
                          clear hb
                          by_cases h16 : 15 < b
                          · have HF : Hid (unquoteS s.data.toList = ([], k + 3, 2)) := by
                              show _ = _
                              rw [HE.out, HB5.out, HBB.out, if_pos h16]
                            go_wp2_with fail
                            refine wp_loop_rounds 3 ?_
                            rw [rounds_succ]
                            go_wp2_with fail
                            refine (HVa.out _).mono ?_
                            rintro e w1 ⟨rfl, rfl⟩
                            go_wp2_with fail
                            rw [rounds_succ]
                            go_wp2_with fail
                            refine (HVb.out _).mono ?_
                            rintro e w1 ⟨rfl, rfl⟩
                            go_wp2_with fail
                            go_ret3
                            exact ⟨by rw [HF.out]; rfl, HW.out⟩
                          · have HF : Hid (unquoteS s.data.toList = unqS (s.data.toList.drop (k + 4)) (k + 4) (o ++ [UInt8.ofNat (16 * a + b)])) := by
                              show _ = _
                              rw [HE.out, HB5.out, HBB.out, HA.out, if_neg h16]
                            have HN : Hid (((UInt8.ofNat (16 * a + b)).toNat : Int) = 16 * (a : Int) + (b : Int)) := by
                              show _ = _
                              rw [UInt8.toNat_ofNat_of_lt' (by simp only [UInt8.size]; omega)]; omega
                            have HC : Hid (#[Value.int .u8 (16 * (a : Int) + (b : Int))] = (bv [UInt8.ofNat (16 * a + b)]).toArray) := by
                              show _ = _
                              rw [← HN.out]; rfl
                            have ha1 : IntKind.u8.wrap (16 * (a : Int)) = 16 * (a : Int) := by rw [IntKind.wrap_u8]; omega
                            have hb1 : IntKind.u8.wrap (16 * (a : Int) + (b : Int)) = 16 * (a : Int) + (b : Int) := by rw [IntKind.wrap_u8]; omega
                            have hk7 : IntKind.i64.wrap ((k : Int) + 1 + 3) = (k : Int) + 1 + 3 := by rw [IntKind.wrap_i64]; omega
                            go_wp2_with fail
                            refine wp_loop_rounds 3 ?_
                            rw [rounds_succ]
                            go_wp2_with fail
                            refine (HVa.out _).mono ?_
                            rintro e w1 ⟨rfl, rfl⟩
                            go_wp2_with fail
                            rw [rounds_succ]
                            go_wp2_with fail
                            refine (HVb.out _).mono ?_
                            rintro e w1 ⟨rfl, rfl⟩
                            go_wp2_with fail
                            rw [rounds_succ]
                            go_wp2_with (at_builtin; go_loud (refine buf_append_new rfl (.tmp 96) (.tmp 98) rfl rfl HB.out [UInt8.ofNat (16 * a + b)] _ HC.out 1 1 rfl rfl (by have := HLEN.out; have h1 : [UInt8.ofNat (16 * a + b)].length = 1 := rfl; omega) ?_); intro v2 w2 hb2 hl2; have HB2 := Lib.hid hb2; have HL2 := Lib.hid hl2; clear hb2 hl2)
                            go_roundw
                            case rel =>
                              refine ⟨k + 4, o ++ [UInt8.ofNat (16 * a + b)], by omega, by go_num, ?_, HB2.out, HW.out.trans HL2.out, HF.out⟩
                              have := HLEN.out
                              rw [List.length_append]
                              have h1 : [UInt8.ofNat (16 * a + b)].length = 1 := rfl
                              omega
                            case measure => simp [intOf]; omega
                        · have HF : Hid (unquoteS s.data.toList = ([], s.size, 10)) := by
                            show _ = _
                            rw [HE.out, unqS_b4 s k hlt o c92 h2' HX.out (by rw [HA.out]; omega) (by omega), show k + 3 = s.size by omega]
                          go_wp2_with fail
                          refine wp_loop_rounds 3 ?_
                          rw [rounds_succ]
                          go_wp2_with fail
                          refine (HVa.out _).mono ?_
                          rintro e w1 ⟨rfl, rfl⟩
                          go_wp2_with fail
                          rw [rounds_succ]
                          go_wp2_with fail
                          go_ret3
                          exact ⟨by rw [HF.out]; rfl, HW.out⟩
                    · have HF : Hid (unquoteS s.data.toList = ([], s.size, 10)) := by
                        show _ = _
                        rw [HE.out, unqS_b2 s k hlt o c92 h' hx (by omega), show k + 2 = s.size by omega]
                      have hx' : ((s[k + 1].toNat : Int) != 120) = false := bne_eq_false_iff_eq.2 hx
                      go_wp2_with fail
                      refine wp_loop_rounds 3 ?_
                      rw [rounds_succ]
                      go_wp2_with fail
                      go_ret3
                      exact ⟨by rw [HF.out]; rfl, HW.out⟩
                  · have hx' : ((s[k + 1].toNat : Int) != 120) = true := by rw [bne_iff_ne]; exact hx
                    have HB1 := Lib.hid (unqS_b1 s k hlt o c92 h' hx)
                    have HVe := Lib.hid (fun w => ref_escape_back s[k + 1] w)
                    obtain ⟨x, hx⟩ : ∃ x : Int, (s[k + 1].toNat : Int) = x := ⟨_, rfl⟩
                    rw [hx] at HVe
                    cases hes : escS s[k + 1] with
                    | none =>
                      have HF : Hid (unquoteS s.data.toList = ([], k + 1, 2)) := by
                        show _ = _
                        rw [HE.out, HB1.out, hes]
                      rw [hes] at HVe
                      go_wp2_with fail
                      refine (HVe.out _).mono ?_
                      rintro e w1 ⟨rfl, rfl⟩
                      go_wp2_with fail
                      go_ret3
                      exact ⟨by rw [HF.out]; rfl, HW.out⟩
                    | some y =>
                      have HF : Hid (unquoteS s.data.toList = unqS (s.data.toList.drop (k + 2)) (k + 2) (o ++ [y])) := by
                        show _ = _
                        rw [HE.out, HB1.out, hes]
                      rw [hes] at HVe
                      go_wp2_with fail
                      refine (HVe.out _).mono ?_
                      rintro e w1 ⟨rfl, rfl⟩
                      go_wp2_with (at_builtin; go_loud (refine buf_append_new rfl (.tmp 63) (.tmp 65) rfl rfl HB.out [y] _ rfl 1 1 rfl rfl (by have := HLEN.out; have h1 : [y].length = 1 := rfl; omega) ?_); intro v2 w2 hb2 hl2; have HB2 := Lib.hid hb2; have HL2 := Lib.hid hl2; clear hb2 hl2)
                      go_roundw
                      case rel =>
                        refine ⟨k + 2, o ++ [y], by omega, by go_num, ?_, HB2.out, HW.out.trans HL2.out, HF.out⟩
                        have := HLEN.out
                        rw [List.length_append]
                        have h1 : [y].length = 1 := rfl
                        omega
                      case measure => simp [intOf]; omega
                · have e1 : ((k : Int) + 1 == (s.size : Int)) = true := beq_iff_eq.2 (by omega)
                  have HF : Hid (unquoteS s.data.toList = ([], s.size, 10)) := by
                    show _ = _
                    rw [HE.out, unqS_b0 s k hlt o c92 (by omega), show k + 1 = s.size by omega]
                  go_wp2_with fail
                  go_ret3
                  exact ⟨by rw [HF.out]; rfl, HW.out⟩
              · have c92' : ((s[k].toNat : Int) != 92) = true := by rw [bne_iff_ne]; exact c92
                have HF : Hid (unquoteS s.data.toList = unqS (s.data.toList.drop (k + 1)) (k + 1) (o ++ [s[k]])) := by
                  show _ = _
                  rw [HE.out, unqS_plain s k hlt o c34 c32 c92]
                go_wp2_with (at_builtin; go_loud (refine buf_append_new rfl (.tmp 37) (.tmp 39) rfl rfl HB.out [s[k]] _ rfl 1 1 rfl rfl (by have := HLEN.out; have h1 : [s[k]].length = 1 := rfl; omega) ?_); intro v2 w2 hb2 hl2; have HB2 := Lib.hid hb2; have HL2 := Lib.hid hl2; clear hb2 hl2)
                go_roundw
                case rel =>
                  refine ⟨k + 1, o ++ [s[k]], by omega, by go_num, ?_, HB2.out, HW.out.trans HL2.out, HF.out⟩
                  have := HLEN.out
                  rw [List.length_append]
                  have h1 : [s[k]].length = 1 := rfl
                  omega
                case measure => simp [intOf]; omega
        · have hke : k = s.size := by omega
          have HF : Hid (unquoteS s.data.toList = ([], s.size, 10)) := by
            show _ = _
            rw [HE.out, unqS_end s k (by omega) o, hke]
          clear hke
          go_wp2_with fail
          go_ret3
          exact ⟨by rw [HF.out]; rfl, HW.out⟩
    · have H : Hid (unquoteS s.data.toList = ([], 0, 2)) := by
        show _ = _
        have h1 := get_mem s 0 h0
        rw [List.drop_zero] at h1
        rw [h1]
        show (if s[0].toNat ≠ 34 then _ else _) = _
        rw [if_pos (by omega)]
      have hz : ((s.size : Int) == 0) = false := beq_eq_false_iff_ne.2 (by omega)
      have hq2 : ((s[0].toNat : Int) != 34) = true := by rw [bne_iff_ne]; exact hq
      go_enter Tryd.func28, Tryd.ntmps28
      go_wp2_with fail
      go_ret3
      exact ⟨by rw [H.out]; rfl, Below.refl _ _⟩
  · have H : Hid (unquoteS s.data.toList = ([], 0, 10)) := by
      show _ = _
      have : s.data.toList = [] := List.eq_nil_of_length_eq_zero (by rw [len_bytes]; omega)
      rw [this]; rfl
    have hz : (s.size : Int) = 0 := by omega
    clear h0
    go_enter Tryd.func28, Tryd.ntmps28
    go_wp2_with fail
    go_ret3
    exact ⟨by rw [H.out]; rfl, Below.refl _ _⟩
end Go.Proofs.YtgdlkaoadlipmaaDoor
