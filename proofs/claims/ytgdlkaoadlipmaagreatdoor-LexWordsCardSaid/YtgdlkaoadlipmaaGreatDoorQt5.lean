/- The contracts of package quote's reading of quotes. -/
import Derived.Test.YtgdlkaoadlipmaaGreatDoorQt4
import Derived.WalkMore
namespace Go.Proofs.YtgdlkaoadlipmaaGreatDoor
open Go.RowKit

set_option maxHeartbeats 2000000 in
theorem q_unescape (t : ByteArray) (w : World) (h0 : 0 < t.size) (hs : t.size ≤ 20000) (hT : Esc w) : Calls Tryz.prog 46 #[.string t] w fun e w' => e = .returned (uneV (uneS t.data.toList)) ∧ Below w.heap.size w w' := by
  by_cases h1 : 1 < t.size
  · have HT := Lib.hid hT
    clear hT
    have h1' : ¬ (t.size : Int) < 2 := by omega
    by_cases hx : (t[1].toNat : Int) = 120
    · have HX := Lib.hid (fun w => q_unescapeHex t w h1 hs hx)
      obtain ⟨u, hu⟩ : ∃ u, uneS t.data.toList = u := ⟨_, rfl⟩
      rw [hu] at HX ⊢
      clear hu
      obtain ⟨y, m, e⟩ := u
      have hx' : ((t[1].toNat : Int) == 120) = true := beq_iff_eq.2 hx
      clear hx
      go_enter Tryz.func46, Tryz.ntmps46
      go_wp2_with fail
      refine (HX.out _).mono ?_
      rintro e w1 ⟨rfl, rfl⟩
      go_wp2_with fail
      go_ret3
      exact ⟨rfl, Below.refl _ _⟩
    · have H := Lib.hid (une_two t h1 hx)
      have HM := Lib.hid (fun w h => q_meaningOf t[1] w h)
      have hx' : ((t[1].toNat : Int) == 120) = false := beq_eq_false_iff_ne.2 hx
      clear hx
      cases hes : escS t[1] with
      | none =>
        rw [hes] at HM H
        have HF : Hid (uneS t.data.toList = (0, 1, 2)) := H.out
        clear hes H
        go_enter Tryz.func46, Tryz.ntmps46
        go_wp2_with fail
        refine (HM.out _ HT.out).mono ?_
        rintro e w1 ⟨rfl, hb⟩
        have HW := Lib.hid hb
        clear hb
        go_wp2_with fail
        go_ret3
        exact ⟨by rw [HF.out]; rfl, HW.out⟩
      | some y =>
        rw [hes] at HM H
        have HF : Hid (uneS t.data.toList = (y, 2, 0)) := H.out
        clear hes H
        go_enter Tryz.func46, Tryz.ntmps46
        go_wp2_with fail
        refine (HM.out _ HT.out).mono ?_
        rintro e w1 ⟨rfl, hb⟩
        have HW := Lib.hid hb
        clear hb
        go_wp2_with fail
        go_ret3
        exact ⟨by rw [HF.out]; rfl, HW.out⟩
  · have H : Hid (uneS t.data.toList = (0, 1, 10)) := une_one t (by omega)
    have HS : Hid ((t.size : Int) = 1) := by show _ = _; omega
    have h1' : (t.size : Int) < 2 := by omega
    clear h1 hT
    go_enter Tryz.func46, Tryz.ntmps46
    go_wp2_with fail
    go_ret3
    exact ⟨by rw [H.out]; simp only [uneV]; rw [← show (t.size : Int) = ((1 : Nat) : Int) from HS.out]; rfl, Below.refl _ _⟩

theorem toL_empty (s : ByteArray) : s.toList.isEmpty = decide (s.size = 0) := by
  rw [ByteArray.toList_eq, ← len_bytes]; cases s.data.toList <;> simp
theorem toL_ne {s : ByteArray} (h : 0 < s.size) : ¬ s.toList = [] := by
  intro e
  have h1 := toL_empty s
  rw [e, decide_eq_false (by omega)] at h1
  cases h1
theorem toL_nil {s : ByteArray} (h : s.size = 0) : s.toList = [] := by
  rw [ByteArray.toList_eq]; exact List.eq_nil_of_length_eq_zero (by rw [len_bytes]; exact h)
theorem cut_drop (s : ByteArray) (k : Nat) : (s.extract k s.size).data.toList = s.data.toList.drop k := by
  simp
  rw [List.take_of_length_le (by simp)]
theorem cut_size (s : ByteArray) (k : Nat) : (s.extract k s.size).size = s.size - k := by simp
set_option maxRecDepth 100000 in
set_option maxHeartbeats 4000000 in
theorem q_Unquote (s : ByteArray) (w : World) (hs : s.size ≤ 20000) (hT : Esc w) : Calls Tryz.prog 36 #[.string s] w fun e w' => e = .returned (unqV (unquoteS s.data.toList)) ∧ Below w.heap.size w w' := by
  have HT := Lib.hid hT
  clear hT
  by_cases h0 : 0 < s.size
  · have hn := toL_ne h0
    have hn2 : s.toList.isEmpty = false := by rw [toL_empty]; exact decide_eq_false (by omega)
    by_cases hq : (s[0].toNat : Int) = 34
    · have H : Hid (unquoteS s.data.toList = unqS (s.data.toList.drop 1) 1 []) := by
        show _ = _
        rw [all_get s h0]
        show (if s[0].toNat ≠ 34 then _ else _) = _
        rw [if_neg (by omega)]
        rfl
      have hq2 : ((s[0].toNat : Int) != 34) = false := bne_eq_false_iff_eq.2 hq
      clear hq
      have HI : Hid (Buf w.heap.size (.slice none 0 0) [] w) := Buf.nil (Nat.le_refl _)
      go_enter Tryz.func36, Tryz.ntmps36
      go_wp2_with fail
      go_step3
      go_wp2_with fail
      go_step3
      go_wp2_with fail
      go_loopw [5, 6] (fun v i wr => ∃ (k : Nat) (o : List UInt8), k ≤ s.size ∧ i = .int .i64 k ∧ o.length ≤ k ∧ Buf w.heap.size v o wr ∧ Below w.heap.size w wr ∧ unquoteS s.data.toList = unqS (s.data.toList.drop k) k o) (fun _ i _ => s.size - (intOf i).toNat)
      case atStart => exact ⟨1, [], h0, rfl, Nat.zero_le _, HI.out, Below.refl _ _, H.out⟩
      case round =>
        obtain ⟨k, o, hk, rfl, hlen, hbuf, hbw, heq⟩ := hrel
        have HB := Lib.hid hbuf
        have HW := Lib.hid hbw
        have HE := Lib.hid heq
        have HLEN := Lib.hid hlen
        clear hbuf hbw HI heq H hlen hn2 hq2
        by_cases hlt : k < s.size
        · have hlt' : (k : Int) < (s.size : Int) := by omega
          by_cases c34 : (s[k].toNat : Int) = 34
          · have HF : Hid (unquoteS s.data.toList = (o, k + 1, 0)) := by
              show _ = _
              rw [HE.out, unqS_mark s k hlt o c34]
            have c34' : ((s[k].toNat : Int) == 34) = true := beq_iff_eq.2 c34
            have e1 : ((k : Int) == (s.size : Int)) = false := beq_eq_false_iff_ne.2 (by omega)
            have hcv := HB.out.str
            clear c34
            go_wp2_with fail
            try rw [Exit.noGoto_ret]
            go_ret3
            exact ⟨by rw [HF.out]; rfl, HW.out⟩
          have c34' : ((s[k].toNat : Int) == 34) = false := beq_eq_false_iff_ne.2 c34
          by_cases c92 : (s[k].toNat : Int) = 92
          · have c92' : ((s[k].toNat : Int) == 92) = true := beq_iff_eq.2 c92
            have HU := Lib.hid (fun w h => q_unescape (s.extract k s.size) w (by rw [cut_size s k]; omega) (by rw [cut_size s k]; omega) h)
            have HLE := Lib.hid (uneS_le (s.data.toList.drop k) (by rw [List.length_drop, len_bytes]; omega))
            have HK : Hid (unqS (s.data.toList.drop k) k o = unqK (s.data.toList.drop k) k o (uneS (s.data.toList.drop k))) := by
              show _ = _
              rw [get_mem s k hlt]
              exact unqS_une _ _ _ _ (by omega)
            rw [cut_drop] at HU
            obtain ⟨u, hu⟩ : ∃ u, uneS (s.data.toList.drop k) = u := ⟨_, rfl⟩
            rw [hu] at HU HLE HK
            clear hu c92 c34
            obtain ⟨y, m, e⟩ := u
            have hm0 : 1 ≤ m := HLE.out.2.1
            have hm1 : k + m ≤ s.size := by have := HLE.out.1; rw [List.length_drop, len_bytes] at this; simp only at this; omega
            by_cases he : e = 0
            · have HF : Hid (unquoteS s.data.toList = unqS (s.data.toList.drop (k + m)) (k + m) (o ++ [y])) := by
                show _ = _
                rw [HE.out, HK.out]
                unfold unqK
                rw [if_pos he, List.drop_drop]
              subst he
              have HQ : Hid (o.length + [y].length ≤ 140737488355328) := by
                have := HLEN.out; have h1 : [y].length = 1 := rfl; show _ ≤ _; omega
              go_wp2_with fail
              refine (HU.out _ (HT.out.below HW.out)).mono ?_
              rintro e w1 ⟨rfl, hb⟩
              have H1 := Lib.hid hb
              clear hb
              go_wp2_with (at_builtin; go_loud (refine buf_append_new rfl (.tmp 49) (.tmp 51) rfl rfl (HB.out.later H1.out) [y] _ rfl 1 1 rfl rfl HQ.out ?_); intro v2 w2 hb2 hl2; have HB2 := Lib.hid hb2; have HL2 := Lib.hid hl2; clear hb2 hl2)
              go_roundw
              case rel =>
                refine ⟨k + m, o ++ [y], hm1, by go_num, ?_, HB2.out, (Below.go HW.out HB.out.2 H1.out).trans HL2.out, HF.out⟩
                have := HLEN.out
                rw [List.length_append]
                have h1 : [y].length = 1 := rfl
                omega
              case measure => simp [intOf]; omega
            · have HF : Hid (unquoteS s.data.toList = ([], k + m, e)) := by
                show _ = _
                rw [HE.out, HK.out]
                unfold unqK
                rw [if_neg he]
              have he' : (e != 0) = true := by rw [bne_iff_ne]; exact he
              go_wp2_with fail
              refine (HU.out _ (HT.out.below HW.out)).mono ?_
              rintro e w1 ⟨rfl, hb⟩
              have H1 := Lib.hid hb
              clear hb
              go_wp2_with fail
              try rw [Exit.noGoto_ret]
              go_ret3
              exact ⟨by rw [HF.out]; rfl, Below.go HW.out HB.out.2 H1.out⟩
          have c92' : ((s[k].toNat : Int) == 92) = false := beq_eq_false_iff_ne.2 c92
          by_cases c32 : (s[k].toNat : Int) < 32
          · have HF : Hid (unquoteS s.data.toList = ([], k, 2)) := by
              show _ = _
              rw [HE.out, unqS_low s k hlt o c32]
            clear c34 c92
            go_wp2_with fail
            try rw [Exit.noGoto_ret]
            go_ret3
            exact ⟨by rw [HF.out]; rfl, HW.out⟩
          · have HF : Hid (unquoteS s.data.toList = unqS (s.data.toList.drop (k + 1)) (k + 1) (o ++ [s[k]])) := by
              show _ = _
              rw [HE.out, unqS_plain s k hlt o c34 c32 c92]
            clear c34 c92
            go_wp2_with (at_builtin; go_loud (refine buf_append_new rfl (.tmp 23) (.tmp 25) rfl rfl HB.out [s[k]] _ rfl 1 1 rfl rfl (by have := HLEN.out; have h1 : [s[k]].length = 1 := rfl; omega) ?_); intro v2 w2 hb2 hl2; have HB2 := Lib.hid hb2; have HL2 := Lib.hid hl2; clear hb2 hl2)
            go_roundw
            case rel =>
              refine ⟨k + 1, o ++ [s[k]], by omega, by go_num, ?_, HB2.out, HW.out.trans HL2.out, HF.out⟩
              have := HLEN.out
              rw [List.length_append]
              have h1 : [s[k]].length = 1 := rfl
              omega
            case measure => simp [intOf]; omega
        · have HF : Hid (unquoteS s.data.toList = ([], k, 10)) := by
            show _ = _
            rw [HE.out, unqS_end s k (by omega) o]
          have e1 : ((k : Int) == (s.size : Int)) = true := beq_iff_eq.2 (by omega)
          have hlt' : ¬ (k : Int) < (s.size : Int) := by omega
          go_wp2_with fail
          try rw [Exit.noGoto_ret]
          go_ret3
          exact ⟨by rw [HF.out]; rfl, HW.out⟩
    · have H : Hid (unquoteS s.data.toList = ([], 0, 2)) := by
        show _ = _
        rw [all_get s h0]
        show (if s[0].toNat ≠ 34 then _ else _) = _
        rw [if_pos (by omega)]
      have hq2 : ((s[0].toNat : Int) != 34) = true := by rw [bne_iff_ne]; exact hq
      clear hq
      go_enter Tryz.func36, Tryz.ntmps36
      go_wp2_with fail
      go_step3
      go_wp2_with fail
      try rw [Exit.noGoto_ret]
      go_ret3
      exact ⟨by rw [H.out]; rfl, Below.refl _ _⟩
  · have H : Hid (unquoteS s.data.toList = ([], 0, 10)) := by
      show _ = _
      have : s.data.toList = [] := List.eq_nil_of_length_eq_zero (by rw [len_bytes]; omega)
      rw [this]; rfl
    have hn2 : s.toList.isEmpty = true := by rw [toL_empty]; exact decide_eq_true (by omega)
    clear h0
    go_enter Tryz.func36, Tryz.ntmps36
    go_wp2_with fail
    go_step3
    go_wp2_with fail
    try rw [Exit.noGoto_ret]
    go_ret3
    exact ⟨by rw [H.out]; rfl, Below.refl _ _⟩
end Go.Proofs.YtgdlkaoadlipmaaGreatDoor
