/- Package scalar's own reading of keys: boolOf, intOf, textOf, Unkey. -/
import Derived.Test.YtjefaibnlhnaiaaLaw05A
import Derived.Test.YtjefaibnlhnaiaaNumBytes
import Derived.Handy
namespace Go.Proofs.Ytjefaibnlhnaiaa
open Go.RowKit
set_option maxRecDepth 1000000

/-- boolOf, behind the head 2. -/
theorem sc_boolOf (s : ByteArray) (w : World) (hpos : 0 < s.size) (h2 : s[0] = 2) (hs : s.size ≤ 1000000) :
    Calls Try.prog 32 #[.string s] w fun e w' => e = .returned (unkV (unkSc s.data.toList) ⟨(unkSc s.data.toList).1.2.2.toArray⟩) ∧ Below w.heap.size w w' := by
  have HN := Lib.hid (fun c => Below.newly' w (.cells c 23))
  have HH := Lib.hid (head_bytes s hpos)
  by_cases l1 : s.size = 1
  · have l1' : (s.size : Int) = 1 := by omega
    have e : Hid (unkSc s.data.toList = ((0, 0, []), 1, 10)) := by
      show _ = _
      rw [HH.out, h2, show s.data.toList.drop 1 = [] by rw [List.drop_eq_nil_iff, len_bytes]; omega]
      simp [unkSc]
    clear l1 h2 hs
    go_enter Try.func32, Try.ntmps32
    go_wp2
    refine bodyPost_ret (results_cell_row2 rfl _ _ w.heap.size 23 _ (0, 0) _ rfl (heap_alloc_new w _) Try.underlying23 rfl (by kernel_rfl)) rfl ⟨?_, HN.out _⟩
    rw [e.out]; rfl
  · have l2 : 1 < s.size := by omega
    have l1' : ¬ (s.size : Int) < 2 := by omega
    have e0 : Hid (unkSc s.data.toList = if 1 < s[1].toNat then (((0, 0, []), 1, 2) : Sc × Nat × Int) else ((1, (s[1].toNat : Int), []), 2, 0)) := by
      show _ = _
      rw [HH.out, h2, drop_get s 1 l2, unk_bool]
    clear h2 l1
    by_cases b1 : 1 < s[1].toNat
    · rw [if_pos b1] at e0
      have b1' : (1 : Int) < (s[1].toNat : Int) := by omega
      go_enter Try.func32, Try.ntmps32
      go_wp2
      refine bodyPost_ret (results_cell_row2 rfl _ _ w.heap.size 23 _ (0, 0) _ rfl (heap_alloc_new w _) Try.underlying23 rfl (by kernel_rfl)) rfl ⟨?_, HN.out _⟩
      rw [e0.out]; rfl
    · rw [if_neg b1] at e0
      have b1' : ¬ (1 : Int) < (s[1].toNat : Int) := by omega
      go_enter Try.func32, Try.ntmps32
      go_wp2
      refine bodyPost_ret (results_cell_row2 rfl _ _ w.heap.size 23 _ (0, 0) _ rfl (heap_alloc_new w _) Try.underlying23 rfl (by kernel_rfl)) rfl ⟨?_, HN.out _⟩
      rw [e0.out]; rfl
/-- intOf, behind the head 3. -/
theorem sc_intOf (s : ByteArray) (w : World) (hpos : 0 < s.size) (h3 : s[0] = 3) (hs : s.size ≤ 1000000) :
    Calls Try.prog 33 #[.string s] w fun e w' => e = .returned (unkV (unkSc s.data.toList) ⟨(unkSc s.data.toList).1.2.2.toArray⟩) ∧ Below w.heap.size w w' := by
  have HN := Lib.hid (fun c => Below.newly' w (.cells c 23))
  have HH := Lib.hid (head_bytes s hpos)
  have hdl : (s.data.toList.drop 1).length = s.size - 1 := by rw [List.length_drop, len_bytes]
  by_cases l9 : s.size < 9
  · have l9' : (s.size : Int) < 9 := by omega
    have e : Hid (unkSc s.data.toList = ((0, 0, []), s.size, 10)) := by
      show _ = _
      rw [HH.out, h3, unk_int, if_pos (by omega), hdl, show s.size - 1 + 1 = s.size by omega]
    clear hdl h3
    go_enter Try.func33, Try.ntmps33
    go_wp2
    refine bodyPost_ret (results_cell_row2 rfl _ _ w.heap.size 23 _ (0, 0) _ rfl (heap_alloc_new w _) Try.underlying23 rfl (by kernel_rfl)) rfl ⟨?_, HN.out _⟩
    rw [e.out]; rfl
  · have l9' : ¬ (s.size : Int) < 9 := by omega
    have l9'' : 9 ≤ s.size := by omega
    have hx : (s.extract 1 9).data.toList = (s.data.toList.drop 1).take 8 := by simp [ByteArray.data_extract]
    have hu := num_Unbytes (s.extract 1 9)
    rw [hx] at hu
    have HU := Lib.hid (fun W => hu W (by simp [maxLen]; omega))
    have e : Hid (unkSc s.data.toList = ((2, (unbytesS ((s.data.toList.drop 1).take 8)).1, []), 9, 0)) := by
      show _ = _
      rw [HH.out, h3, unk_int, if_neg (by omega)]
      rfl
    have hm2 : (unbytesS ((s.data.toList.drop 1).take 8)).2 = 0 := by
      have : ((s.data.toList.drop 1).take 8).length = 8 := by rw [List.length_take, hdl]; omega
      unfold unbytesS
      rw [if_pos this]
    clear hdl hx hu l9 h3
    obtain ⟨m, hm⟩ : ∃ m, m = unbytesS ((s.data.toList.drop 1).take 8) := ⟨_, rfl⟩
    rw [← hm] at HU e hm2
    rw [hm2] at HU
    clear hm hm2
    go_enter Try.func33, Try.ntmps33
    go_wp2_with fail
    refine (HU.out _).mono ?_
    rintro e1 w1 ⟨rfl, rfl⟩
    go_wp2_with fail
    refine bodyPost_ret (results_cell_row2 rfl _ _ w.heap.size 23 _ (0, 0) _ rfl (heap_alloc_new w _) Try.underlying23 rfl (by kernel_rfl)) rfl ⟨?_, HN.out _⟩
    rw [e.out]; rfl
/-- A scalar is laid into a variable of the call's own, in a world of which little is known. -/
theorem st_sc {ops : Array Oper} {rest : List Oper} {o : Oper} {a : Act} {w : World} {Q : Exit → Act → World → Prop} (hgd : o.guard = none) (x y : Operand) (ho : o.op = .store 23 x y)
    (X : Nat) (k n : Int) (t : ByteArray) (k0 n0 : Int) (t0 : ByteArray) (hx : a.eval x = .pointer (some ⟨X, 0, none⟩)) (hy : a.eval y = scV k n t) (hB : Bx X k0 n0 t0 w)
    (h : ∀ w', Bx X k n t w' → Below X w w' → wpList Try.prog ops Q rest (a.put o.dst undef) w') : wpList Try.prog ops Q (o :: rest) a w := by
  refine wpList_plain hgd fun _ hK => wp_store_row 23 x y ho X _ hx hy 23 _ hB (by kernel_rfl) rfl (by simp [Value.oneCell']) (hK _ _ (h _ (setRow_heap w X _ _ _ _ hB) ?_))
  refine ⟨rfl, rfl, rfl, by simp [World.setRow], fun j hj => ?_⟩
  simp only [World.setRow]
  rw [Array.getElem?_modify]
  split
  · omega
  · rfl
/-- textOf, behind the head 4. -/
theorem txt_start (s : ByteArray) (hpos : 0 < s.size) (h4 : s[0] = 4) : unkSc s.data.toList = if (bareS (s.data.toList.drop 1)).2.2 = 0 then (((3, 0, (bareS (s.data.toList.drop 1)).1), (bareS (s.data.toList.drop 1)).2.1 + 1, 0) : Sc × Nat × Int) else ((0, 0, []), (bareS (s.data.toList.drop 1)).2.1 + 1, (bareS (s.data.toList.drop 1)).2.2) := by
  rw [head_bytes s hpos, h4, unk_text]
  rfl
set_option maxHeartbeats 4000000 in
theorem sc_textOf (s : ByteArray) (w : World) (hpos : 0 < s.size) (h4 : s[0] = 4) (hs : s.size ≤ 1000000) :
    Calls Try.prog 34 #[.string s] w fun e w' => e = .returned (unkV (unkSc s.data.toList) ⟨(unkSc s.data.toList).1.2.2.toArray⟩) ∧ Below w.heap.size w w' := by
  have E0 := Lib.hid (txt_start s hpos h4)
  have HS := Lib.hid (show Bx w.heap.size 0 0 ⟨#[]⟩ (w.alloc (.cells #[.int .i64 0, .int .i64 0, .string ⟨#[]⟩] 23)) from Bx.new 0 0 ⟨#[]⟩ w)
  have HN := Lib.hid (Below.newly' w (.cells #[.int .i64 0, .int .i64 0, .string ⟨#[]⟩] 23))
  have HX : Hid (bareS (s.data.toList.drop 1) = preS [] (1 - 1) (bareS (s.data.toList.drop 1))) := by
    show _ = _
    rw [Nat.sub_self, pre_start _ (bare_err _ _ (Nat.le_refl _))]
  clear h4
  go_enter Try.func34, Try.ntmps34
  go_wp2
  go_loopw [5, 6] (fun x n wl => ∃ (j : Nat) (txt : List UInt8), 1 ≤ j ∧ j ≤ s.size ∧ n = .int .i64 j ∧ Buf (w.alloc (.cells #[.int .i64 0, .int .i64 0, .string ⟨#[]⟩] 23)).heap.size x txt wl ∧ txt.length ≤ j ∧ bareS (s.data.toList.drop 1) = preS txt (j - 1) (bareS (s.data.toList.drop j)) ∧ Below (w.alloc (.cells #[.int .i64 0, .int .i64 0, .string ⟨#[]⟩] 23)).heap.size (w.alloc (.cells #[.int .i64 0, .int .i64 0, .string ⟨#[]⟩] 23)) wl) (fun _ n _ => s.size - (intOf n).toNat)
  case atStart => exact ⟨1, [], Nat.le_refl _, hpos, rfl, Buf.nil (Nat.le_refl _), by simp, HX.out, Below.refl _ _⟩
  case round =>
    obtain ⟨j, txt, hj1, hj, rfl, hbuf, htl, hx, hbw⟩ := hrel
    have HB := Lib.hid hx
    have HV := Lib.hid hbuf
    have HW := Lib.hid hbw
    have HL := Lib.hid htl
    have HZ := Lib.hid (HS.out.later hbw)
    have HZW := Lib.hid (HN.out.trans (hbw.mono (by simp)))
    have HJ := Lib.hid hj1
    clear hx hbuf hbw htl HX
    by_cases h1 : j < s.size
    · rw [drop_get s j h1] at HB
      by_cases h0 : s[j] = 0
      · have h0' : (s[j].toNat : Int) = 0 := by rw [h0]; rfl
        rw [h0] at HB
        by_cases h2 : j + 1 = s.size
        · rw [show s.data.toList.drop (j + 1) = [] by rw [List.drop_eq_nil_iff, len_bytes]; omega, bare_one] at HB
          have h2' : (j : Int) + 1 = (s.size : Int) := by omega
          have e : Hid (unkSc s.data.toList = ((0, 0, []), s.size, 10)) := by
            show _ = _
            rw [E0.out, HB.out]
            simp [preS]; omega
          clear h2 h0
          go_wp2_with (refine st_sc rfl (.tmp 2) (.tmp 43) rfl w.heap.size 0 0 ⟨#[]⟩ 0 0 ⟨#[]⟩ rfl rfl HZ.out ?_; intro w3 hx3 hb3; have HX3 := Lib.hid hx3; have HF3 := Lib.hid (HZW.out.trans hb3); clear hx3 hb3)
          refine bodyPost_ret (results_cell_row2 rfl _ _ w.heap.size 23 _ (0, 0) _ rfl HX3.out Try.underlying23 rfl (by kernel_rfl)) rfl ⟨?_, HF3.out⟩
          rw [e.out]; rfl
        · have h3 : j + 1 < s.size := by omega
          rw [drop_get s (j + 1) h3, bare_two] at HB
          have h2' : ((j : Int) + 1 == (s.size : Int)) = false := by rw [beq_eq_false_iff_ne]; omega
          have h2'' : ¬ (j : Int) + 1 = (s.size : Int) := by omega
          clear h2
          by_cases d0 : s[j + 1] = 0
          · have d0' : (s[j + 1].toNat : Int) = 0 := by rw [d0]; rfl
            rw [if_pos d0] at HB
            have e : Hid (unkSc s.data.toList = ((3, 0, txt), j + 2, 0)) := by
              show _ = _
              rw [E0.out, HB.out]
              simp [preS]; omega
            have hcv := HV.out.str
            clear d0 h0
            go_wp2_with (refine st_sc rfl (.tmp 2) (.tmp 32) rfl w.heap.size 3 0 ⟨txt.toArray⟩ 0 0 ⟨#[]⟩ rfl rfl HZ.out ?_; intro w3 hx3 hb3; have HX3 := Lib.hid hx3; have HF3 := Lib.hid (HZW.out.trans hb3); clear hx3 hb3)
            refine bodyPost_ret (results_cell_row2 rfl _ _ w.heap.size 23 _ (0, 0) _ rfl HX3.out Try.underlying23 rfl (by kernel_rfl)) rfl ⟨?_, HF3.out⟩
            rw [e.out]; rfl
          · have d0' : ¬ (s[j + 1].toNat : Int) = 0 := fun e => d0 (UInt8.toNat_inj.1 (by simpa using e))
            rw [if_neg d0] at HB
            clear d0 h0
            by_cases d1 : s[j + 1] = 255
            · have d1' : (s[j + 1].toNat : Int) = 255 := by rw [d1]; rfl
              rw [if_pos d1, pre_put] at HB
              clear d1
              go_wp2_with (at_builtin; go_loud (refine buf_append_new rfl (.tmp 39) (.tmp 41) rfl rfl HV.out [0] _ rfl 1 1 rfl rfl (by have := HL.out; have h1 : [(0 : UInt8)].length = 1 := rfl; omega) ?_); intro v2 w2 hb2 hl2; have HB2 := Lib.hid hb2; have HL2 := Lib.hid hl2; clear hb2 hl2)
              go_roundw
              case rel => exact ⟨j + 2, txt ++ [0], by omega, by omega, by go_num, HB2.out, by have := HL.out; simp; omega, by rw [HB.out]; congr 1; have := HJ.out; omega, HW.out.trans HL2.out⟩
              case measure => simp [intOf]; omega
            · have d1' : ¬ (s[j + 1].toNat : Int) = 255 := fun e => d1 (UInt8.toNat_inj.1 (by show s[j + 1].toNat = 255; omega))
              rw [if_neg d1] at HB
              have e : Hid (unkSc s.data.toList = ((0, 0, []), j + 1, 2)) := by
                show _ = _
                rw [E0.out, HB.out]
                simp [preS]; omega
              clear d1
              go_wp2_with (refine st_sc rfl (.tmp 2) (.tmp 26) rfl w.heap.size 0 0 ⟨#[]⟩ 0 0 ⟨#[]⟩ rfl rfl HZ.out ?_; intro w3 hx3 hb3; have HX3 := Lib.hid hx3; have HF3 := Lib.hid (HZW.out.trans hb3); clear hx3 hb3)
              refine bodyPost_ret (results_cell_row2 rfl _ _ w.heap.size 23 _ (0, 0) _ rfl HX3.out Try.underlying23 rfl (by kernel_rfl)) rfl ⟨?_, HF3.out⟩
              rw [e.out]; rfl
      · have h0' : ¬ (s[j].toNat : Int) = 0 := fun e => h0 (UInt8.toNat_inj.1 (by simpa using e))
        rw [bare_plain _ _ h0, pre_put] at HB
        clear h0
        go_wp2_with (at_builtin; go_loud (refine buf_append_new rfl (.tmp 39) (.tmp 41) rfl rfl HV.out [s[j]] _ rfl 1 1 rfl rfl (by have := HL.out; have h1 : [s[j]].length = 1 := rfl; omega) ?_); intro v2 w2 hb2 hl2; have HB2 := Lib.hid hb2; have HL2 := Lib.hid hl2; clear hb2 hl2)
        go_roundw
        case rel => exact ⟨j + 1, txt ++ [s[j]], by omega, by omega, by go_num, HB2.out, by have := HL.out; simp; omega, by rw [HB.out]; congr 1; have := HJ.out; omega, HW.out.trans HL2.out⟩
        case measure => simp [intOf]; omega
    · rw [show s.data.toList.drop j = [] by rw [List.drop_eq_nil_iff, len_bytes]; omega] at HB
      have e : Hid (unkSc s.data.toList = ((0, 0, []), j, 10)) := by
        show _ = _
        rw [E0.out, HB.out]
        simp [preS, bareS]; omega
      go_wp2_with (refine st_sc rfl (.tmp 2) (.tmp 43) rfl w.heap.size 0 0 ⟨#[]⟩ 0 0 ⟨#[]⟩ rfl rfl HZ.out ?_; intro w3 hx3 hb3; have HX3 := Lib.hid hx3; have HF3 := Lib.hid (HZW.out.trans hb3); clear hx3 hb3)
      refine bodyPost_ret (results_cell_row2 rfl _ _ w.heap.size 23 _ (0, 0) _ rfl HX3.out Try.underlying23 rfl (by kernel_rfl)) rfl ⟨?_, HF3.out⟩
      rw [e.out]; rfl
end Go.Proofs.Ytjefaibnlhnaiaa
