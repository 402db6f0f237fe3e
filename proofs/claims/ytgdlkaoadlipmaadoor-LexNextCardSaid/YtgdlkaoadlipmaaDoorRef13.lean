/- The document's answer for lex: blanks, digits, what a text has at a place, the token of a number. -/
import Derived.Test.YtgdlkaoadlipmaaDoorPkA
import Derived.Test.YtgdlkaoadlipmaaDoorPkE
import Derived.Test.YtgdlkaoadlipmaaDoorRef02Unquote
import Derived.Test.YtgdlkaoadlipmaaDoorRef02Canon
import Derived.Handy
import Derived.Deep.Cut
import Derived.Test.YtgdlkaoadlipmaaDoorPkC
namespace Go.Proofs.YtgdlkaoadlipmaaDoor
open Go.RowKit
set_option linter.unusedSimpArgs false

def tokC (t : Tok) : Array Value := #[.int .i64 t.k, .int .i64 (t.a : Int), .int .i64 (t.e : Int), .int .i64 t.n, .string ⟨t.t.toArray⟩]
def tokV (t : Tok) : Value := .agg (tokC t)
def resV (q : Tok × Nat × Int) : Value := .tuple #[tokV q.1, .int .i64 (q.2.1 : Int), .int .i64 q.2.2]
def numT (l : List UInt8) (p : Nat) : Tok × Nat × Int :=
  let m := (l.drop (p + 1)).takeWhile digS
  let q := parseS ((l.drop p).take (m.length + 1))
  if q.2 = 0 then (⟨3, p, p + m.length + 1, q.1, []⟩, 0, 0) else (⟨0, 0, 0, 0, []⟩, p, q.2)
theorem ext_l (s : ByteArray) (a b : Nat) : (s.extract a b).data.toList = (s.data.toList.drop a).take (b - a) := by
  rw [ByteArray.data_extract, Array.toList_extract]
theorem pre_take (x l : List UInt8) : x.isPrefixOf l = (l.take x.length == x) := by
  rw [Bool.eq_iff_iff, List.isPrefixOf_iff_prefix, beq_iff_eq, List.prefix_iff_eq_take]
  exact ⟨fun h => h.symm, fun h => h.symm⟩
/-- The first bytes from a place on that are so, up to a place where they are not. -/
theorem tw_scan (f : UInt8 → Bool) (s : ByteArray) (p k : Nat) (h0 : p ≤ k) (h1 : k ≤ s.size) (ha : ∀ j (h : j < s.size), p ≤ j → j < k → f s[j] = true) (he : k = s.size ∨ ∃ h : k < s.size, f s[k] = false) :
    (s.data.toList.drop p).takeWhile f = (s.data.toList.drop p).take (k - p) ∧ ((s.data.toList.drop p).takeWhile f).length = k - p := by
  have hl : s.data.toList.length = s.size := len_bytes s
  have h : (s.data.toList.drop p).takeWhile f = (s.data.toList.drop p).take (k - p) := by
    have hs : s.data.toList.drop p = (s.data.toList.drop p).take (k - p) ++ s.data.toList.drop k := by
      conv => lhs; rw [← List.take_append_drop (k - p) (s.data.toList.drop p)]
      rw [List.drop_drop, show p + (k - p) = k by omega]
    have hall : ∀ c ∈ (s.data.toList.drop p).take (k - p), f c = true := fun c hc => by
      obtain ⟨j, hj, rfl⟩ := List.getElem_of_mem hc
      simp only [List.length_take, List.length_drop, hl] at hj
      rw [List.getElem_take, List.getElem_drop]
      exact ha (p + j) (by omega) (by omega) (by omega)
    conv => lhs; rw [hs]
    rw [List.takeWhile_append_of_pos hall]
    rcases he with rfl | ⟨h, hf⟩
    · rw [List.drop_eq_nil_of_le (show s.data.toList.length ≤ s.size by omega)]; simp
    · rw [List.drop_eq_getElem_cons (show k < s.data.toList.length by omega), List.takeWhile_cons, if_neg (by rw [show s.data.toList[k] = s[k] from rfl, hf]; decide), List.append_nil]
  exact ⟨h, by rw [h, List.length_take, List.length_drop, hl]; omega⟩
def numK (s : ByteArray) (p k : Nat) : Tok × Nat × Int :=
  if (parseS (s.extract p k).data.toList).2 = 0 then (⟨3, p, k, (parseS (s.extract p k).data.toList).1, []⟩, 0, 0) else (⟨0, 0, 0, 0, []⟩, p, (parseS (s.extract p k).data.toList).2)
theorem num_at (s : ByteArray) (p k : Nat) (_ : p < s.size) (h0 : p + 1 ≤ k) (h1 : k ≤ s.size) (ha : ∀ j (h : j < s.size), p + 1 ≤ j → j < k → digS s[j] = true) (he : k = s.size ∨ ∃ h : k < s.size, digS s[k] = false) : numT s.data.toList p = numK s p k := by
  obtain ⟨h2, h3⟩ := tw_scan digS s (p + 1) k h0 h1 ha he
  unfold numT numK
  simp only
  rw [h3, ext_l, show k - (p + 1) + 1 = k - p by omega, show p + (k - (p + 1)) + 1 = k by omega]
theorem ret_b13 {x y : Bool} (h : x = y) : Ending.returned (.bool x) = .returned (.bool y) := by rw [h]
theorem rf_Blank (c : UInt8) (w : World) : Calls Tryd.prog 27 #[.int .u8 (c.toNat : Int)] w fun e w' => e = .returned (.bool (blkS c)) ∧ w = w' := by
  go_enter Tryd.func27, Tryd.ntmps27
  go_wp2
  all_goals
    go_ret
    refine ⟨ret_b13 ?_, rfl⟩
    unfold blkS
    first
      | (rw [eq_comm, decide_eq_true_eq]; omega)
      | (rw [eq_comm, decide_eq_false_iff_not]; omega)
      | (rw [Bool.eq_iff_iff]; simp only [Bool.or_eq_true, beq_iff_eq, decide_eq_true_eq]; omega)
theorem rf_digit (c : UInt8) (w : World) : Calls Tryd.prog 29 #[.int .u8 (c.toNat : Int)] w fun e w' => e = .returned (.bool (digS c)) ∧ w = w' := by
  go_enter Tryd.func29, Tryd.ntmps29
  go_wp2
  all_goals
    go_ret
    refine ⟨ret_b13 ?_, rfl⟩
    unfold digS
    first
      | (rw [eq_comm, decide_eq_true_eq]; omega)
      | (rw [eq_comm, decide_eq_false_iff_not]; omega)
      | (rw [decide_eq_decide]; omega)
theorem rf_starts (s x : ByteArray) (p : Nat) (w : World) (hp : p ≤ s.size) (hs : s.size ≤ 1000000) (hx : x.size ≤ 1000000) : Calls Tryd.prog 33 #[.string s, .int .i64 (p : Int), .string x] w fun e w' => e = .returned (.bool (x.data.toList.isPrefixOf (s.data.toList.drop p))) ∧ w = w' := by
  go_enter Tryd.func33, Tryd.ntmps33
  go_wp2
  · go_ret
    refine ⟨ret_b13 ?_, rfl⟩
    rw [ByteArray.toList_eq, ByteArray.toList_eq, pre_take, ext_l, len_bytes, Nat.add_sub_cancel_left]
  · go_ret
    refine ⟨ret_b13 ?_, rfl⟩
    rename_i h
    rw [pre_take, eq_comm, beq_eq_false_iff_ne]
    intro e
    have := congrArg List.length e
    simp at this
    omega
theorem tok_size : (Tryd.prog.info? 24).map (·.size) = some 5 := by kernel_rfl
set_option maxHeartbeats 4000000 in
theorem rf_number (s : ByteArray) (p : Nat) (w : World) (hp : p < s.size) (hs : s.size ≤ 10000) : Calls Tryd.prog 30 #[.string s, .int .i64 (p : Int)] w fun e w' => e = .returned (resV (numT s.data.toList p)) ∧ Below w.heap.size w w' := by
  obtain ⟨w1, hw1⟩ : ∃ w1, w1 = w.alloc (.cells (tokC ⟨0, 0, 0, 0, []⟩) 24) := ⟨_, rfl⟩
  have hb1 : Below w.heap.size w w1 := by rw [hw1]; exact Below.newly' _ _
  have hx1 : w1.heap[w.heap.size]? = some (.cells (tokC ⟨0, 0, 0, 0, []⟩) 24 (0, 0)) := by rw [hw1]; exact heap_alloc_last _ _
  have HB1 := Lib.hid hb1
  have HX1 := Lib.hid hx1
  clear hb1 hx1
  go_enter Tryd.func30, Tryd.ntmps30
  go_upto_region 1 with fail
  rw [show w.alloc (.cells #[.int .i64 0, .int .i64 0, .int .i64 0, .int .i64 0, .string ⟨#[]⟩] 24) = w1 from hw1.symm]
  clear hw1
  go_wp2_with fail
  go_loopw [7] (fun i wr => ∃ k : Nat, p + 1 ≤ k ∧ k ≤ s.size ∧ i = .int .i64 (k : Int) ∧ (∀ j (h : j < s.size), p + 1 ≤ j → j < k → digS s[j] = true) ∧ wr = w1) (fun i _ => s.size - (intOf i).toNat)
  case atStart => exact ⟨p + 1, by omega, by omega, rfl, fun j _ h1 h2 => by omega, rfl⟩
  case round =>
    obtain ⟨k, hk0, hk1, rfl, hd, rfl⟩ := hrel
    have HD := Lib.hid hd
    clear hd
    by_cases hlt : k < s.size
    · have hlt' : (k : Int) < s.size := by omega
      obtain ⟨c, hc⟩ : ∃ c, digS s[k] = c := ⟨_, rfl⟩
      have HC := Lib.hid hc
      have HDG := Lib.hid (fun w => rf_digit s[k] w)
      rw [hc] at HDG
      clear hc
      cases c with
      | true =>
        have HG : Hid (∀ j (h : j < s.size), p + 1 ≤ j → j < k + 1 → digS s[j] = true) := fun j h1 h2 h3 => by
          rcases Nat.lt_or_ge j k with h4 | h4
          · exact HD.out j h1 h2 h4
          · obtain rfl : j = k := by omega
            exact HC.out
        go_wp2_with fail
        refine (HDG.out _).mono ?_
        rintro e w2 ⟨rfl, rfl⟩
        go_wp2_with fail
        go_roundw
        case rel => exact ⟨k + 1, by omega, by omega, by go_num, HG.out, trivial⟩
        case measure => simp [intOf]; omega
      | false =>
        have HE : Hid (numT s.data.toList p = numK s p k) := num_at s p k hp hk0 hk1 HD.out (.inr ⟨hlt, HC.out⟩)
        obtain ⟨n, e, hne⟩ : ∃ n e, parseS (s.extract p k).data.toList = (n, e) := ⟨_, _, rfl⟩
        have HP : Hid (∀ W, Calls Tryd.prog 46 #[.string (s.extract p k)] W fun r w' => r = .returned (.tuple #[.int .i64 n, .int .i64 e]) ∧ W = w') := fun W => by
          have h := ref_Parse (s.extract p k) W (by unfold maxLen; simp only [ByteArray.size_extract]; omega)
          rw [hne] at h
          exact h.mono fun _ _ h => ⟨h.1, h.2.symm ▸ rfl⟩
        have HK : Hid (numT s.data.toList p = if e = 0 then (⟨3, p, k, n, []⟩, 0, 0) else (⟨0, 0, 0, 0, []⟩, p, e)) := by
          have h := HE.out
          unfold numK at h
          rw [hne] at h
          exact h
        clear HE hne
        by_cases he : e = 0
        · subst he
          have HK' : Hid (numT s.data.toList p = (⟨3, p, k, n, []⟩, 0, 0)) := HK.out.trans (if_pos rfl)
          clear HK
          go_wp2_with (first
              | (go_at_call 29; refine (HDG.out _).mono ?_; rintro r V ⟨rfl, rfl⟩)
              | (go_at_call 46; refine (HP.out _).mono ?_; rintro r V ⟨rfl, rfl⟩)
              | (refine st_agg rfl 24 _ _ rfl w.heap.size (tokC ⟨3, p, k, n, []⟩) rfl rfl 24 (tokC ⟨0, 0, 0, 0, []⟩) HX1.out tok_size rfl (by simp [Value.oneCell', tokC]) ?_; intro w8 h8 k8))
          · refine bodyPost_ret (results_cell_row2 rfl _ _ w.heap.size 24 _ (0, 0) _ rfl h8 Tryd.underlying24 rfl tok_size) rfl ⟨?_, HB1.out.trans (k8.below (Nat.le_refl _))⟩
            rw [HK'.out]; rfl
        · have hen : (e == 0) = false := beq_eq_false_iff_ne.2 he
          have HK' : Hid (numT s.data.toList p = (⟨0, 0, 0, 0, []⟩, p, e)) := HK.out.trans (if_neg he)
          clear HK he
          go_wp2_with (first
              | (go_at_call 29; refine (HDG.out _).mono ?_; rintro r V ⟨rfl, rfl⟩)
              | (go_at_call 46; refine (HP.out _).mono ?_; rintro r V ⟨rfl, rfl⟩)
              | (refine st_agg rfl 24 _ _ rfl w.heap.size (tokC ⟨0, 0, 0, 0, []⟩) rfl rfl 24 (tokC ⟨0, 0, 0, 0, []⟩) HX1.out tok_size rfl (by simp [Value.oneCell', tokC]) ?_; intro w8 h8 k8))
          · refine bodyPost_ret (results_cell_row2 rfl _ _ w.heap.size 24 _ (0, 0) _ rfl h8 Tryd.underlying24 rfl tok_size) rfl ⟨?_, HB1.out.trans (k8.below (Nat.le_refl _))⟩
            rw [HK'.out]; rfl
    · have HE : Hid (numT s.data.toList p = numK s p k) := num_at s p k hp hk0 hk1 HD.out (.inl (by omega))
      obtain ⟨n, e, hne⟩ : ∃ n e, parseS (s.extract p k).data.toList = (n, e) := ⟨_, _, rfl⟩
      have HP : Hid (∀ W, Calls Tryd.prog 46 #[.string (s.extract p k)] W fun r w' => r = .returned (.tuple #[.int .i64 n, .int .i64 e]) ∧ W = w') := fun W => by
        have h := ref_Parse (s.extract p k) W (by unfold maxLen; simp only [ByteArray.size_extract]; omega)
        rw [hne] at h
        exact h.mono fun _ _ h => ⟨h.1, h.2.symm ▸ rfl⟩
      have HK : Hid (numT s.data.toList p = if e = 0 then (⟨3, p, k, n, []⟩, 0, 0) else (⟨0, 0, 0, 0, []⟩, p, e)) := by
        have h := HE.out
        unfold numK at h
        rw [hne] at h
        exact h
      clear HE hne
      by_cases he : e = 0
      · subst he
        have HK' : Hid (numT s.data.toList p = (⟨3, p, k, n, []⟩, 0, 0)) := HK.out.trans (if_pos rfl)
        clear HK
        go_wp2_with (first
            | (go_at_call 46; refine (HP.out _).mono ?_; rintro r V ⟨rfl, rfl⟩)
            | (refine st_agg rfl 24 _ _ rfl w.heap.size (tokC ⟨3, p, k, n, []⟩) rfl rfl 24 (tokC ⟨0, 0, 0, 0, []⟩) HX1.out tok_size rfl (by simp [Value.oneCell', tokC]) ?_; intro w8 h8 k8))
        · refine bodyPost_ret (results_cell_row2 rfl _ _ w.heap.size 24 _ (0, 0) _ rfl h8 Tryd.underlying24 rfl tok_size) rfl ⟨?_, HB1.out.trans (k8.below (Nat.le_refl _))⟩
          rw [HK'.out]; rfl
      · have hen : (e == 0) = false := beq_eq_false_iff_ne.2 he
        have HK' : Hid (numT s.data.toList p = (⟨0, 0, 0, 0, []⟩, p, e)) := HK.out.trans (if_neg he)
        clear HK he
        go_wp2_with (first
            | (go_at_call 46; refine (HP.out _).mono ?_; rintro r V ⟨rfl, rfl⟩)
            | (refine st_agg rfl 24 _ _ rfl w.heap.size (tokC ⟨0, 0, 0, 0, []⟩) rfl rfl 24 (tokC ⟨0, 0, 0, 0, []⟩) HX1.out tok_size rfl (by simp [Value.oneCell', tokC]) ?_; intro w8 h8 k8))
        · refine bodyPost_ret (results_cell_row2 rfl _ _ w.heap.size 24 _ (0, 0) _ rfl h8 Tryd.underlying24 rfl tok_size) rfl ⟨?_, HB1.out.trans (k8.below (Nat.le_refl _))⟩
          rw [HK'.out]; rfl
end Go.Proofs.YtgdlkaoadlipmaaDoor
