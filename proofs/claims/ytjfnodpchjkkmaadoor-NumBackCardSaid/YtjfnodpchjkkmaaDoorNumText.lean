/- The contracts of package num's texts: digits, and the number of digits. -/
import Derived.Test.YtjfnodpchjkkmaaDoorNumWalks
import Derived.LoopTactic
namespace Go.Proofs.YtjfnodpchjkkmaaDoor
open Go.RowKit

def dgt (c : UInt8) : Bool := decide (48 ≤ c.toNat ∧ c.toNat ≤ 57)
/-- One digit or more, without noughts in front. -/
def plainS (l : List UInt8) : Bool := !l.isEmpty && !(l.head? == some 48 && decide (1 < l.length)) && l.all dgt
/-- The number of these digits. -/
def numS (l : List UInt8) : Int := l.foldl (fun n c => 10 * n + ((c.toNat : Int) - 48)) 0
theorem numS_snoc (l : List UInt8) (c : UInt8) : numS (l ++ [c]) = 10 * numS l + ((c.toNat : Int) - 48) := by simp [numS]
theorem numS_nil : numS [] = 0 := rfl
theorem dgt_iff (c : UInt8) : dgt c = true ↔ 48 ≤ (c.toNat : Int) ∧ (c.toNat : Int) ≤ 57 := by unfold dgt; simp; omega
theorem take_snoc (s : ByteArray) (k : Nat) (h : k < s.size) : s.data.toList.take (k + 1) = s.data.toList.take k ++ [s[k]] := by
  rw [List.take_succ_eq_append_getElem (by simpa using h)]; rfl
theorem numS_grow (l : List UInt8) (h : l.all dgt = true) : ∀ n : Int, 0 ≤ n → n ≤ l.foldl (fun n c => 10 * n + ((c.toNat : Int) - 48)) n := by
  induction l with
  | nil => intro n _; exact Int.le_refl _
  | cons c r ih =>
    intro n hn
    simp only [List.all_cons, Bool.and_eq_true] at h
    have hc := (dgt_iff c).1 h.1
    simp only [List.foldl_cons]
    have := ih h.2 (10 * n + ((c.toNat : Int) - 48)) (by omega)
    omega
theorem numS_nn (l : List UInt8) (h : l.all dgt = true) : 0 ≤ numS l := numS_grow l h 0 (Int.le_refl _)
theorem numS_app (l r : List UInt8) (hl : l.all dgt = true) (h : r.all dgt = true) : numS l ≤ numS (l ++ r) := by
  unfold numS; rw [List.foldl_append]; exact numS_grow r h _ (numS_nn l hl)

theorem len_toList (s : ByteArray) : s.data.toList.length = s.size := by simp
theorem toList_empty (s : ByteArray) : s.toList.isEmpty = decide (s.size = 0) := by
  rw [ByteArray.toList_eq, ← len_toList]; cases s.data.toList <;> simp
theorem not_nil {s : ByteArray} (h : 0 < s.size) : ¬ s.toList = [] := by
  intro e
  have h1 := toList_empty s
  rw [e, decide_eq_false (by omega)] at h1
  cases h1

theorem head_get (s : ByteArray) (h : 0 < s.size) : s.data.toList.head? = some s[0] := by
  rw [List.head?_eq_getElem?]
  have : 0 < s.data.toList.length := by simpa using h
  rw [List.getElem?_eq_getElem this]; rfl
theorem plainS_of (s : ByteArray) (h : 0 < s.size) : plainS s.data.toList = (!((s[0].toNat == 48) && decide (1 < s.size)) && s.data.toList.all dgt) := by
  unfold plainS
  rw [head_get s h]
  have h1 : s.data.toList.isEmpty = false := by
    rw [← len_toList] at h; cases hl : s.data.toList with
    | nil => rw [hl] at h; simp at h
    | cons _ _ => rfl
  have h2 : (some s[0] == some (48 : UInt8)) = (s[0].toNat == 48) := by
    rw [Bool.eq_iff_iff]; simp
    constructor
    · intro e; rw [e]; rfl
    · intro e; exact UInt8.toNat_inj.1 e
  rw [h1, h2, len_toList]; simp

set_option maxHeartbeats 1000000 in
theorem num_plain (s : ByteArray) (w : World) (hs : s.size ≤ maxLen) : Calls Tryd.prog 35 #[.string s] w fun e w' => e = .returned (.bool (plainS s.data.toList)) ∧ w = w' := by
  unfold maxLen at hs
  by_cases h0 : 0 < s.size
  · have hn := not_nil h0
    have he : s.toList.isEmpty = false := by rw [toList_empty]; exact decide_eq_false (by omega)
    by_cases h1 : s[0].toNat = 48 ∧ 1 < s.size
    · have H : Hid (plainS s.data.toList = false) := by
        show _ = _
        rw [plainS_of s h0, h1.1]; simp [h1.2]
      obtain ⟨h1, h2⟩ := h1
      have h1' : (s[0].toNat : Int) = 48 := by omega
      clear h1
      go_enter Tryd.func35, Tryd.ntmps35
      go_wp2
      go_ret
      exact ⟨by rw [H.out]; rfl, rfl⟩
    · have H : Hid (plainS s.data.toList = s.data.toList.all dgt) := by
        show _ = _
        rw [plainS_of s h0]
        by_cases h2 : s[0].toNat = 48
        · simp [show ¬ 1 < s.size from fun h => h1 ⟨h2, h⟩]
        · simp [h2]
      have HC : Hid ((s[0].toNat : Int) = 48 ∧ s.size ≤ 1 ∨ ¬ (s[0].toNat : Int) = 48) := by
        show _ ∨ _
        by_cases h2 : s[0].toNat = 48
        · exact .inl ⟨by omega, by omega⟩
        · exact .inr (by omega)
      clear h1
      rcases HC.out with ⟨h1, h2⟩ | h1
      all_goals
        clear HC
        go_enter Tryd.func35, Tryd.ntmps35
        go_wp2
        go_loop [18] (fun i => ∃ k : Nat, k ≤ s.size ∧ i = .int .i64 k ∧ (s.data.toList.take k).all dgt = true) (fun i => s.size - (intOf i).toNat)
        case atStart => exact ⟨0, Nat.zero_le _, rfl, rfl⟩
        case round =>
          obtain ⟨k, hk, rfl, hall⟩ := hrel
          have HA := Lib.hid hall
          clear hall
          by_cases hlt : k < s.size
          · have hts := take_snoc s k hlt
            by_cases hd : 48 ≤ (s[k].toNat : Int) ∧ (s[k].toNat : Int) ≤ 57
            · have HS : Hid ((s.data.toList.take (k + 1)).all dgt = true) := by
                show _ = _
                rw [hts, List.all_append, HA.out]; simp; exact (dgt_iff _).2 hd
              obtain ⟨hd1, hd2⟩ := hd
              clear hts
              go_wp2
              go_round
              case rel => exact ⟨k + 1, by omega, by go_num, HS.out⟩
              case measure => simp [intOf]; omega
            · have HS : Hid (s.data.toList.all dgt = false) := by
                show _ = _
                rw [Bool.eq_false_iff]
                intro h
                rw [List.all_eq_true] at h
                exact hd ((dgt_iff _).1 (h s[k] (by
                  have : s[k] = s.data.toList[k]'(by simpa using hlt) := rfl
                  rw [this]; exact List.getElem_mem _)))
              clear hts
              by_cases hd1 : 48 ≤ (s[k].toNat : Int)
              · have hd2 : 57 < (s[k].toNat : Int) := by omega
                clear hd
                go_wp2
                go_ret
                exact ⟨by rw [H.out, HS.out]; rfl, rfl⟩
              · have hd2 : (s[k].toNat : Int) < 48 := by omega
                clear hd hd1
                go_wp2
                go_ret
                exact ⟨by rw [H.out, HS.out]; rfl, rfl⟩
          · have HS : Hid (s.data.toList.all dgt = true) := by
              show _ = _
              have := HA.out
              rwa [List.take_of_length_le (by rw [len_toList]; omega)] at this
            go_wp2
            go_ret
            exact ⟨by rw [H.out, HS.out]; rfl, rfl⟩
  · have H : Hid (plainS s.data.toList = false) := by
      show _ = _
      have : s.data.toList = [] := List.eq_nil_of_length_eq_zero (by rw [len_toList]; omega)
      rw [this]; rfl
    have he : s.toList = [] := by
      have := toList_empty s
      rw [decide_eq_true (by omega)] at this
      simpa using this
    have he2 : s.toList.isEmpty = true := by rw [he]; rfl
    clear h0
    go_enter Tryd.func35, Tryd.ntmps35
    go_wp2
    go_ret
    exact ⟨by rw [H.out]; rfl, rfl⟩

/-- What 'below' and 'signed' tell. -/
def belowS (l : List UInt8) : Int × Int := chk (-numS l)
def signedS (l : List UInt8) (neg : Bool) : Int × Int := if neg then chk (-numS l) else chk (numS l)


set_option maxHeartbeats 1000000 in
theorem num_below (s : ByteArray) (w : World) (hs : s.size ≤ maxLen) (hd : s.data.toList.all dgt = true) : Calls Tryd.prog 41 #[.string s] w fun e w' => e = .returned (.tuple #[.int .i64 (belowS s.data.toList).1, .int .i64 (belowS s.data.toList).2]) ∧ w = w' := by
  unfold maxLen at hs
  have HD := Lib.hid hd
  clear hd
  go_enter Tryd.func41, Tryd.ntmps41
  go_wp2_with fail
  go_loop [4, 10] (fun n i => ∃ k : Nat, k ≤ s.size ∧ i = .int .i64 k ∧ n = .int .i64 (-numS (s.data.toList.take k)) ∧ InR (-numS (s.data.toList.take k))) (fun _ i => s.size - (intOf i).toNat)
  case atStart => exact ⟨0, Nat.zero_le _, rfl, rfl, by simp [numS, InR]⟩
  case round =>
    obtain ⟨k, hk, rfl, rfl, hin⟩ := hrel
    by_cases hlt : k < s.size
    · have hts := take_snoc s k hlt
      have HC : Hid (48 ≤ (s[k].toNat : Int) ∧ (s[k].toNat : Int) ≤ 57) := by
        show _ ∧ _
        have h := HD.out
        rw [List.all_eq_true] at h
        refine (dgt_iff _).1 (h s[k] ?_)
        have : s[k] = s.data.toList[k]'(by simpa using hlt) := rfl
        rw [this]; exact List.getElem_mem _
      have HS : Hid (numS (s.data.toList.take (k + 1)) = 10 * numS (s.data.toList.take k) + ((s[k].toNat : Int) - 48)) := by
        show _ = _
        rw [hts, numS_snoc]
      have HL : Hid (∀ j, numS (s.data.toList.take j) ≤ numS s.data.toList) := by
        intro j
        have h := HD.out
        conv => rhs; rw [← List.take_append_drop j s.data.toList]
        rw [← List.take_append_drop j s.data.toList, List.all_append, Bool.and_eq_true] at h
        exact numS_app _ _ h.1 h.2
      have HN : Hid (0 ≤ numS (s.data.toList.take k)) := by
        have h := HD.out
        rw [← List.take_append_drop k s.data.toList, List.all_append, Bool.and_eq_true] at h
        exact numS_nn _ h.1
      clear hts
      obtain ⟨n, hn⟩ : ∃ n, numS (s.data.toList.take k) = n := ⟨_, rfl⟩
      rw [hn] at HS HN hin ⊢
      have HE := Lib.hid hn
      clear hn
      have hc1 := HC.out.1
      have hc2 := HC.out.2
      have hu : IntKind.u8.wrap ((s[k].toNat : Int) - 48) = (s[k].toNat : Int) - 48 := by rw [IntKind.wrap_u8]; omega
      have HK1 := Lib.hid (HL.out (k + 1))
      clear HL HD
      by_cases hA : InR (-n * 10)
      · have hm : mulS (-n) 10 = (-n * 10, 0) := chk_in hA
        by_cases hB : InR (-n * 10 - ((s[k].toNat : Int) - 48))
        · have hm2 : subS (-n * 10) ((s[k].toNat : Int) - 48) = (-n * 10 - ((s[k].toNat : Int) - 48), 0) := chk_in hB
          go_wp2_with (first
            | (go_at_call 15; refine (num_Mul _ _ _ hin (by unfold InR; omega)).mono ?_; rintro e w' ⟨rfl, rfl⟩)
            | (go_at_call 12; refine (num_Sub _ _ _ hA (by unfold InR; omega)).mono ?_; rintro e w' ⟨rfl, rfl⟩))
          go_round
          case rel =>
            have e1 : -n * 10 - ((s[k].toNat : Int) - 48) = -numS (s.data.toList.take (k + 1)) := by rw [HS.out]; omega
            rw [e1] at hB
            exact ⟨k + 1, by omega, by go_num, by rw [e1], hB⟩
          case measure => simp [intOf]; omega
        · have hm2 : subS (-n * 10) ((s[k].toNat : Int) - 48) = (0, 4) := chk_out hB
          have HF : Hid (belowS s.data.toList = (0, 4)) := by
            refine chk_out fun h => hB ?_
            have := HK1.out; have := HS.out
            unfold InR at *; omega
          go_wp2_with (first
            | (go_at_call 15; refine (num_Mul _ _ _ hin (by unfold InR; omega)).mono ?_; rintro e w' ⟨rfl, rfl⟩)
            | (go_at_call 12; refine (num_Sub _ _ _ hA (by unfold InR; omega)).mono ?_; rintro e w' ⟨rfl, rfl⟩))
          go_ret2
          exact ⟨by rw [HF.out]; rfl, rfl⟩
      · have hm : mulS (-n) 10 = (0, 4) := chk_out hA
        have HF : Hid (belowS s.data.toList = (0, 4)) := by
          refine chk_out fun h => hA ?_
          have := HK1.out; have := HS.out; have := HN.out
          unfold InR at *; omega
        go_wp2_with (first
          | (go_at_call 15; refine (num_Mul _ _ _ hin (by unfold InR; omega)).mono ?_; rintro e w' ⟨rfl, rfl⟩))
        go_ret2
        exact ⟨by rw [HF.out]; rfl, rfl⟩
    · go_wp2_with fail
      go_ret2
      have : s.data.toList.take k = s.data.toList := List.take_of_length_le (by rw [len_toList]; omega)
      rw [this] at hin ⊢
      exact ⟨by unfold belowS; rw [chk_in hin]; rfl, rfl⟩

theorem signedS_t (l : List UInt8) : signedS l true = belowS l := rfl
theorem signedS_out (l : List UInt8) (h : l.all dgt = true) (h1 : ¬ InR (-numS l)) (n : Bool) : signedS l n = (0, 4) := by
  have := numS_nn l h
  cases n
  · exact chk_out fun h2 => h1 (by unfold InR at *; omega)
  · exact chk_out h1

set_option maxHeartbeats 1000000 in
theorem num_signed (s : ByteArray) (neg : Bool) (w : World) (hs : s.size ≤ maxLen) (hd : s.data.toList.all dgt = true) : Calls Tryd.prog 36 #[.string s, .bool neg] w fun e w' => e = .returned (.tuple #[.int .i64 (signedS s.data.toList neg).1, .int .i64 (signedS s.data.toList neg).2]) ∧ w = w' := by
  by_cases h : InR (-numS s.data.toList)
  · have hb : belowS s.data.toList = (-numS s.data.toList, 0) := chk_in h
    have H0 : Hid (InR 0) := by show InR 0; unfold InR; omega
    cases neg
    · have H : Hid (signedS s.data.toList false = subS 0 (-numS s.data.toList)) := by
        show chk _ = chk _
        rw [Int.zero_sub, Int.neg_neg]
      go_enter Tryd.func36, Tryd.ntmps36
      go_wp2_with (first
        | (go_at_call 41; refine (num_below _ _ hs hd).mono ?_; rintro e w' ⟨rfl, rfl⟩)
        | (go_at_call 12; refine (num_Sub _ _ _ H0.out h).mono ?_; rintro e w' ⟨rfl, rfl⟩))
      go_ret2
      exact ⟨by rw [H.out]; rfl, rfl⟩
    · have H := Lib.hid (signedS_t s.data.toList)
      have HB := Lib.hid hb
      go_enter Tryd.func36, Tryd.ntmps36
      go_wp2_with (first
        | (go_at_call 41; refine (num_below _ _ hs hd).mono ?_; rintro e w' ⟨rfl, rfl⟩))
      go_ret2
      exact ⟨by rw [H.out, HB.out]; rfl, rfl⟩
  · have hb : belowS s.data.toList = (0, 4) := chk_out h
    have H := Lib.hid (signedS_out s.data.toList hd h neg)
    go_enter Tryd.func36, Tryd.ntmps36
    go_wp2_with (first
      | (go_at_call 41; refine (num_below _ _ hs hd).mono ?_; rintro e w' ⟨rfl, rfl⟩))
    all_goals
      go_ret2
      exact ⟨by rw [H.out]; rfl, rfl⟩

/-- The number of any text, or what is wrong with it. -/
def parseS (l : List UInt8) : Int × Int :=
  match l with
  | [] => (0, 2)
  | c :: r => if c.toNat = 45 then (if r = [48] then (0, 2) else if plainS r = true then signedS r true else (0, 2)) else if plainS (c :: r) = true then signedS (c :: r) false else (0, 2)
theorem plainS_all {l : List UInt8} (h : plainS l = true) : l.all dgt = true := by
  unfold plainS at h; simp only [Bool.and_eq_true] at h; exact h.2
theorem cons_tail (s : ByteArray) (h : 0 < s.size) : s.data.toList = s[0] :: (s.extract 1 s.size).data.toList := by
  have h1 : (s.extract 1 s.size).data.toList = s.data.toList.drop 1 := by
    rw [ByteArray.data_extract, Array.toList_extract]
    simp
    exact List.take_of_length_le (by simp)
  rw [h1]
  have h2 : 0 < s.data.toList.length := by rw [len_toList]; exact h
  have h3 : s[0] = s.data.toList[0] := rfl
  rw [h3]
  have h4 := List.drop_eq_getElem_cons h2
  rw [List.drop_zero] at h4
  exact h4

set_option maxHeartbeats 2000000 in
theorem num_Parse (s : ByteArray) (w : World) (hs : s.size ≤ maxLen) : Calls Tryd.prog 21 #[.string s] w fun e w' => e = .returned (.tuple #[.int .i64 (parseS s.data.toList).1, .int .i64 (parseS s.data.toList).2]) ∧ w = w' := by
  have hs2 := hs
  unfold maxLen at hs2
  by_cases h0 : 0 < s.size
  · have hn := not_nil h0
    have he : s.toList.isEmpty = false := by rw [toList_empty]; exact decide_eq_false (by omega)
    have hct := cons_tail s h0
    have hz : (s.extract 1 s.size).size ≤ s.size := by simp [ByteArray.size_extract]
    obtain ⟨t, ht⟩ : ∃ t, s.extract 1 s.size = t := ⟨_, rfl⟩
    rw [ht] at hct hz
    have hl : parseS s.data.toList = if s[0].toNat = 45 then (if t.data.toList = [48] then (0, 2) else if plainS t.data.toList = true then signedS t.data.toList true else (0, 2)) else if plainS s.data.toList = true then signedS s.data.toList false else (0, 2) := by
      rw [hct]; rfl
    clear hct
    have HL := Lib.hid hl
    clear hl
    by_cases hc : s[0].toNat = 45
    · have hc1 : (s[0].toNat : Int) = 45 := by omega
      have HL2 : Hid (parseS s.data.toList = if t.data.toList = [48] then (0, 2) else if plainS t.data.toList = true then signedS t.data.toList true else (0, 2)) := HL.out.trans (if_pos hc)
      clear HL hc
      have HTL := Lib.hid (ByteArray.toList_eq t)
      by_cases h48 : t.data.toList = [48]
      · have ht1 : (t.toList == [48]) = true := by rw [HTL.out, h48]; rfl
        have HL3 : Hid (parseS s.data.toList = (0, 2)) := HL2.out.trans (if_pos h48)
        clear HL2 h48
        go_enter Tryd.func21, Tryd.ntmps21
        go_wp2_with fail
        go_ret2
        exact ⟨by rw [HL3.out]; rfl, rfl⟩
      · have ht1 : (t.toList == [48]) = false := by rw [HTL.out]; exact beq_eq_false_iff_ne.2 h48
        have HL3 : Hid (parseS s.data.toList = if plainS t.data.toList = true then signedS t.data.toList true else (0, 2)) := HL2.out.trans (if_neg h48)
        clear HL2 h48
        have hts : t.size ≤ maxLen := by unfold maxLen; omega
        have HTS := Lib.hid hts
        clear hts
        by_cases hp : plainS t.data.toList = true
        · have HL4 : Hid (parseS s.data.toList = signedS t.data.toList true) := HL3.out.trans (if_pos hp)
          have HA := Lib.hid (plainS_all hp)
          clear HL3
          go_enter Tryd.func21, Tryd.ntmps21
          go_wp2_with (first
            | (go_at_call 35; refine (num_plain _ _ HTS.out).mono ?_; rintro e w' ⟨rfl, rfl⟩)
            | (go_at_call 36; refine (num_signed _ _ _ HTS.out HA.out).mono ?_; rintro e w' ⟨rfl, rfl⟩))
          go_ret2
          exact ⟨by rw [HL4.out]; rfl, rfl⟩
        · have hp1 : plainS t.data.toList = false := by simpa using hp
          have HL4 : Hid (parseS s.data.toList = (0, 2)) := HL3.out.trans (if_neg hp)
          clear HL3 hp
          go_enter Tryd.func21, Tryd.ntmps21
          go_wp2_with (first
            | (go_at_call 35; refine (num_plain _ _ HTS.out).mono ?_; rintro e w' ⟨rfl, rfl⟩))
          go_ret2
          exact ⟨by rw [HL4.out]; rfl, rfl⟩
    · have hc1 : ((s[0].toNat : Int) == 45) = false := beq_eq_false_iff_ne.2 (by omega)
      have HL3 : Hid (parseS s.data.toList = if plainS s.data.toList = true then signedS s.data.toList false else (0, 2)) := HL.out.trans (if_neg hc)
      have hc2 : ¬ (s[0].toNat : Int) = 45 := by omega
      clear HL hc hz ht
      have HTS := Lib.hid hs
      clear hs
      by_cases hp : plainS s.data.toList = true
      · have HL4 : Hid (parseS s.data.toList = signedS s.data.toList false) := HL3.out.trans (if_pos hp)
        have HA := Lib.hid (plainS_all hp)
        have HD : Hid (∀ P : Prop, (48 ≤ (s[0].toNat : Int) → (s[0].toNat : Int) ≤ 57 → P) → P) := by
          intro P h
          have h1 := HA.out
          rw [List.all_eq_true] at h1
          have h2 := (dgt_iff s[0]).1 (h1 s[0] (by
            have : s[0] = s.data.toList[0]'(by rw [len_toList]; exact h0) := rfl
            rw [this]; exact List.getElem_mem _))
          exact h h2.1 h2.2
        clear HL3
        go_enter Tryd.func21, Tryd.ntmps21
        go_wp2_with (first
          | (go_at_call 35; refine (num_plain _ _ HTS.out).mono ?_; rintro e w' ⟨rfl, rfl⟩)
          | (go_at_call 36; refine (num_signed _ _ _ HTS.out HA.out).mono ?_; rintro e w' ⟨rfl, rfl⟩))
        all_goals go_ret2
        all_goals
          first
            | exact ⟨by rw [HL4.out]; rfl, rfl⟩
            | (exfalso; refine HD.out _ fun _ _ => ?_; simp_all; omega)
      · have hp1 : plainS s.data.toList = false := by simpa using hp
        have HL4 : Hid (parseS s.data.toList = (0, 2)) := HL3.out.trans (if_neg hp)
        clear HL3 hp
        go_enter Tryd.func21, Tryd.ntmps21
        go_wp2_with (first
          | (go_at_call 35; refine (num_plain _ _ HTS.out).mono ?_; rintro e w' ⟨rfl, rfl⟩))
        all_goals
          go_ret2
          exact ⟨by rw [HL4.out]; rfl, rfl⟩
  · have he : s.toList = [] := by
      have := toList_empty s
      rw [decide_eq_true (by omega)] at this
      simpa using this
    have he2 : s.toList.isEmpty = true := by rw [he]; rfl
    have H : Hid (parseS s.data.toList = (0, 2)) := by
      show _ = _
      rw [← ByteArray.toList_eq, he]; rfl
    clear h0
    go_enter Tryd.func21, Tryd.ntmps21
    go_wp2_with fail
    go_ret2
    exact ⟨by rw [H.out]; rfl, rfl⟩
end Go.Proofs.YtjfnodpchjkkmaaDoor
