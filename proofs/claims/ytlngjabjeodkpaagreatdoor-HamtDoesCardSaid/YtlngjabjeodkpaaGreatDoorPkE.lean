/- Texts put together: NumWalks NumText TextPure NumBytes Ref01Walks Ref01Bytes Ref01Text. -/
import Derived.Test.YtlngjabjeodkpaaGreatDoorChecked
import Derived.Test.YtlngjabjeodkpaaGreatDoorPkD
import Derived.WalkKit
import Derived.WalkSpells
import Derived.Outline
import Derived.Lib.Hide
import Derived.Lib.MinMax
import Derived.LoopTactic
import Derived.Lib.ItoaNum
import Derived.Handy
import Derived.Deep.QuietTactic
import Derived.BigQuiet
import Derived.WalkLawsBesides
import Derived.Deep.RegionWith
import Derived.Lib.ItoaLen

/- The contracts of package num's sums, products and quotients: each returns the checked number; the world is as it was. -/
namespace Go.Proofs.YtlngjabjeodkpaaGreatDoor
open Go.RowKit

theorem ret_bool {x y : Bool} (h : x = y) : Ending.returned (.bool x) = .returned (.bool y) := by rw [h]
theorem ret_two {x y : Int × Int} (h : x = y) : Ending.returned (.tuple #[.int .i64 x.1, .int .i64 x.2]) = .returned (.tuple #[.int .i64 y.1, .int .i64 y.2]) := by rw [h]
abbrev two (x : Int × Int) : Value := .tuple #[.int .i64 x.1, .int .i64 x.2]








def plS (i n : Int) : Int × Bool := if 0 ≤ i ∧ i < n then (i, true) else if i < 0 ∧ 0 < n ∧ -n ≤ i then (n + i, true) else (0, false)
def edS (i n : Int) : Int := if i < 0 then max (n + i) 0 else min i n
def cutS (lo hi n : Int) : Int × Int := (edS lo (max n 0), max (edS lo (max n 0)) (edS hi (max n 0)))
theorem ret_place {x y : Int × Bool} (h : x = y) : Ending.returned (.tuple #[.int .i64 x.1, .bool x.2]) = .returned (.tuple #[.int .i64 y.1, .bool y.2]) := by rw [h]
theorem ret_int {x y : Int} (h : x = y) : Ending.returned (.int .i64 x) = .returned (.int .i64 y) := by rw [h]


theorem edS_in (i n : Int) (h0 : 0 ≤ n) : 0 ≤ edS i n ∧ edS i n ≤ n := by unfold edS; split <;> omega

end Go.Proofs.YtlngjabjeodkpaaGreatDoor

/- The contracts of package num's texts: digits, and the number of digits. -/
namespace Go.Proofs.YtlngjabjeodkpaaGreatDoor
open Go.RowKit

def dgt (c : UInt8) : Bool := decide (48 ≤ c.toNat ∧ c.toNat ≤ 57)
/-- One digit or more, without noughts in front. -/
def plainS (l : List UInt8) : Bool := !l.isEmpty && !(l.head? == some 48 && decide (1 < l.length)) && l.all dgt
/-- The number of these digits. -/
def numS (l : List UInt8) : Int := l.foldl (fun n c => 10 * n + ((c.toNat : Int) - 48)) 0
theorem numS_snoc (l : List UInt8) (c : UInt8) : numS (l ++ [c]) = 10 * numS l + ((c.toNat : Int) - 48) := by simp [numS]
theorem numS_nil : numS [] = 0 := rfl
theorem dgt_iff (c : UInt8) : dgt c = true ↔ 48 ≤ (c.toNat : Int) ∧ (c.toNat : Int) ≤ 57 := by unfold dgt; simp; omega
theorem take_snoc (s : ByteArray) (k : Nat) (h : k < s.size) : s.data.toList.take (k + 1) = s.data.toList.take k ++ [s[k]] := by
  rw [List.take_succ_eq_append_getElem (by simpa using h)]; rfl
theorem numS_grow (l : List UInt8) (h : l.all dgt = true) : ∀ n : Int, 0 ≤ n → n ≤ l.foldl (fun n c => 10 * n + ((c.toNat : Int) - 48)) n := by
  induction l with
  | nil => intro n _; exact Int.le_refl _
  | cons c r ih =>
    intro n hn
    simp only [List.all_cons, Bool.and_eq_true] at h
    have hc := (dgt_iff c).1 h.1
    simp only [List.foldl_cons]
    have := ih h.2 (10 * n + ((c.toNat : Int) - 48)) (by omega)
    omega
theorem numS_nn (l : List UInt8) (h : l.all dgt = true) : 0 ≤ numS l := numS_grow l h 0 (Int.le_refl _)
theorem numS_app (l r : List UInt8) (hl : l.all dgt = true) (h : r.all dgt = true) : numS l ≤ numS (l ++ r) := by
  unfold numS; rw [List.foldl_append]; exact numS_grow r h _ (numS_nn l hl)

theorem len_toList (s : ByteArray) : s.data.toList.length = s.size := by simp
theorem toList_empty (s : ByteArray) : s.toList.isEmpty = decide (s.size = 0) := by
  rw [ByteArray.toList_eq, ← len_toList]; cases s.data.toList <;> simp
theorem not_nil {s : ByteArray} (h : 0 < s.size) : ¬ s.toList = [] := by
  intro e
  have h1 := toList_empty s
  rw [e, decide_eq_false (by omega)] at h1
  cases h1

theorem head_get (s : ByteArray) (h : 0 < s.size) : s.data.toList.head? = some s[0] := by
  rw [List.head?_eq_getElem?]
  have : 0 < s.data.toList.length := by simpa using h
  rw [List.getElem?_eq_getElem this]; rfl
theorem plainS_of (s : ByteArray) (h : 0 < s.size) : plainS s.data.toList = (!((s[0].toNat == 48) && decide (1 < s.size)) && s.data.toList.all dgt) := by
  unfold plainS
  rw [head_get s h]
  have h1 : s.data.toList.isEmpty = false := by
    rw [← len_toList] at h; cases hl : s.data.toList with
    | nil => rw [hl] at h; simp at h
    | cons _ _ => rfl
  have h2 : (some s[0] == some (48 : UInt8)) = (s[0].toNat == 48) := by
    rw [Bool.eq_iff_iff]; simp
    constructor
    · intro e; rw [e]; rfl
    · intro e; exact UInt8.toNat_inj.1 e
  rw [h1, h2, len_toList]; simp


/-- What 'below' and 'signed' tell. -/
def belowS (l : List UInt8) : Int × Int := chk (-numS l)
def signedS (l : List UInt8) (neg : Bool) : Int × Int := if neg then chk (-numS l) else chk (numS l)



theorem signedS_t (l : List UInt8) : signedS l true = belowS l := rfl
theorem signedS_out (l : List UInt8) (h : l.all dgt = true) (h1 : ¬ InR (-numS l)) (n : Bool) : signedS l n = (0, 4) := by
  have := numS_nn l h
  cases n
  · exact chk_out fun h2 => h1 (by unfold InR at *; omega)
  · exact chk_out h1


/-- The number of any text, or what is wrong with it. -/
def parseS (l : List UInt8) : Int × Int :=
  match l with
  | [] => (0, 2)
  | c :: r => if c.toNat = 45 then (if r = [48] then (0, 2) else if plainS r = true then signedS r true else (0, 2)) else if plainS (c :: r) = true then signedS (c :: r) false else (0, 2)
theorem plainS_all {l : List UInt8} (h : plainS l = true) : l.all dgt = true := by
  unfold plainS at h; simp only [Bool.and_eq_true] at h; exact h.2
theorem cons_tail (s : ByteArray) (h : 0 < s.size) : s.data.toList = s[0] :: (s.extract 1 s.size).data.toList := by
  have h1 : (s.extract 1 s.size).data.toList = s.data.toList.drop 1 := by
    rw [ByteArray.data_extract, Array.toList_extract]
    simp
    exact List.take_of_length_le (by simp)
  rw [h1]
  have h2 : 0 < s.data.toList.length := by rw [len_toList]; exact h
  have h3 : s[0] = s.data.toList[0] := rfl
  rw [h3]
  have h4 := List.drop_eq_getElem_cons h2
  rw [List.drop_zero] at h4
  exact h4

end Go.Proofs.YtlngjabjeodkpaaGreatDoor

/- Decimal numerals: digits are parsed as their number, and what is parsed is written so. -/
namespace Go.Proofs.YtlngjabjeodkpaaGreatDoor
open Go.RowKit

def dch (d : Nat) : UInt8 := UInt8.ofNat (48 + d)
theorem dch_toNat (d : Nat) (h : d < 10) : (dch d).toNat = 48 + d := by
  unfold dch; rw [UInt8.toNat_ofNat_of_lt' (by simp only [UInt8.size]; omega)]
theorem dch_dgt (d : Nat) (h : d < 10) : dgt (dch d) = true := by
  rw [dgt_iff, dch_toNat d h]; omega
theorem dch_of (c : UInt8) (h : dgt c = true) : dch (c.toNat - 48) = c := by
  have h1 := (dgt_iff c).1 h
  refine UInt8.toNat_inj.1 ?_
  rw [dch_toNat _ (by omega)]; omega
theorem dec_small (u : Nat) (h : u < 10) : Lib.decDigits u = [dch u] := by rw [Lib.decDigits, dif_pos h]; rfl
theorem dec_big (u : Nat) (h : ¬ u < 10) : Lib.decDigits u = Lib.decDigits (u / 10) ++ [dch (u % 10)] := by rw [Lib.decDigits, dif_neg h]; rfl

theorem numS_dec (u : Nat) : numS (Lib.decDigits u) = (u : Int) := by
  induction u using Nat.strongRecOn with
  | _ u ih =>
    by_cases h : u < 10
    · rw [dec_small u h]
      simp only [numS, List.foldl_cons, List.foldl_nil, dch_toNat u h]; omega
    · rw [dec_big u h, numS_snoc, ih (u / 10) (by omega), dch_toNat _ (by omega)]; omega
theorem all_dec (u : Nat) : (Lib.decDigits u).all dgt = true := by
  induction u using Nat.strongRecOn with
  | _ u ih =>
    by_cases h : u < 10
    · rw [dec_small u h]; simp [dch_dgt u h]
    · rw [dec_big u h, List.all_append, ih (u / 10) (by omega)]; simp [dch_dgt (u % 10) (by omega)]
theorem dec_ne (u : Nat) : Lib.decDigits u ≠ [] := by
  by_cases h : u < 10
  · rw [dec_small u h]; simp
  · rw [dec_big u h]; simp
/-- The first digit of what is not nought is not nought. -/
theorem dec_head (u : Nat) (h0 : 0 < u) : ∃ c r, Lib.decDigits u = c :: r ∧ c ≠ 48 := by
  induction u using Nat.strongRecOn with
  | _ u ih =>
    by_cases h : u < 10
    · refine ⟨dch u, [], dec_small u h, fun e => ?_⟩
      have := congrArg UInt8.toNat e
      rw [dch_toNat u h] at this
      have h48 : (48 : UInt8).toNat = 48 := rfl
      omega
    · obtain ⟨c, r, e, hc⟩ := ih (u / 10) (by omega) (by omega)
      exact ⟨c, r ++ [dch (u % 10)], by rw [dec_big u h, e]; rfl, hc⟩
theorem plain_dec (u : Nat) : plainS (Lib.decDigits u) = true := by
  unfold plainS
  rw [all_dec]
  by_cases h0 : 0 < u
  · obtain ⟨c, r, e, hc⟩ := dec_head u h0
    rw [e]
    simp [hc]
  · obtain rfl : u = 0 := by omega
    rw [dec_small 0 (by omega)]; rfl
theorem plainS_snoc (l : List UInt8) (c : UInt8) (hl : l ≠ []) (h : plainS (l ++ [c]) = true) : plainS l = true ∧ dgt c = true ∧ 1 ≤ numS l := by
  obtain ⟨a, r, rfl⟩ := List.exists_cons_of_ne_nil hl
  unfold plainS at h ⊢
  simp only [List.cons_append, List.isEmpty_cons, Bool.not_false, Bool.true_and, List.head?_cons, List.length_cons, List.length_append, List.length_nil, List.all_cons, List.all_append, Bool.and_eq_true] at h
  obtain ⟨h1, h2, h3, h4⟩ := h
  have hne : a ≠ 48 := by
    rintro rfl
    simp at h1
  have hd := (dgt_iff a).1 h2
  have ha : 49 ≤ (a.toNat : Int) := by
    have : a.toNat ≠ 48 := fun e => hne (UInt8.toNat_inj.1 e)
    omega
  refine ⟨?_, ?_, ?_⟩
  · simp [hne, h2, h3]
  · simpa using h4
  · have := numS_grow r h3 (10 * 0 + ((a.toNat : Int) - 48)) (by omega)
    show 1 ≤ List.foldl _ _ _
    simp only [List.foldl_cons]
    omega
theorem snoc_cases {α : Type} (l : List α) (h : l ≠ []) : ∃ r c, l = r ++ [c] := ⟨l.dropLast, l.getLast h, (List.dropLast_concat_getLast h).symm⟩
theorem dec_numS : ∀ (k : Nat) (l : List UInt8), l.length ≤ k → plainS l = true → Lib.decDigits (numS l).toNat = l
  | 0, l, hk, h => by
    have : l = [] := List.eq_nil_of_length_eq_zero (by omega)
    subst this; simp [plainS] at h
  | k + 1, l, hk, h => by
    have hne : l ≠ [] := by rintro rfl; simp [plainS] at h
    obtain ⟨r, c, rfl⟩ := snoc_cases l hne
    by_cases hr : r = []
    · subst hr
      have hc : dgt c = true := by have := plainS_all h; simpa using this
      have hd := (dgt_iff c).1 hc
      have hn : numS ([] ++ [c]) = (c.toNat : Int) - 48 := by simp [numS]
      rw [hn, dec_small _ (by omega)]
      have : ((c.toNat : Int) - 48).toNat = c.toNat - 48 := by omega
      rw [this, dch_of c hc]; rfl
    · obtain ⟨h1, h2, h3⟩ := plainS_snoc r c hr h
      have hd := (dgt_iff c).1 h2
      rw [numS_snoc, dec_big _ (by omega)]
      have e1 : (10 * numS r + ((c.toNat : Int) - 48)).toNat / 10 = (numS r).toNat := by omega
      have e2 : (10 * numS r + ((c.toNat : Int) - 48)).toNat % 10 = c.toNat - 48 := by omega
      rw [e1, e2, dch_of c h2, dec_numS k r (by simp at hk; omega) h1]
theorem dec_numS' (l : List UInt8) (h : plainS l = true) : Lib.decDigits (numS l).toNat = l := dec_numS _ l (Nat.le_refl _) h

theorem parseS_cons (c : UInt8) (r : List UInt8) : parseS (c :: r) = if c.toNat = 45 then (if r = [48] then (0, 2) else if plainS r = true then signedS r true else (0, 2)) else if plainS (c :: r) = true then signedS (c :: r) false else (0, 2) := rfl
theorem parse_itoa (n : Int) (hn : InR n) : parseS (Lib.itoa n) = (n, 0) := by
  unfold Lib.itoa
  by_cases h : n < 0
  · rw [if_pos h]
    have hz : Lib.decDigits n.natAbs ≠ [48] := by
      intro e
      have h1 := numS_dec n.natAbs
      rw [e] at h1
      have h2 : numS [48] = 0 := by decide
      omega
    rw [parseS_cons, if_pos (show UInt8.toNat 45 = 45 from rfl), if_neg hz, if_pos (plain_dec _)]
    show chk (-numS (Lib.decDigits n.natAbs)) = _
    rw [numS_dec, show -(n.natAbs : Int) = n by omega]
    exact chk_in hn
  · rw [if_neg h]
    have hp := plain_dec n.toNat
    have ha := all_dec n.toNat
    have hnum := numS_dec n.toNat
    cases hl : Lib.decDigits n.toNat with
    | nil => exact absurd hl (dec_ne _)
    | cons c r =>
      rw [hl] at hp ha hnum
      simp only [List.all_cons, Bool.and_eq_true] at ha
      have hc := (dgt_iff c).1 ha.1
      rw [parseS_cons, if_neg (by omega), if_pos hp]
      show chk (numS (c :: r)) = _
      rw [hnum, show ((n.toNat : Nat) : Int) = n by omega]
      exact chk_in hn
theorem chk_ok {n : Int} (h : (chk n).2 = 0) : (chk n).1 = n := by
  unfold chk at *
  split at h
  · rw [if_pos (by assumption)]
  · simp at h
theorem itoa_parse (l : List UInt8) (h : (parseS l).2 = 0) : Lib.itoa (parseS l).1 = l := by
  cases l with
  | nil => simp [parseS] at h
  | cons c r =>
    unfold parseS at h ⊢
    simp only at h ⊢
    by_cases hc : c.toNat = 45
    · rw [if_pos hc] at h ⊢
      by_cases h48 : r = [48]
      · rw [if_pos h48] at h; simp at h
      · rw [if_neg h48] at h ⊢
        by_cases hp : plainS r = true
        · rw [if_pos hp] at h ⊢
          have h1 : (signedS r true).1 = -numS r := chk_ok h
          rw [h1]
          have h2 := numS_nn r (plainS_all hp)
          have h3 := dec_numS' r hp
          have hnz : numS r ≠ 0 := by
            intro e
            rw [e] at h3
            rw [show (0 : Int).toNat = 0 from rfl, dec_small 0 (by omega)] at h3
            exact h48 h3.symm
          unfold Lib.itoa
          rw [if_pos (by omega), show (-numS r).natAbs = (numS r).toNat by omega, h3]
          congr 1
          exact (UInt8.toNat_inj.1 hc).symm
        · rw [if_neg hp] at h; simp at h
    · rw [if_neg hc] at h ⊢
      by_cases hp : plainS (c :: r) = true
      · rw [if_pos hp] at h ⊢
        have h1 : (signedS (c :: r) false).1 = numS (c :: r) := chk_ok h
        rw [h1]
        have h2 := numS_nn _ (plainS_all hp)
        unfold Lib.itoa
        rw [if_neg (by omega), dec_numS' _ hp]
      · rw [if_neg hp] at h; simp at h
end Go.Proofs.YtlngjabjeodkpaaGreatDoor

/- The contracts of package num's bytes: the eight bytes of a number, and the number of eight bytes. -/
namespace Go.Proofs.YtlngjabjeodkpaaGreatDoor
open Go.RowKit
theorem Below.chain {w w1 w2 : World} (h1 : Below w.heap.size w w1) (h2 : Below w1.heap.size w1 w2) : Below w.heap.size w w2 := h1.trans (h2.mono h1.size)
theorem Below.drawn (w : World) : Below w.heap.size w w.drew := ⟨rfl, rfl, rfl, Nat.le_refl _, fun _ _ => rfl⟩
theorem Below.laid (w : World) (o : Obj) : Below w.heap.size w (w.alloc o) := (Below.refl _ _).alloc (Nat.le_refl _) o
def bt8 (v : Int) : UInt8 := UInt8.ofNat (v % 256).toNat
theorem bt8_toNat (v : Int) : ((bt8 v).toNat : Int) = v % 256 := by
  unfold bt8
  have h0 := Int.emod_nonneg v (show (256 : Int) ≠ 0 by decide)
  have h1 := Int.emod_lt_of_pos v (show (0 : Int) < 256 by decide)
  rw [UInt8.toNat_ofNat_of_lt' (by simp only [UInt8.size]; omega)]
  omega
theorem mk8 (w : World) : (Instr.makeSlice 84 (.int .i64 8) (.int .i64 8)).run Tryz.prog w = .ok (.slice (some ⟨w.heap.size, 0, none⟩) 8 8) (w.alloc (.cells #[.int .u8 0, .int .u8 0, .int .u8 0, .int .u8 0, .int .u8 0, .int .u8 0, .int .u8 0, .int .u8 0] 5)) := by kernel_rfl
theorem cv8 (w : World) (v0 v1 v2 v3 v4 v5 v6 v7 : Int) : (convert 84 9 (.slice (some ⟨w.heap.size, 0, none⟩) 8 8)).run Tryz.prog (w.alloc (.cells #[.int .u8 (v0 % 256), .int .u8 (v1 % 256), .int .u8 (v2 % 256), .int .u8 (v3 % 256), .int .u8 (v4 % 256), .int .u8 (v5 % 256), .int .u8 (v6 % 256), .int .u8 (v7 % 256)] 5)) =
    .ok (.string ⟨#[bt8 v0, bt8 v1, bt8 v2, bt8 v3, bt8 v4, bt8 v5, bt8 v6, bt8 v7]⟩) (w.alloc (.cells #[.int .u8 (v0 % 256), .int .u8 (v1 % 256), .int .u8 (v2 % 256), .int .u8 (v3 % 256), .int .u8 (v4 % 256), .int .u8 (v5 % 256), .int .u8 (v6 % 256), .int .u8 (v7 % 256)] 5)) := by
  refine run_convert_bytes_back (P := Tryz.prog) (w.alloc _) 84 9 5 ⟨w.heap.size, 0, none⟩ 8 [bt8 v0, bt8 v1, bt8 v2, bt8 v3, bt8 v4, bt8 v5, bt8 v6, bt8 v7] Tryz.underlying84 Tryz.underlying5 Tryz.underlying9 ?_
  intro j hj
  have hj' : j < 8 := hj
  match j, hj' with
  | 0, _ => simp [bt8_toNat, Addr.add]
  | 1, _ => simp [bt8_toNat, Addr.add]
  | 2, _ => simp [bt8_toNat, Addr.add]
  | 3, _ => simp [bt8_toNat, Addr.add]
  | 4, _ => simp [bt8_toNat, Addr.add]
  | 5, _ => simp [bt8_toNat, Addr.add]
  | 6, _ => simp [bt8_toNat, Addr.add]
  | 7, _ => simp [bt8_toNat, Addr.add]
def bytesS (n : Int) : List UInt8 := [bt8 ((n + 9223372036854775808) / 72057594037927936), bt8 ((n + 9223372036854775808) / 281474976710656), bt8 ((n + 9223372036854775808) / 1099511627776), bt8 ((n + 9223372036854775808) / 4294967296), bt8 ((n + 9223372036854775808) / 16777216), bt8 ((n + 9223372036854775808) / 65536), bt8 ((n + 9223372036854775808) / 256), bt8 (n + 9223372036854775808)]
theorem word_ofB (n : Int) (h : InR n) : IntKind.u64.wrap (IntKind.u64.wrap n + 9223372036854775808) = n + 9223372036854775808 := by
  rw [IntKind.wrap_u64, IntKind.wrap_u64]; unfold InR at h; omega

def orS (x : Int) (c : UInt8) : Int := bits .or .u64 (IntKind.u64.wrap (x * 256)) (IntKind.u64.wrap (c.toNat : Int))
def or0 (c : UInt8) : Int := bits .or .u64 0 (IntKind.u64.wrap (c.toNat : Int))
theorem u64_in (x : Int) (h0 : 0 ≤ x) (h1 : x < 18446744073709551616) : IntKind.u64.wrap x = x := by rw [IntKind.wrap_u64]; omega
theorem or_low (x : Int) (c : UInt8) (h0 : 0 ≤ x) (h1 : x < 72057594037927936) : bits .or .u64 (x * 256) (c.toNat : Int) = x * 256 + c.toNat := by
  have hc : c.toNat < 256 := c.toNat_lt
  refine bits_join .u64 64 (by decide) (fun n a b => u64_in n a (by simpa using b)) 8 _ _ (by omega) ?_ ?_ (by omega) ?_ ?_
  all_goals simp only [Int.reducePow]; omega
theorem orS_eq (x : Int) (c : UInt8) (h0 : 0 ≤ x) (h1 : x < 72057594037927936) : orS x c = x * 256 + c.toNat := by
  have hc : c.toNat < 256 := c.toNat_lt
  unfold orS
  rw [u64_in (x * 256) (by omega) (by omega), u64_in (c.toNat : Int) (by omega) (by omega), or_low x c h0 h1]
theorem or0_eq (c : UInt8) : or0 c = c.toNat := by
  have hc : c.toNat < 256 := c.toNat_lt
  unfold or0
  rw [u64_in (c.toNat : Int) (by omega) (by omega)]
  have := or_low 0 c (by omega) (by omega)
  simpa using this
/-- The number of these bytes, the highest one first. -/
def valS (l : List UInt8) : Int := l.foldl (fun n c => n * 256 + (c.toNat : Int)) 0
def unbytesS (l : List UInt8) : Int × Int := if l.length = 8 then (valS l - 9223372036854775808, 0) else (0, 2)
theorem or8 (c0 c1 c2 c3 c4 c5 c6 c7 : UInt8) :
    wrap64 (IntKind.u64.wrap (orS (orS (orS (orS (orS (orS (orS (or0 c0) c1) c2) c3) c4) c5) c6) c7 - 9223372036854775808)) = valS [c0, c1, c2, c3, c4, c5, c6, c7] - 9223372036854775808 := by
  have h0 : c0.toNat < 256 := c0.toNat_lt
  have h1 : c1.toNat < 256 := c1.toNat_lt
  have h2 : c2.toNat < 256 := c2.toNat_lt
  have h3 : c3.toNat < 256 := c3.toNat_lt
  have h4 : c4.toNat < 256 := c4.toNat_lt
  have h5 : c5.toNat < 256 := c5.toNat_lt
  have h6 : c6.toNat < 256 := c6.toNat_lt
  have h7 : c7.toNat < 256 := c7.toNat_lt
  rw [or0_eq, orS_eq _ c1 (by omega) (by omega), orS_eq _ c2 (by omega) (by omega), orS_eq _ c3 (by omega) (by omega), orS_eq _ c4 (by omega) (by omega),
    orS_eq _ c5 (by omega) (by omega), orS_eq _ c6 (by omega) (by omega), orS_eq _ c7 (by omega) (by omega)]
  simp only [valS, List.foldl_cons, List.foldl_nil]
  rw [IntKind.wrap_u64]
  unfold wrap64
  omega
theorem eight {α : Type} (l : List α) (h : l.length = 8) : ∃ a b c d e f g i, l = [a, b, c, d, e, f, g, i] := by
  match l, h with
  | [a, b, c, d, e, f, g, i], _ => exact ⟨a, b, c, d, e, f, g, i, rfl⟩
end Go.Proofs.YtlngjabjeodkpaaGreatDoor

/- The contracts of the document's own answers for layer 1: sums, products, quotients, places. -/
namespace Go.Proofs.YtlngjabjeodkpaaGreatDoor
open Go.RowKit

theorem prod_pp {a b : Int} (ha : 0 < a) (hb : 0 < b) : 0 < a * b := Int.mul_pos ha hb
theorem prod_pn {a b : Int} (ha : 0 < a) (hb : b < 0) : a * b < 0 := Int.mul_neg_of_pos_of_neg ha hb
theorem prod_np {a b : Int} (ha : a < 0) (hb : 0 < b) : a * b < 0 := Int.mul_neg_of_neg_of_pos ha hb
theorem prod_nn {a b : Int} (ha : a < 0) (hb : b < 0) : 0 < a * b := Int.mul_pos_of_neg_of_neg ha hb
/-- Where both are above nought. -/
theorem mul_pp {a b : Int} (ha : 0 < a) (hb : 0 < b) : InR (a * b) ↔ a ≤ 9223372036854775807 / b := by
  rw [Int.le_ediv_iff_mul_le hb]
  have := prod_pp ha hb
  unfold InR; omega
/-- Where the one is above, the other one below: by how often the divisor goes into the least. -/
theorem mul_pn {a b : Int} (ha : 0 < a) (hb : b < 0) : InR (a * b) ↔ wrap64 (-Int.tdiv 9223372036854775808 a) ≤ b := by
  have h1 := prod_pn ha hb
  have h3 : Int.tdiv 9223372036854775808 a = 9223372036854775808 / a := Int.tdiv_eq_ediv_of_nonneg (by decide)
  have h5 : 0 ≤ (9223372036854775808 : Int) / a := Int.ediv_nonneg (by decide) (by omega)
  have h6 : (9223372036854775808 : Int) / a ≤ 9223372036854775808 := Int.ediv_le_self _ (by decide)
  have h4 : (-b) * a ≤ 9223372036854775808 ↔ -b ≤ 9223372036854775808 / a := (Int.le_ediv_iff_mul_le ha).symm
  have h7 : (-b) * a = -(a * b) := by rw [Int.neg_mul, Int.mul_comm]
  rw [h7] at h4
  rw [h3, wrap_in _ (by unfold InR; omega)]
  unfold InR; omega
theorem mul_nn {a b : Int} (ha : a < 0) (ha2 : InR a) (ha3 : ¬ a = -9223372036854775808) (hb : b < 0) (hb2 : InR b) (hb3 : ¬ b = -9223372036854775808) :
    InR (a * b) ↔ wrap64 (-a) ≤ wrap64 (Int.tdiv 9223372036854775807 (wrap64 (-b))) := by
  have h1 := prod_nn ha hb
  have hb4 : wrap64 (-b) = -b := wrap_in _ (by unfold InR at *; omega)
  have ha4 : wrap64 (-a) = -a := wrap_in _ (by unfold InR at *; omega)
  have h3 : Int.tdiv 9223372036854775807 (-b) = 9223372036854775807 / (-b) := Int.tdiv_eq_ediv_of_nonneg (by decide)
  have h5 : 0 ≤ (9223372036854775807 : Int) / (-b) := Int.ediv_nonneg (by decide) (by omega)
  have h6 : (9223372036854775807 : Int) / (-b) ≤ 9223372036854775807 := Int.ediv_le_self _ (by decide)
  have h4 : (-a) * (-b) ≤ 9223372036854775807 ↔ -a ≤ 9223372036854775807 / (-b) := (Int.le_ediv_iff_mul_le (by omega)).symm
  rw [Int.neg_mul_neg] at h4
  rw [hb4, ha4, h3, wrap_in _ (by unfold InR; omega)]
  unfold InR; omega
theorem mul_least_l {b : Int} (hb : b < 0) : ¬ InR (-9223372036854775808 * b) := by unfold InR; omega
theorem mul_least_r {a : Int} (ha : a < 0) : ¬ InR (a * -9223372036854775808) := by unfold InR; omega


theorem us_t {a b : Int} (h : (a < 0 ∧ 0 < b) ∨ (0 < a ∧ b < 0)) : us a b = true := decide_eq_true h
theorem us_f {a b : Int} (h : ¬ ((a < 0 ∧ 0 < b) ∨ (0 < a ∧ b < 0))) : us a b = false := decide_eq_false h
theorem pm_f {a b : Int} (h : ¬ (a = -9223372036854775808 ∧ b = -1)) : pm a b = false := decide_eq_false h
theorem pm_ne {a b : Int} (h : pm a b = false) : (a == -9223372036854775808 && b == -1) = false := by
  have := of_decide_eq_false h
  by_cases h1 : a = -9223372036854775808
  · have h2 : ¬ b = -1 := fun h2 => this ⟨h1, h2⟩
    simp [h2]
  · simp [h1]

/-- Nothing but draws. -/
def Quiet (w w' : World) : Prop := ∃ n, w' = w.drewN n
theorem Quiet.below {w w' : World} (h : Quiet w w') : Below w.heap.size w w' := by
  obtain ⟨n, rfl⟩ := h
  exact ⟨rfl, rfl, rfl, Nat.le_refl _, fun _ _ => rfl⟩


theorem fmod_neg1 (a : Int) : a.fmod (-1) = 0 := by
  have := (fmod_bd a (-1) (by decide)).2 (by decide)
  omega

end Go.Proofs.YtlngjabjeodkpaaGreatDoor

/- Layer 1: the document's own bytes; bytes are in the numbers' order; there and back. -/
namespace Go.Proofs.YtlngjabjeodkpaaGreatDoor
open Go.RowKit

/-- The number of these bytes, by weights. -/
def wS : List UInt8 → Int
  | [] => 0
  | c :: r => (c.toNat : Int) * 256 ^ r.length + wS r
theorem wS_bd (l : List UInt8) : 0 ≤ wS l ∧ wS l < 256 ^ l.length := by
  induction l with
  | nil => exact ⟨Int.le_refl _, by decide⟩
  | cons c r ih =>
    have hc : (c.toNat : Int) ≤ 255 := by have := c.toNat_lt; omega
    have hc0 : (0 : Int) ≤ (c.toNat : Int) := by omega
    have hp : (0 : Int) < 256 ^ r.length := Int.pow_pos (by decide)
    have h1 : (c.toNat : Int) * 256 ^ r.length ≤ 255 * 256 ^ r.length := Int.mul_le_mul_of_nonneg_right hc (Int.le_of_lt hp)
    have h2 : 0 ≤ (c.toNat : Int) * 256 ^ r.length := Int.mul_nonneg hc0 (Int.le_of_lt hp)
    simp only [wS, List.length_cons, Int.pow_succ]
    omega
theorem fold_wS (l : List UInt8) : ∀ n : Int, l.foldl (fun n c => n * 256 + (c.toNat : Int)) n = n * 256 ^ l.length + wS l := by
  induction l with
  | nil => intro n; simp [wS]
  | cons c r ih =>
    intro n
    simp only [List.foldl_cons, wS, List.length_cons, Int.pow_succ]
    rw [ih, Int.add_mul, Int.mul_assoc, Int.mul_comm 256]
    omega
theorem valS_eq (l : List UInt8) : valS l = wS l := by unfold valS; rw [fold_wS]; simp
theorem wS_step (c d : UInt8) (l r : List UInt8) (h : l.length = r.length) : (c.toNat < d.toNat → wS (c :: l) < wS (d :: r)) ∧ (c.toNat = d.toNat → (wS (c :: l) < wS (d :: r) ↔ wS l < wS r)) := by
  have h1 := wS_bd l
  have h2 := wS_bd r
  simp only [wS]
  rw [h] at h1 ⊢
  constructor
  · intro hcd
    have hp : (0 : Int) < 256 ^ r.length := Int.pow_pos (by decide)
    have h3 : ((c.toNat : Int) + 1) * 256 ^ r.length ≤ (d.toNat : Int) * 256 ^ r.length := Int.mul_le_mul_of_nonneg_right (by omega) (Int.le_of_lt hp)
    rw [Int.add_mul] at h3
    omega
  · intro hcd
    rw [hcd]; omega
/-- Of one length, texts are in the order of their numbers. -/
theorem lt_wS : ∀ (l r : List UInt8), l.length = r.length → (l < r ↔ wS l < wS r)
  | [], [], _ => by simp [wS]
  | [], _ :: _, h => by simp at h
  | _ :: _, [], h => by simp at h
  | c :: l, d :: r, h => by
    have h' : l.length = r.length := by simpa using h
    have hs := wS_step c d l r h'
    have hs2 := wS_step d c r l h'.symm
    rw [List.cons_lt_cons_iff, UInt8.lt_iff_toNat_lt, lt_wS l r h']
    constructor
    · rintro (h1 | ⟨rfl, h1⟩)
      · exact hs.1 h1
      · exact (hs.2 rfl).2 h1
    · intro h1
      rcases Nat.lt_trichotomy c.toNat d.toNat with h2 | h2 | h2
      · exact .inl h2
      · exact .inr ⟨UInt8.toNat_inj.1 h2, (hs.2 h2).1 h1⟩
      · have := hs2.1 h2; omega
theorem eq_wS : ∀ (l r : List UInt8), l.length = r.length → wS l = wS r → l = r
  | [], [], _, _ => rfl
  | [], _ :: _, h, _ => by simp at h
  | _ :: _, [], h, _ => by simp at h
  | c :: l, d :: r, h, he => by
    have h' : l.length = r.length := by simpa using h
    have hs := wS_step c d l r h'
    have hs2 := wS_step d c r l h'.symm
    rcases Nat.lt_trichotomy c.toNat d.toNat with h2 | h2 | h2
    · have := hs.1 h2; omega
    · have h3 : wS l = wS r := by
        simp only [wS] at he
        rw [h2, h'] at he; omega
      rw [UInt8.toNat_inj.1 h2, eq_wS l r h' h3]
    · have := hs2.1 h2; omega
theorem bytesS_len (n : Int) : (bytesS n).length = 8 := rfl
theorem bytesS_wS (n : Int) (h : InR n) : wS (bytesS n) = n + 9223372036854775808 := by
  unfold InR at h
  simp only [wS, bytesS, bt8_toNat, List.length_cons, List.length_nil, Nat.reduceAdd, Int.reducePow]
  omega
theorem bytesS_lt (a b : Int) (ha : InR a) (hb : InR b) : (bytesS a < bytesS b) ↔ a < b := by
  rw [lt_wS (bytesS a) (bytesS b) rfl, bytesS_wS a ha, bytesS_wS b hb]; omega
theorem unbytes_bytes (n : Int) (h : InR n) : unbytesS (bytesS n) = (n, 0) := by
  unfold unbytesS
  rw [if_pos (bytesS_len n), valS_eq, bytesS_wS n h]
  congr 1; omega
theorem unbytesS_in (l : List UInt8) : InR (unbytesS l).1 := by
  unfold unbytesS
  split
  · rename_i h
    have := wS_bd l
    rw [h] at this
    simp only [Int.reducePow] at this
    rw [valS_eq]; unfold InR; simp only; omega
  · unfold InR; simp only; omega
theorem bytes_unbytes (l : List UInt8) (h : (unbytesS l).2 = 0) : bytesS (unbytesS l).1 = l := by
  have hin := unbytesS_in l
  have h8 : l.length = 8 := by
    unfold unbytesS at h
    split at h
    · assumption
    · simp at h
  refine eq_wS _ _ (by rw [h8]; rfl) ?_
  rw [bytesS_wS _ hin]
  unfold unbytesS
  rw [if_pos h8, valS_eq]; simp only; omega

def up0 (c : UInt8) : Int := IntKind.u64.wrap (IntKind.u64.wrap (c.toNat : Int))
def up2 (x : Int) (c : UInt8) : Int := IntKind.u64.wrap (IntKind.u64.wrap (256 * x) + IntKind.u64.wrap (c.toNat : Int))
theorem up2_eq (x : Int) (c : UInt8) (h0 : 0 ≤ x) (h1 : x < 72057594037927936) : up2 x c = x * 256 + c.toNat := by
  have hc : c.toNat < 256 := c.toNat_lt
  unfold up2
  rw [u64_in (256 * x) (by omega) (by omega), u64_in (c.toNat : Int) (by omega) (by omega), u64_in _ (by omega) (by omega)]
  omega
theorem up0_eq (c : UInt8) : up0 c = c.toNat := by
  have hc : c.toNat < 256 := c.toNat_lt
  unfold up0
  rw [u64_in (c.toNat : Int) (by omega) (by omega), u64_in (c.toNat : Int) (by omega) (by omega)]
theorem up8 (c0 c1 c2 c3 c4 c5 c6 c7 : UInt8) :
    wrap64 (IntKind.u64.wrap (up2 (up2 (up2 (up2 (up2 (up2 (up2 (up0 c0) c1) c2) c3) c4) c5) c6) c7 - 9223372036854775808)) = valS [c0, c1, c2, c3, c4, c5, c6, c7] - 9223372036854775808 := by
  have h0 : c0.toNat < 256 := c0.toNat_lt
  have h1 : c1.toNat < 256 := c1.toNat_lt
  have h2 : c2.toNat < 256 := c2.toNat_lt
  have h3 : c3.toNat < 256 := c3.toNat_lt
  have h4 : c4.toNat < 256 := c4.toNat_lt
  have h5 : c5.toNat < 256 := c5.toNat_lt
  have h6 : c6.toNat < 256 := c6.toNat_lt
  have h7 : c7.toNat < 256 := c7.toNat_lt
  rw [up0_eq, up2_eq _ c1 (by omega) (by omega), up2_eq _ c2 (by omega) (by omega), up2_eq _ c3 (by omega) (by omega), up2_eq _ c4 (by omega) (by omega),
    up2_eq _ c5 (by omega) (by omega), up2_eq _ c6 (by omega) (by omega), up2_eq _ c7 (by omega) (by omega)]
  simp only [valS, List.foldl_cons, List.foldl_nil]
  rw [IntKind.wrap_u64]
  unfold wrap64
  omega
end Go.Proofs.YtlngjabjeodkpaaGreatDoor

/- Layer 1: the document's own digits, and its own reading of them. -/
namespace Go.Proofs.YtlngjabjeodkpaaGreatDoor
open Go.RowKit

/-- A list of one byte as a text: by what its cell holds. -/
theorem old_cell {W w1 : World} (hb : Below W.heap.size W w1) (b o : Nat) (h : b < W.heap.size) : w1.cell? ⟨b, o, none⟩ = W.cell? ⟨b, o, none⟩ := hb.cell (p := ⟨b, o, none⟩) h
noncomputable def cv1X (w : World) (a : Addr) : Result Value := (convert 84 9 (.slice (some a) 1 1)).run Tryz.prog w
open Classical in
noncomputable def cv1 (w : World) (a : Addr) (c : Option Value) : Result Value := if ∃ v, 0 ≤ v ∧ v < 256 ∧ c = some (.int .u8 v) then
  match c with
  | some (.int .u8 v) => .ok (.string ⟨#[bt8 v]⟩) w
  | _ => cv1X w a
  else cv1X w a
theorem cv1_run (w : World) (a : Addr) : (convert 84 9 (.slice (some a) 1 1)).run Tryz.prog w = cv1 w a (w.cell? a) := by
  unfold cv1
  split
  · rename_i h
    obtain ⟨v, h0, h1, hc⟩ := h
    rw [hc]
    have := run_convert_bytes_back (P := Tryz.prog) w 84 9 5 a 1 [bt8 v] Tryz.underlying84 Tryz.underlying5 Tryz.underlying9 (fun j hj => by
      have hj' : j = 0 := by simp at hj; exact hj
      subst hj'
      rw [show a.add 0 = a from by simp [Addr.add], hc]
      simp [bt8_toNat]; omega)
    exact this
  · rfl
theorem cv1_at (w : World) (a : Addr) (v : Int) (h0 : 0 ≤ v) (h1 : v < 256) : cv1 w a (some (.int .u8 v)) = .ok (.string ⟨#[bt8 v]⟩) w := by
  unfold cv1
  rw [if_pos ⟨v, h0, h1, rfl⟩]

theorem bt8_dch (d : Nat) (h : d < 10) : bt8 (48 + (d : Int)) = dch d := by
  refine UInt8.toNat_inj.1 ?_
  have := bt8_toNat (48 + (d : Int))
  rw [dch_toNat d h]; omega

theorem itoa_small (n : Int) (h0 : 0 ≤ n) (h1 : n < 10) : Lib.itoa n = [bt8 (48 + n)] := by
  obtain ⟨d, rfl⟩ := Int.eq_ofNat_of_zero_le h0
  unfold Lib.itoa
  rw [if_neg (by omega), Int.toNat_natCast, dec_small d (by omega), bt8_dch d (by omega)]
theorem itoa_big (q r : Int) (h0 : 1 ≤ q) (h1 : 0 ≤ r) (h2 : r < 10) : Lib.itoa (10 * q + r) = Lib.itoa q ++ [bt8 (48 + r)] := by
  obtain ⟨k, rfl⟩ := Int.eq_ofNat_of_zero_le (show 0 ≤ q by omega)
  obtain ⟨d, rfl⟩ := Int.eq_ofNat_of_zero_le h1
  unfold Lib.itoa
  rw [if_neg (by omega), if_neg (by omega), show (10 * (k : Int) + (d : Int)).toNat = 10 * k + d by omega, Int.toNat_natCast, dec_big _ (by omega), bt8_dch d (by omega),
    show (10 * k + d) / 10 = k by omega, show (10 * k + d) % 10 = d by omega]
theorem itoa_neg (n : Int) (h : n < 0) : Lib.itoa n = 45 :: Lib.itoa (-n) := by
  unfold Lib.itoa
  rw [if_pos h, if_neg (by omega), show (-n).toNat = n.natAbs by omega]
theorem cat_mk (l r : List UInt8) : (⟨l.toArray⟩ : ByteArray) ++ ⟨r.toArray⟩ = ⟨(l ++ r).toArray⟩ := by
  apply ByteArray.ext
  simp [ByteArray.data_append]

set_option maxHeartbeats 1000000 in
theorem ref_Digits_small (n : Int) (w : World) (h0 : 0 ≤ n) (h1 : n < 10) : Calls Tryz.prog 28 #[.int .i64 n] w fun e w' => e = .returned (.string ⟨(Lib.itoa n).toArray⟩) ∧ Below w.heap.size w w' := by
  have hcv := cv1_run
  have hca : ∀ (w : World) (a : Addr), cv1 w a (some (.int .u8 (48 + n))) = .ok (.string ⟨#[bt8 (48 + n)]⟩) w := fun w a => cv1_at w a _ (by omega) (by omega)
  have hb : Hid (∀ o, Below w.heap.size w (w.alloc o)) := fun o => (Below.refl _ _).alloc (Nat.le_refl _) o
  have H := Lib.hid (itoa_small n h0 h1)
  go_enter Tryz.func28, Tryz.ntmps28
  go_wp2_with fail
  go_ret
  exact ⟨by rw [H.out]; rfl, hb.out _⟩

set_option maxHeartbeats 4000000 in
theorem ref_Digits_big (q r : Int) (hq0 : 1 ≤ q) (hr0 : 0 ≤ r) (hr1 : r ≤ 9) (hin : 10 * q + r ≤ 9223372036854775807) (w : World)
    (ih : ∀ W : World, Calls Tryz.prog 28 #[.int .i64 q] W fun e w' => e = .returned (.string ⟨(Lib.itoa q).toArray⟩) ∧ Below W.heap.size W w') :
    Calls Tryz.prog 28 #[.int .i64 (10 * q + r)] w fun e w' => e = .returned (.string ⟨(Lib.itoa (10 * q + r)).toArray⟩) ∧ Below w.heap.size w w' := by
  have IH := Lib.hid ih
  clear ih
  have hcv := cv1_run
  have hca : ∀ (w : World) (a : Addr), cv1 w a (some (.int .u8 (48 + r))) = .ok (.string ⟨#[bt8 (48 + r)]⟩) w := fun w a => cv1_at w a _ (by omega) (by omega)
  have H := Lib.hid (itoa_big q r hq0 hr0 (by omega))
  obtain ⟨n, hn⟩ : ∃ n, n = 10 * q + r := ⟨_, rfl⟩
  rw [← hn] at H hin ⊢
  have h1 : n.tdiv 10 = q := by rw [Int.tdiv_eq_ediv_of_nonneg (by omega)]; omega
  have h2 : n.tmod 10 = r := by rw [Int.tmod_eq_emod_of_nonneg (by omega)]; omega
  have h1' : n / 10 = q := by omega
  have h2' : n % 10 = r := by omega
  have hw1 : IntKind.i64.wrap q = q := by rw [IntKind.wrap_i64]; omega
  have hw2 : IntKind.i64.wrap (48 + r) = 48 + r := by rw [IntKind.wrap_i64]; omega
  have hw3 : IntKind.u8.wrap (48 + r) = 48 + r := by rw [IntKind.wrap_u8]; omega
  have hw4 : (48 + r) % 256 = 48 + r := by omega
  have hw5 : wrap64 (48 + r) = 48 + r := by unfold wrap64; omega
  have hn10 : 10 ≤ n := by omega
  have hl := Lib.itoa_length_le q (by omega) (by omega)
  clear hn
  go_enter Tryz.func28, Tryz.ntmps28
  go_wp2_with fail
  go_region_with (go_at_call 28; refine (IH.out _).mono ?_; rintro e w' ⟨rfl, hb⟩; have hbc := old_cell hb; have HB := Lib.hid hb; clear hb)
  all_goals go_wp2_with fail
  all_goals go_ret
  all_goals refine ⟨by rw [H.out, ← cat_mk]; rfl, ?_⟩
  · exact Below.chain (Below.drawn _) (Below.chain HB.out (Below.laid _ _))
  · exact Below.chain (Below.laid _ _) (Below.chain (Below.drawn _) HB.out)
  · exact Below.chain (Below.laid _ _) (Below.chain (Below.drawn _) HB.out)

theorem ref_Digits_nn (k : Nat) : ∀ (n : Int), n ≤ k → 0 ≤ n → n ≤ 9223372036854775807 → ∀ w : World,
    Calls Tryz.prog 28 #[.int .i64 n] w fun e w' => e = .returned (.string ⟨(Lib.itoa n).toArray⟩) ∧ Below w.heap.size w w' := by
  induction k with
  | zero => intro n h1 h2 h3 w; exact ref_Digits_small n w h2 (by omega)
  | succ k ih =>
    intro n h1 h2 h3 w
    by_cases h : n < 10
    · exact ref_Digits_small n w h2 h
    · have := ref_Digits_big (n / 10) (n % 10) (by omega) (by omega) (by omega) (by omega) w (ih (n / 10) (by omega) (by omega) (by omega))
      rwa [show 10 * (n / 10) + n % 10 = n by omega] at this
theorem itoa_least : Lib.itoa (-9223372036854775808) = [45, 57, 50, 50, 51, 51, 55, 50, 48, 51, 54, 56, 53, 52, 55, 55, 53, 56, 48, 56] := by
  have h : parseS [45, 57, 50, 50, 51, 51, 55, 50, 48, 51, 54, 56, 53, 52, 55, 55, 53, 56, 48, 56] = (-9223372036854775808, 0) := by decide +kernel
  have h1 := itoa_parse _ (by rw [h])
  rw [h] at h1
  exact h1
set_option maxHeartbeats 1000000 in
theorem ref_Digits (n : Int) (hn : InR n) (w : World) :
    Calls Tryz.prog 28 #[.int .i64 n] w fun e w' => e = .returned (.string ⟨(Lib.itoa n).toArray⟩) ∧ Below w.heap.size w w' := by
  obtain ⟨h0, h1⟩ := hn
  by_cases h : 0 ≤ n
  · exact ref_Digits_nn n.toNat n (by omega) h h1 w
  · by_cases hm : n = -9223372036854775808
    · subst hm
      rw [itoa_least]
      go_enter Tryz.func28, Tryz.ntmps28
      go_wp2_with fail
      go_ret
      exact ⟨rfl, Below.refl _ _⟩
    · have hc := Lib.hid (ref_Digits_nn (-n).toNat (-n) (by omega) (by omega) (by omega))
      have H := Lib.hid (itoa_neg n (by omega))
      have hl := Lib.itoa_length_le (-n) (by omega) (by omega)
      have h2 : n < 0 := by omega
      have h3 : (n == -9223372036854775808) = false := beq_eq_false_iff_ne.2 hm
      have hz : wrap64 (-n) = -n := wrap_in _ (by unfold InR; omega)
      clear h hm
      go_enter Tryz.func28, Tryz.ntmps28
      go_wp2_with fail
      refine (hc.out _).mono ?_
      rintro e w' ⟨rfl, hb⟩
      have HB := Lib.hid hb; clear hb
      go_wp2_with fail
      go_ret
      exact ⟨by rw [H.out, show (45 :: Lib.itoa (-n)) = [45] ++ Lib.itoa (-n) from rfl, ← cat_mk]; rfl, HB.out⟩
end Go.Proofs.YtlngjabjeodkpaaGreatDoor
