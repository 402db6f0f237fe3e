/- Texts put together: NumPure NumWalks NumText TextPure NumBytes. -/
import Derived.Laws.BitsLemmas
import Derived.WalkKit
import Derived.Test.YtgdlkaoadlipmaaDoorChecked
import Derived.WalkSpells
import Derived.Outline
import Derived.Lib.Hide
import Derived.Lib.MinMax
import Derived.LoopTactic
import Derived.Lib.ItoaNum
import Derived.Handy

/- Plain facts on whole numbers of 64 bits: checked sums, products, quotients; no program is imported. -/
namespace Go.Proofs.YtgdlkaoadlipmaaDoor
open Go.RowKit

def InR (n : Int) : Prop := -9223372036854775808 ≤ n ∧ n ≤ 9223372036854775807
instance (n : Int) : Decidable (InR n) := inferInstanceAs (Decidable (_ ∧ _))
def chk (n : Int) : Int × Int := if InR n then (n, 0) else (0, 4)
def addS (a b : Int) : Int × Int := chk (a + b)
def subS (a b : Int) : Int × Int := chk (a - b)
def mulS (a b : Int) : Int × Int := chk (a * b)
def divS (a b : Int) : Int × Int := if b = 0 then (0, 9) else chk (a.fdiv b)
def modS (a b : Int) : Int × Int := if b = 0 then (0, 9) else (a.fmod b, 0)

theorem wrap_in (n : Int) (h : InR n) : wrap64 n = n := by unfold wrap64; unfold InR at h; omega
theorem in_wrap (n : Int) : InR (wrap64 n) := by unfold wrap64 InR; omega
theorem in_wrapk (n : Int) : InR (IntKind.i64.wrap n) := by rw [IntKind.wrap_i64]; unfold InR; omega
theorem chk_in {n : Int} (h : InR n) : chk n = (n, 0) := if_pos h
theorem chk_out {n : Int} (h : ¬ InR n) : chk n = (0, 4) := if_neg h

theorem i64_wrap_toInt (v : BitVec 64) : IntKind.i64.wrap (v.toNat : Int) = v.toInt := by
  rw [IntKind.wrap_i64, BitVec.toInt_eq_toNat_cond]
  have := v.isLt
  split <;> omega

theorem ofInt_msb (x : Int) (h : InR x) : (BitVec.ofInt 64 x).msb = decide (x < 0) := by
  have e : (BitVec.ofInt 64 x).toInt = x := by
    rw [BitVec.toInt_ofInt]
    unfold InR at h
    rw [Int.bmod_def]; simp only [Nat.reducePow]; omega
  rw [BitVec.msb_eq_toInt, e]

theorem lt0_msb (v : BitVec 64) : (IntKind.i64.wrap (v.toNat : Int) < 0) ↔ v.msb = true := by
  rw [i64_wrap_toInt, BitVec.msb_eq_toInt]; simp

theorem bits_in (op : BinOp) (x y : Int) : InR (bits op .i64 x y) := by
  unfold bits
  simp only
  exact in_wrapk _

theorem xor_lt0 (x y : Int) (hx : InR x) (hy : InR y) : bits .xor .i64 x y < 0 ↔ (x < 0 ∧ 0 ≤ y ∨ 0 ≤ x ∧ y < 0) := by
  show IntKind.i64.wrap (((BitVec.ofInt 64 x ^^^ BitVec.ofInt 64 y).toNat : Nat) : Int) < 0 ↔ _
  rw [lt0_msb, BitVec.msb_xor, ofInt_msb x hx, ofInt_msb y hy]
  by_cases h1 : x < 0 <;> by_cases h2 : y < 0 <;> simp [h1, h2] <;> omega
theorem and_lt0 (x y : Int) (hx : InR x) (hy : InR y) : bits .and .i64 x y < 0 ↔ (x < 0 ∧ y < 0) := by
  show IntKind.i64.wrap (((BitVec.ofInt 64 x &&& BitVec.ofInt 64 y).toNat : Nat) : Int) < 0 ↔ _
  rw [lt0_msb, BitVec.msb_and, ofInt_msb x hx, ofInt_msb y hy]
  simp

/-- The test of num.Add. -/
theorem add_test (a b : Int) (ha : InR a) (hb : InR b) : bits .and .i64 (bits .xor .i64 a (wrap64 (a + b))) (bits .xor .i64 b (wrap64 (a + b))) < 0 ↔ ¬ InR (a + b) := by
  rw [and_lt0 _ _ (bits_in _ _ _) (bits_in _ _ _), xor_lt0 _ _ ha (in_wrap _), xor_lt0 _ _ hb (in_wrap _)]
  unfold InR at *
  unfold wrap64
  omega
theorem sub_test (a b : Int) (ha : InR a) (hb : InR b) : bits .and .i64 (bits .xor .i64 a b) (bits .xor .i64 a (wrap64 (a - b))) < 0 ↔ ¬ InR (a - b) := by
  rw [and_lt0 _ _ (bits_in _ _ _) (bits_in _ _ _), xor_lt0 _ _ ha hb, xor_lt0 _ _ ha (in_wrap _)]
  unfold InR at *
  unfold wrap64
  omega

/-! products -/
theorem ediv_pos_iff (a b : Int) (h : 0 < b) (q : Int) : a / b = q ↔ q * b ≤ a ∧ a < q * b + b := by
  constructor
  · rintro rfl
    have h1 := Int.emod_nonneg a (Int.ne_of_gt h)
    have h2 := Int.emod_lt_of_pos a h
    have h3 := Int.mul_ediv_add_emod a b
    rw [Int.mul_comm] at h3
    omega
  · rintro ⟨h1, h2⟩
    have h3 : q ≤ a / b := (Int.le_ediv_iff_mul_le h).2 h1
    have h4 : a / b < q + 1 := (Int.ediv_lt_iff_lt_mul h).2 (by rw [Int.add_mul]; omega)
    omega

theorem tmod_nonpos (a b : Int) (h : a ≤ 0) : a.tmod b ≤ 0 := by
  have h1 := Int.tmod_nonneg b (show 0 ≤ -a by omega)
  rw [Int.neg_tmod] at h1; omega
theorem tdiv_bd (x b : Int) : (x.tdiv b).natAbs ≤ x.natAbs := by
  rw [Int.natAbs_tdiv]; exact Nat.div_le_self _ _
theorem tdiv_in (x b : Int) (hx : InR x) (hb : b ≠ 0) (hn : ¬ (x = -9223372036854775808 ∧ b = -1)) : InR (x.tdiv b) := by
  have h := tdiv_bd x b
  unfold InR at *
  by_cases hm : x = -9223372036854775808
  · subst hm
    by_cases h1 : b = 1
    · subst h1; rw [Int.tdiv_one]; omega
    · have : (Int.tdiv (-9223372036854775808) b).natAbs ≤ 4611686018427387904 := by
        rw [Int.natAbs_tdiv]
        have : 2 ≤ b.natAbs := by omega
        calc (-9223372036854775808 : Int).natAbs / b.natAbs ≤ (-9223372036854775808 : Int).natAbs / 2 := Nat.div_le_div_left this (by decide)
          _ = 4611686018427387904 := by decide
      omega
  · omega

theorem mul_back (a b : Int) (hb : b ≠ 0) : (a * b).tdiv b = a := Int.mul_tdiv_cancel a hb

/-- Where the quotient of the wrapped product gives a back, nothing was wrapped round. -/
theorem mul_test (a b : Int) (ha : InR a) (hb : InR b) (h0 : b ≠ 0) (hn : ¬ (a = -9223372036854775808 ∧ b = -1)) :
    wrap64 ((wrap64 (a * b)).tdiv b) = a ↔ InR (a * b) := by
  constructor
  · intro h
    have hw := in_wrap (a * b)
    by_cases hm : wrap64 (a * b) = -9223372036854775808 ∧ b = -1
    · obtain ⟨h1, rfl⟩ := hm
      rw [h1] at h
      have : wrap64 ((-9223372036854775808 : Int).tdiv (-1)) = -9223372036854775808 := by decide +kernel
      rw [this] at h
      exact absurd ⟨h.symm, rfl⟩ hn
    · rw [wrap_in _ (tdiv_in _ b hw h0 hm)] at h
      -- a * b and wrap64 (a*b) differ by a multiple of 2^64, and by less than |b|
      have h3 := Int.mul_tdiv_add_tmod (wrap64 (a * b)) b
      rw [h] at h3
      have h4 : ((wrap64 (a * b)).tmod b).natAbs < b.natAbs := by
        rw [Int.natAbs_tmod]; exact Nat.mod_lt _ (by omega)
      rw [Int.mul_comm] at h3
      generalize (wrap64 (a * b)).tmod b = r at *
      generalize a * b = p at *
      unfold InR at *
      unfold wrap64 at *
      omega
  · intro h
    rw [wrap_in _ h, mul_back a b h0, wrap_in _ ha]

/-! quotients, rounded down -/
theorem fdiv_of_tdiv (a b : Int) (hb : b ≠ 0) :
    a.fdiv b = if (a.tmod b < 0 ∧ 0 < b) ∨ (0 < a.tmod b ∧ b < 0) then a.tdiv b - 1 else a.tdiv b := by
  rw [Int.fdiv_eq_tdiv]
  have hd : b ∣ a ↔ a.tmod b = 0 := ⟨Int.tmod_eq_zero_of_dvd, Int.dvd_of_tmod_eq_zero⟩
  have hs : (a.tmod b < 0 → a < 0) ∧ (0 < a.tmod b → 0 < a) := by
    constructor
    · intro h; by_cases h0 : 0 ≤ a
      · have := Int.tmod_nonneg b h0; omega
      · omega
    · intro h; by_cases h0 : a ≤ 0
      · have := tmod_nonpos a b h0; omega
      · omega
  simp only [hd]
  by_cases h0 : a.tmod b = 0
  · simp [h0]
  · rw [if_neg h0]
    by_cases ha : 0 ≤ a
    · have h1 := Int.tmod_nonneg b ha
      by_cases hb1 : 0 ≤ b
      · rw [if_pos ha, if_pos hb1, if_neg (by omega)]; simp
      · rw [if_pos ha, if_neg hb1, if_pos (by omega)]
    · have h1 := tmod_nonpos a b (show a ≤ 0 by omega)
      by_cases hb1 : 0 ≤ b
      · have hs : b.sign = 1 := Int.sign_eq_one_of_pos (by omega)
        rw [if_neg ha, if_pos hb1, if_pos (by omega), hs]
      · have hs : b.sign = -1 := Int.sign_eq_neg_one_of_neg (by omega)
        rw [if_neg ha, if_neg hb1, if_neg (by omega), hs]; omega

theorem addS_in {a b : Int} (h : InR (a + b)) : addS a b = (wrap64 (a + b), 0) := by rw [wrap_in _ h]; exact chk_in h
theorem addS_out {a b : Int} (h : ¬ InR (a + b)) : addS a b = (0, 4) := chk_out h
theorem subS_in {a b : Int} (h : InR (a - b)) : subS a b = (wrap64 (a - b), 0) := by rw [wrap_in _ h]; exact chk_in h
theorem subS_out {a b : Int} (h : ¬ InR (a - b)) : subS a b = (0, 4) := chk_out h
theorem mulS_in {a b : Int} (h : InR (a * b)) : mulS a b = (wrap64 (a * b), 0) := by rw [wrap_in _ h]; exact chk_in h
theorem mulS_out {a b : Int} (h : ¬ InR (a * b)) : mulS a b = (0, 4) := chk_out h

/-- num.pastMost, num.unlikeSigns. -/
def pm (a b : Int) : Bool := decide (a = -9223372036854775808 ∧ b = -1)
def us (a b : Int) : Bool := decide ((a < 0 ∧ 0 < b) ∨ (0 < a ∧ b < 0))

theorem mulS_zero (a : Int) : mulS a 0 = (0, 0) := by unfold mulS; rw [Int.mul_zero]; exact chk_in (by unfold InR; omega)
theorem mulS_pm {a b : Int} (h : pm a b = true) : mulS a b = (0, 4) := by
  unfold pm at h; obtain ⟨rfl, rfl⟩ := of_decide_eq_true h
  exact chk_out (by unfold InR; omega)
theorem mulS_bad {a b : Int} (ha : InR a) (hb : InR b) (h0 : ¬ b = 0) (hp : pm a b = false) (h : (wrap64 ((wrap64 (a * b)).tdiv b) != a) = true) : mulS a b = (0, 4) := by
  refine mulS_out fun hin => ?_
  rw [(mul_test a b ha hb h0 (of_decide_eq_false hp)).2 hin] at h
  simp at h
theorem mulS_good {a b : Int} (ha : InR a) (hb : InR b) (h0 : ¬ b = 0) (hp : pm a b = false) (h : (wrap64 ((wrap64 (a * b)).tdiv b) != a) = false) : mulS a b = (wrap64 (a * b), 0) :=
  mulS_in ((mul_test a b ha hb h0 (of_decide_eq_false hp)).1 (by simpa using h))

theorem divS_zero (a : Int) : divS a 0 = (0, 9) := if_pos rfl
theorem divS_pm {a b : Int} (h : pm a b = true) : divS a b = (0, 4) := by
  unfold pm at h; obtain ⟨rfl, rfl⟩ := of_decide_eq_true h
  decide +kernel
theorem tdiv_us (a b : Int) (ha : InR a) (h0 : ¬ b = 0) (hp : pm a b = false) (h : us (a.tmod b) b = true) : InR (a.tdiv b - 1) ∧ a.fdiv b = a.tdiv b - 1 := by
  have h1 := of_decide_eq_true h
  refine ⟨?_, by rw [fdiv_of_tdiv a b h0, if_pos h1]⟩
  have h2 := tdiv_in a b ha h0 (of_decide_eq_false hp)
  -- the quotient is below 0 or nought, so not the least one: |q| is less than |a| as |b| is above 1
  have h3 : (a.tdiv b).natAbs ≤ 4611686018427387904 := by
    rw [Int.natAbs_tdiv]
    have hb2 : 2 ≤ b.natAbs := by
      have : (a.tmod b).natAbs < b.natAbs := by rw [Int.natAbs_tmod]; exact Nat.mod_lt _ (by omega)
      omega
    have ha2 : a.natAbs ≤ 9223372036854775808 := by unfold InR at ha; omega
    calc a.natAbs / b.natAbs ≤ a.natAbs / 2 := Nat.div_le_div_left hb2 (by decide)
      _ ≤ 4611686018427387904 := by omega
  unfold InR; omega
theorem divS_us {a b : Int} (ha : InR a) (h0 : ¬ b = 0) (hp : pm a b = false) (h : us (a.tmod b) b = true) : divS a b = (wrap64 (wrap64 (a.tdiv b) - 1), 0) := by
  obtain ⟨h1, h2⟩ := tdiv_us a b ha h0 hp h
  rw [wrap_in _ (tdiv_in a b ha h0 (of_decide_eq_false hp)), wrap_in _ h1]
  unfold divS; rw [if_neg h0, h2]; exact chk_in h1
theorem divS_like {a b : Int} (ha : InR a) (h0 : ¬ b = 0) (hp : pm a b = false) (h : us (a.tmod b) b = false) : divS a b = (wrap64 (a.tdiv b), 0) := by
  have h1 := tdiv_in a b ha h0 (of_decide_eq_false hp)
  rw [wrap_in _ h1]
  unfold divS; rw [if_neg h0, fdiv_of_tdiv a b h0, if_neg (of_decide_eq_false h)]; exact chk_in h1
theorem modS_zero (a : Int) : modS a 0 = (0, 9) := if_pos rfl
theorem fmod_of_tmod (a b : Int) (hb : b ≠ 0) : a.fmod b = if us (a.tmod b) b = true then a.tmod b + b else a.tmod b := by
  have h1 := Int.mul_fdiv_add_fmod a b
  have h2 := Int.mul_tdiv_add_tmod a b
  rw [fdiv_of_tdiv a b hb] at h1
  unfold us; simp only [decide_eq_true_eq]
  split at h1
  · rw [if_pos (by assumption)]; rw [Int.mul_sub] at h1; omega
  · rw [if_neg (by assumption)]; omega
theorem fmod_bd (a b : Int) (hb : b ≠ 0) : (0 < b → 0 ≤ a.fmod b ∧ a.fmod b < b) ∧ (b < 0 → b < a.fmod b ∧ a.fmod b ≤ 0) := by
  have h0 : (a.tmod b).natAbs < b.natAbs := by rw [Int.natAbs_tmod]; exact Nat.mod_lt _ (by omega)
  rw [fmod_of_tmod a b hb]; unfold us; simp only [decide_eq_true_eq]
  split <;> omega
theorem modS_us {a b : Int} (hb : InR b) (h0 : ¬ b = 0) (h : us (a.tmod b) b = true) : modS a b = (wrap64 (a.tmod b + b), 0) := by
  have h1 := fmod_of_tmod a b h0; rw [if_pos h] at h1
  have h2 := fmod_bd a b h0
  unfold modS; rw [if_neg h0, h1, wrap_in]
  rw [h1] at h2; unfold InR at *; omega
theorem modS_like {a b : Int} (h0 : ¬ b = 0) (h : us (a.tmod b) b = false) : modS a b = (a.tmod b, 0) := by
  have h1 := fmod_of_tmod a b h0; rw [h, if_neg (by decide)] at h1
  unfold modS; rw [if_neg h0, h1]
end Go.Proofs.YtgdlkaoadlipmaaDoor

/- The contracts of package num's sums, products and quotients: each returns the checked number; the world is as it was. -/
namespace Go.Proofs.YtgdlkaoadlipmaaDoor
open Go.RowKit

theorem ret_bool {x y : Bool} (h : x = y) : Ending.returned (.bool x) = .returned (.bool y) := by rw [h]
theorem ret_two {x y : Int × Int} (h : x = y) : Ending.returned (.tuple #[.int .i64 x.1, .int .i64 x.2]) = .returned (.tuple #[.int .i64 y.1, .int .i64 y.2]) := by rw [h]
abbrev two (x : Int × Int) : Value := .tuple #[.int .i64 x.1, .int .i64 x.2]


set_option maxHeartbeats 400000 in
theorem num_Sub (a b : Int) (w : World) (ha : InR a) (hb : InR b) : Calls Tryd.prog 67 #[.int .i64 a, .int .i64 b] w fun e w' => e = .returned (.tuple #[.int .i64 (subS a b).1, .int .i64 (subS a b).2]) ∧ w = w' := by
  have ht := sub_test a b ha hb
  have H := Lib.hid ht; clear ht
  go_enter Tryd.func67, Tryd.ntmps67
  go_wp2
  · go_ret2
    exact ⟨by rw [subS_out (H.out.1 (by assumption))]; rfl, rfl⟩
  · go_ret2
    exact ⟨by rw [subS_in (Classical.not_not.1 fun h => by have := H.out.2 h; omega)]; rfl, rfl⟩

theorem num_pastMost (a b : Int) (w : World) : Calls Tryd.prog 82 #[.int .i64 a, .int .i64 b] w fun e w' => e = .returned (.bool (pm a b)) ∧ w = w' := by
  by_cases h1 : a = -9223372036854775808
  · subst h1
    by_cases h2 : b = -1
    · subst h2
      go_enter Tryd.func82, Tryd.ntmps82
      go_wp2
      go_ret
      exact ⟨rfl, rfl⟩
    · have hp : pm (-9223372036854775808) b = false := by simp [pm, h2]
      have H := Lib.hid hp; clear hp
      have hb : (b == -1) = false := beq_eq_false_iff_ne.2 h2
      clear h2
      go_enter Tryd.func82, Tryd.ntmps82
      go_wp2
      go_ret
      exact ⟨by rw [H.out]; rfl, rfl⟩
  · have hp : pm a b = false := by simp [pm, h1]
    have H := Lib.hid hp; clear hp
    have ha : (a == -9223372036854775808) = false := beq_eq_false_iff_ne.2 h1
    clear h1
    go_enter Tryd.func82, Tryd.ntmps82
    go_wp2
    all_goals
      go_ret
      exact ⟨by rw [H.out]; rfl, rfl⟩


set_option maxHeartbeats 400000 in
theorem num_Mul (a b : Int) (w : World) (ha : InR a) (hb : InR b) : Calls Tryd.prog 76 #[.int .i64 a, .int .i64 b] w fun e w' => e = .returned (.tuple #[.int .i64 (mulS a b).1, .int .i64 (mulS a b).2]) ∧ w = w' := by
  by_cases h0 : b = 0
  · subst h0
    have H := Lib.hid (mulS_zero a)
    go_enter Tryd.func76, Tryd.ntmps76
    go_wp2
    go_ret2
    exact ⟨by rw [H.out]; rfl, rfl⟩
  · have hb0 : (b == 0) = false := beq_eq_false_iff_ne.2 h0
    go_enter Tryd.func76, Tryd.ntmps76
    go_wp2_with (go_at_call 82; refine (num_pastMost _ _ _).mono ?_; rintro e w' ⟨rfl, rfl⟩)
    · go_ret2
      exact ⟨by rw [mulS_pm (by assumption)]; rfl, rfl⟩
    · go_ret2
      exact ⟨by rw [mulS_bad ha hb h0 (Bool.eq_false_iff.2 ‹_›) (by assumption)]; rfl, rfl⟩
    · go_ret2
      exact ⟨by rw [mulS_good ha hb h0 (Bool.eq_false_iff.2 ‹_›) (by assumption)]; rfl, rfl⟩



def plS (i n : Int) : Int × Bool := if 0 ≤ i ∧ i < n then (i, true) else if i < 0 ∧ 0 < n ∧ -n ≤ i then (n + i, true) else (0, false)
def edS (i n : Int) : Int := if i < 0 then max (n + i) 0 else min i n
def cutS (lo hi n : Int) : Int × Int := (edS lo (max n 0), max (edS lo (max n 0)) (edS hi (max n 0)))
theorem ret_place {x y : Int × Bool} (h : x = y) : Ending.returned (.tuple #[.int .i64 x.1, .bool x.2]) = .returned (.tuple #[.int .i64 y.1, .bool y.2]) := by rw [h]
theorem ret_int {x y : Int} (h : x = y) : Ending.returned (.int .i64 x) = .returned (.int .i64 y) := by rw [h]


theorem edS_in (i n : Int) (h0 : 0 ≤ n) : 0 ≤ edS i n ∧ edS i n ≤ n := by unfold edS; split <;> omega

end Go.Proofs.YtgdlkaoadlipmaaDoor

/- The contracts of package num's texts: digits, and the number of digits. -/
namespace Go.Proofs.YtgdlkaoadlipmaaDoor
open Go.RowKit

def dgt (c : UInt8) : Bool := decide (48 ≤ c.toNat ∧ c.toNat ≤ 57)
/-- One digit or more, without noughts in front. -/
def plainS (l : List UInt8) : Bool := !l.isEmpty && !(l.head? == some 48 && decide (1 < l.length)) && l.all dgt
/-- The number of these digits. -/
def numS (l : List UInt8) : Int := l.foldl (fun n c => 10 * n + ((c.toNat : Int) - 48)) 0
theorem numS_snoc (l : List UInt8) (c : UInt8) : numS (l ++ [c]) = 10 * numS l + ((c.toNat : Int) - 48) := by simp [numS]
theorem numS_nil : numS [] = 0 := rfl
theorem dgt_iff (c : UInt8) : dgt c = true ↔ 48 ≤ (c.toNat : Int) ∧ (c.toNat : Int) ≤ 57 := by unfold dgt; simp; omega
theorem take_snoc (s : ByteArray) (k : Nat) (h : k < s.size) : s.data.toList.take (k + 1) = s.data.toList.take k ++ [s[k]] := by
  rw [List.take_succ_eq_append_getElem (by simpa using h)]; rfl
theorem numS_grow (l : List UInt8) (h : l.all dgt = true) : ∀ n : Int, 0 ≤ n → n ≤ l.foldl (fun n c => 10 * n + ((c.toNat : Int) - 48)) n := by
  induction l with
  | nil => intro n _; exact Int.le_refl _
  | cons c r ih =>
    intro n hn
    simp only [List.all_cons, Bool.and_eq_true] at h
    have hc := (dgt_iff c).1 h.1
    simp only [List.foldl_cons]
    have := ih h.2 (10 * n + ((c.toNat : Int) - 48)) (by omega)
    omega
theorem numS_nn (l : List UInt8) (h : l.all dgt = true) : 0 ≤ numS l := numS_grow l h 0 (Int.le_refl _)
theorem numS_app (l r : List UInt8) (hl : l.all dgt = true) (h : r.all dgt = true) : numS l ≤ numS (l ++ r) := by
  unfold numS; rw [List.foldl_append]; exact numS_grow r h _ (numS_nn l hl)

theorem len_toList (s : ByteArray) : s.data.toList.length = s.size := by simp
theorem toList_empty (s : ByteArray) : s.toList.isEmpty = decide (s.size = 0) := by
  rw [ByteArray.toList_eq, ← len_toList]; cases s.data.toList <;> simp
theorem not_nil {s : ByteArray} (h : 0 < s.size) : ¬ s.toList = [] := by
  intro e
  have h1 := toList_empty s
  rw [e, decide_eq_false (by omega)] at h1
  cases h1

theorem head_get (s : ByteArray) (h : 0 < s.size) : s.data.toList.head? = some s[0] := by
  rw [List.head?_eq_getElem?]
  have : 0 < s.data.toList.length := by simpa using h
  rw [List.getElem?_eq_getElem this]; rfl
theorem plainS_of (s : ByteArray) (h : 0 < s.size) : plainS s.data.toList = (!((s[0].toNat == 48) && decide (1 < s.size)) && s.data.toList.all dgt) := by
  unfold plainS
  rw [head_get s h]
  have h1 : s.data.toList.isEmpty = false := by
    rw [← len_toList] at h; cases hl : s.data.toList with
    | nil => rw [hl] at h; simp at h
    | cons _ _ => rfl
  have h2 : (some s[0] == some (48 : UInt8)) = (s[0].toNat == 48) := by
    rw [Bool.eq_iff_iff]; simp
    constructor
    · intro e; rw [e]; rfl
    · intro e; exact UInt8.toNat_inj.1 e
  rw [h1, h2, len_toList]; simp

set_option maxHeartbeats 1000000 in
theorem num_plain (s : ByteArray) (w : World) (hs : s.size ≤ maxLen) : Calls Tryd.prog 52 #[.string s] w fun e w' => e = .returned (.bool (plainS s.data.toList)) ∧ w = w' := by
  unfold maxLen at hs
  by_cases h0 : 0 < s.size
  · have hn := not_nil h0
    have he : s.toList.isEmpty = false := by rw [toList_empty]; exact decide_eq_false (by omega)
    by_cases h1 : s[0].toNat = 48 ∧ 1 < s.size
    · have H : Hid (plainS s.data.toList = false) := by
        show _ = _
        rw [plainS_of s h0, h1.1]; simp [h1.2]
      obtain ⟨h1, h2⟩ := h1
      have h1' : (s[0].toNat : Int) = 48 := by omega
      clear h1
      go_enter Tryd.func52, Tryd.ntmps52
      go_wp2
      go_ret
      exact ⟨by rw [H.out]; rfl, rfl⟩
    · have H : Hid (plainS s.data.toList = s.data.toList.all dgt) := by
        show _ = _
        rw [plainS_of s h0]
        by_cases h2 : s[0].toNat = 48
        · simp [show ¬ 1 < s.size from fun h => h1 ⟨h2, h⟩]
        · simp [h2]
      have HC : Hid ((s[0].toNat : Int) = 48 ∧ s.size ≤ 1 ∨ ¬ (s[0].toNat : Int) = 48) := by
        show _ ∨ _
        by_cases h2 : s[0].toNat = 48
        · exact .inl ⟨by omega, by omega⟩
        · exact .inr (by omega)
      clear h1
      rcases HC.out with ⟨h1, h2⟩ | h1
      all_goals
        clear HC
        go_enter Tryd.func52, Tryd.ntmps52
        go_wp2
        go_loop [18] (fun i => ∃ k : Nat, k ≤ s.size ∧ i = .int .i64 k ∧ (s.data.toList.take k).all dgt = true) (fun i => s.size - (intOf i).toNat)
        case atStart => exact ⟨0, Nat.zero_le _, rfl, rfl⟩
        case round =>
          obtain ⟨k, hk, rfl, hall⟩ := hrel
          have HA := Lib.hid hall
          clear hall
          by_cases hlt : k < s.size
          · have hts := take_snoc s k hlt
            by_cases hd : 48 ≤ (s[k].toNat : Int) ∧ (s[k].toNat : Int) ≤ 57
            · have HS : Hid ((s.data.toList.take (k + 1)).all dgt = true) := by
                show _ = _
                rw [hts, List.all_append, HA.out]; simp; exact (dgt_iff _).2 hd
              obtain ⟨hd1, hd2⟩ := hd
              clear hts
              go_wp2
              go_round
              case rel => exact ⟨k + 1, by omega, by go_num, HS.out⟩
              case measure => simp [intOf]; omega
            · have HS : Hid (s.data.toList.all dgt = false) := by
                show _ = _
                rw [Bool.eq_false_iff]
                intro h
                rw [List.all_eq_true] at h
                exact hd ((dgt_iff _).1 (h s[k] (by
                  have : s[k] = s.data.toList[k]'(by simpa using hlt) := rfl
                  rw [this]; exact List.getElem_mem _)))
              clear hts
              by_cases hd1 : 48 ≤ (s[k].toNat : Int)
              · have hd2 : 57 < (s[k].toNat : Int) := by omega
                clear hd
                go_wp2
                go_ret
                exact ⟨by rw [H.out, HS.out]; rfl, rfl⟩
              · have hd2 : (s[k].toNat : Int) < 48 := by omega
                clear hd hd1
                go_wp2
                go_ret
                exact ⟨by rw [H.out, HS.out]; rfl, rfl⟩
          · have HS : Hid (s.data.toList.all dgt = true) := by
              show _ = _
              have := HA.out
              rwa [List.take_of_length_le (by rw [len_toList]; omega)] at this
            go_wp2
            go_ret
            exact ⟨by rw [H.out, HS.out]; rfl, rfl⟩
  · have H : Hid (plainS s.data.toList = false) := by
      show _ = _
      have : s.data.toList = [] := List.eq_nil_of_length_eq_zero (by rw [len_toList]; omega)
      rw [this]; rfl
    have he : s.toList = [] := by
      have := toList_empty s
      rw [decide_eq_true (by omega)] at this
      simpa using this
    have he2 : s.toList.isEmpty = true := by rw [he]; rfl
    clear h0
    go_enter Tryd.func52, Tryd.ntmps52
    go_wp2
    go_ret
    exact ⟨by rw [H.out]; rfl, rfl⟩

/-- What 'below' and 'signed' tell. -/
def belowS (l : List UInt8) : Int × Int := chk (-numS l)
def signedS (l : List UInt8) (neg : Bool) : Int × Int := if neg then chk (-numS l) else chk (numS l)


set_option maxHeartbeats 1000000 in
theorem num_below (s : ByteArray) (w : World) (hs : s.size ≤ maxLen) (hd : s.data.toList.all dgt = true) : Calls Tryd.prog 66 #[.string s] w fun e w' => e = .returned (.tuple #[.int .i64 (belowS s.data.toList).1, .int .i64 (belowS s.data.toList).2]) ∧ w = w' := by
  unfold maxLen at hs
  have HD := Lib.hid hd
  clear hd
  go_enter Tryd.func66, Tryd.ntmps66
  go_wp2_with fail
  go_loop [4, 10] (fun n i => ∃ k : Nat, k ≤ s.size ∧ i = .int .i64 k ∧ n = .int .i64 (-numS (s.data.toList.take k)) ∧ InR (-numS (s.data.toList.take k))) (fun _ i => s.size - (intOf i).toNat)
  case atStart => exact ⟨0, Nat.zero_le _, rfl, rfl, by simp [numS, InR]⟩
  case round =>
    obtain ⟨k, hk, rfl, rfl, hin⟩ := hrel
    by_cases hlt : k < s.size
    · have hts := take_snoc s k hlt
      have HC : Hid (48 ≤ (s[k].toNat : Int) ∧ (s[k].toNat : Int) ≤ 57) := by
        show _ ∧ _
        have h := HD.out
        rw [List.all_eq_true] at h
        refine (dgt_iff _).1 (h s[k] ?_)
        have : s[k] = s.data.toList[k]'(by simpa using hlt) := rfl
        rw [this]; exact List.getElem_mem _
      have HS : Hid (numS (s.data.toList.take (k + 1)) = 10 * numS (s.data.toList.take k) + ((s[k].toNat : Int) - 48)) := by
        show _ = _
        rw [hts, numS_snoc]
      have HL : Hid (∀ j, numS (s.data.toList.take j) ≤ numS s.data.toList) := by
        intro j
        have h := HD.out
        conv => rhs; rw [← List.take_append_drop j s.data.toList]
        rw [← List.take_append_drop j s.data.toList, List.all_append, Bool.and_eq_true] at h
        exact numS_app _ _ h.1 h.2
      have HN : Hid (0 ≤ numS (s.data.toList.take k)) := by
        have h := HD.out
        rw [← List.take_append_drop k s.data.toList, List.all_append, Bool.and_eq_true] at h
        exact numS_nn _ h.1
      clear hts
      obtain ⟨n, hn⟩ : ∃ n, numS (s.data.toList.take k) = n := ⟨_, rfl⟩
      rw [hn] at HS HN hin ⊢
      have HE := Lib.hid hn
      clear hn
      have hc1 := HC.out.1
      have hc2 := HC.out.2
      have hu : IntKind.u8.wrap ((s[k].toNat : Int) - 48) = (s[k].toNat : Int) - 48 := by rw [IntKind.wrap_u8]; omega
      have HK1 := Lib.hid (HL.out (k + 1))
      clear HL HD
      by_cases hA : InR (-n * 10)
      · have hm : mulS (-n) 10 = (-n * 10, 0) := chk_in hA
        by_cases hB : InR (-n * 10 - ((s[k].toNat : Int) - 48))
        · have hm2 : subS (-n * 10) ((s[k].toNat : Int) - 48) = (-n * 10 - ((s[k].toNat : Int) - 48), 0) := chk_in hB
          go_wp2_with (first
            | (go_at_call 76; refine (num_Mul _ _ _ hin (by unfold InR; omega)).mono ?_; rintro e w' ⟨rfl, rfl⟩)
            | (go_at_call 67; refine (num_Sub _ _ _ hA (by unfold InR; omega)).mono ?_; rintro e w' ⟨rfl, rfl⟩))
          go_round
          case rel =>
            have e1 : -n * 10 - ((s[k].toNat : Int) - 48) = -numS (s.data.toList.take (k + 1)) := by rw [HS.out]; omega
            rw [e1] at hB
            exact ⟨k + 1, by omega, by go_num, by rw [e1], hB⟩
          case measure => simp [intOf]; omega
        · have hm2 : subS (-n * 10) ((s[k].toNat : Int) - 48) = (0, 4) := chk_out hB
          have HF : Hid (belowS s.data.toList = (0, 4)) := by
            refine chk_out fun h => hB ?_
            have := HK1.out; have := HS.out
            unfold InR at *; omega
          go_wp2_with (first
            | (go_at_call 76; refine (num_Mul _ _ _ hin (by unfold InR; omega)).mono ?_; rintro e w' ⟨rfl, rfl⟩)
            | (go_at_call 67; refine (num_Sub _ _ _ hA (by unfold InR; omega)).mono ?_; rintro e w' ⟨rfl, rfl⟩))
          go_ret2
          exact ⟨by rw [HF.out]; rfl, rfl⟩
      · have hm : mulS (-n) 10 = (0, 4) := chk_out hA
        have HF : Hid (belowS s.data.toList = (0, 4)) := by
          refine chk_out fun h => hA ?_
          have := HK1.out; have := HS.out; have := HN.out
          unfold InR at *; omega
        go_wp2_with (first
          | (go_at_call 76; refine (num_Mul _ _ _ hin (by unfold InR; omega)).mono ?_; rintro e w' ⟨rfl, rfl⟩))
        go_ret2
        exact ⟨by rw [HF.out]; rfl, rfl⟩
    · go_wp2_with fail
      go_ret2
      have : s.data.toList.take k = s.data.toList := List.take_of_length_le (by rw [len_toList]; omega)
      rw [this] at hin ⊢
      exact ⟨by unfold belowS; rw [chk_in hin]; rfl, rfl⟩

theorem signedS_t (l : List UInt8) : signedS l true = belowS l := rfl
theorem signedS_out (l : List UInt8) (h : l.all dgt = true) (h1 : ¬ InR (-numS l)) (n : Bool) : signedS l n = (0, 4) := by
  have := numS_nn l h
  cases n
  · exact chk_out fun h2 => h1 (by unfold InR at *; omega)
  · exact chk_out h1

set_option maxHeartbeats 1000000 in
theorem num_signed (s : ByteArray) (neg : Bool) (w : World) (hs : s.size ≤ maxLen) (hd : s.data.toList.all dgt = true) : Calls Tryd.prog 53 #[.string s, .bool neg] w fun e w' => e = .returned (.tuple #[.int .i64 (signedS s.data.toList neg).1, .int .i64 (signedS s.data.toList neg).2]) ∧ w = w' := by
  by_cases h : InR (-numS s.data.toList)
  · have hb : belowS s.data.toList = (-numS s.data.toList, 0) := chk_in h
    have H0 : Hid (InR 0) := by show InR 0; unfold InR; omega
    cases neg
    · have H : Hid (signedS s.data.toList false = subS 0 (-numS s.data.toList)) := by
        show chk _ = chk _
        rw [Int.zero_sub, Int.neg_neg]
      go_enter Tryd.func53, Tryd.ntmps53
      go_wp2_with (first
        | (go_at_call 66; refine (num_below _ _ hs hd).mono ?_; rintro e w' ⟨rfl, rfl⟩)
        | (go_at_call 67; refine (num_Sub _ _ _ H0.out h).mono ?_; rintro e w' ⟨rfl, rfl⟩))
      go_ret2
      exact ⟨by rw [H.out]; rfl, rfl⟩
    · have H := Lib.hid (signedS_t s.data.toList)
      have HB := Lib.hid hb
      go_enter Tryd.func53, Tryd.ntmps53
      go_wp2_with (first
        | (go_at_call 66; refine (num_below _ _ hs hd).mono ?_; rintro e w' ⟨rfl, rfl⟩))
      go_ret2
      exact ⟨by rw [H.out, HB.out]; rfl, rfl⟩
  · have hb : belowS s.data.toList = (0, 4) := chk_out h
    have H := Lib.hid (signedS_out s.data.toList hd h neg)
    go_enter Tryd.func53, Tryd.ntmps53
    go_wp2_with (first
      | (go_at_call 66; refine (num_below _ _ hs hd).mono ?_; rintro e w' ⟨rfl, rfl⟩))
    all_goals
      go_ret2
      exact ⟨by rw [H.out]; rfl, rfl⟩

/-- The number of any text, or what is wrong with it. -/
def parseS (l : List UInt8) : Int × Int :=
  match l with
  | [] => (0, 2)
  | c :: r => if c.toNat = 45 then (if r = [48] then (0, 2) else if plainS r = true then signedS r true else (0, 2)) else if plainS (c :: r) = true then signedS (c :: r) false else (0, 2)
theorem plainS_all {l : List UInt8} (h : plainS l = true) : l.all dgt = true := by
  unfold plainS at h; simp only [Bool.and_eq_true] at h; exact h.2
theorem cons_tail (s : ByteArray) (h : 0 < s.size) : s.data.toList = s[0] :: (s.extract 1 s.size).data.toList := by
  have h1 : (s.extract 1 s.size).data.toList = s.data.toList.drop 1 := by
    rw [ByteArray.data_extract, Array.toList_extract]
    simp
    exact List.take_of_length_le (by simp)
  rw [h1]
  have h2 : 0 < s.data.toList.length := by rw [len_toList]; exact h
  have h3 : s[0] = s.data.toList[0] := rfl
  rw [h3]
  have h4 := List.drop_eq_getElem_cons h2
  rw [List.drop_zero] at h4
  exact h4

set_option maxHeartbeats 2000000 in
theorem num_Parse (s : ByteArray) (w : World) (hs : s.size ≤ maxLen) : Calls Tryd.prog 41 #[.string s] w fun e w' => e = .returned (.tuple #[.int .i64 (parseS s.data.toList).1, .int .i64 (parseS s.data.toList).2]) ∧ w = w' := by
  have hs2 := hs
  unfold maxLen at hs2
  by_cases h0 : 0 < s.size
  · have hn := not_nil h0
    have he : s.toList.isEmpty = false := by rw [toList_empty]; exact decide_eq_false (by omega)
    have hct := cons_tail s h0
    have hz : (s.extract 1 s.size).size ≤ s.size := by simp [ByteArray.size_extract]
    obtain ⟨t, ht⟩ : ∃ t, s.extract 1 s.size = t := ⟨_, rfl⟩
    rw [ht] at hct hz
    have hl : parseS s.data.toList = if s[0].toNat = 45 then (if t.data.toList = [48] then (0, 2) else if plainS t.data.toList = true then signedS t.data.toList true else (0, 2)) else if plainS s.data.toList = true then signedS s.data.toList false else (0, 2) := by
      rw [hct]; rfl
    clear hct
    have HL := Lib.hid hl
    clear hl
    by_cases hc : s[0].toNat = 45
    · have hc1 : (s[0].toNat : Int) = 45 := by omega
      have HL2 : Hid (parseS s.data.toList = if t.data.toList = [48] then (0, 2) else if plainS t.data.toList = true then signedS t.data.toList true else (0, 2)) := HL.out.trans (if_pos hc)
      clear HL hc
      have HTL := Lib.hid (ByteArray.toList_eq t)
      by_cases h48 : t.data.toList = [48]
      · have ht1 : (t.toList == [48]) = true := by rw [HTL.out, h48]; rfl
        have HL3 : Hid (parseS s.data.toList = (0, 2)) := HL2.out.trans (if_pos h48)
        clear HL2 h48
        go_enter Tryd.func41, Tryd.ntmps41
        go_wp2_with fail
        go_ret2
        exact ⟨by rw [HL3.out]; rfl, rfl⟩
      · have ht1 : (t.toList == [48]) = false := by rw [HTL.out]; exact beq_eq_false_iff_ne.2 h48
        have HL3 : Hid (parseS s.data.toList = if plainS t.data.toList = true then signedS t.data.toList true else (0, 2)) := HL2.out.trans (if_neg h48)
        clear HL2 h48
        have hts : t.size ≤ maxLen := by unfold maxLen; omega
        have HTS := Lib.hid hts
        clear hts
        by_cases hp : plainS t.data.toList = true
        · have HL4 : Hid (parseS s.data.toList = signedS t.data.toList true) := HL3.out.trans (if_pos hp)
          have HA := Lib.hid (plainS_all hp)
          clear HL3
          go_enter Tryd.func41, Tryd.ntmps41
          go_wp2_with (first
            | (go_at_call 52; refine (num_plain _ _ HTS.out).mono ?_; rintro e w' ⟨rfl, rfl⟩)
            | (go_at_call 53; refine (num_signed _ _ _ HTS.out HA.out).mono ?_; rintro e w' ⟨rfl, rfl⟩))
          go_ret2
          exact ⟨by rw [HL4.out]; rfl, rfl⟩
        · have hp1 : plainS t.data.toList = false := by simpa using hp
          have HL4 : Hid (parseS s.data.toList = (0, 2)) := HL3.out.trans (if_neg hp)
          clear HL3 hp
          go_enter Tryd.func41, Tryd.ntmps41
          go_wp2_with (first
            | (go_at_call 52; refine (num_plain _ _ HTS.out).mono ?_; rintro e w' ⟨rfl, rfl⟩))
          go_ret2
          exact ⟨by rw [HL4.out]; rfl, rfl⟩
    · have hc1 : ((s[0].toNat : Int) == 45) = false := beq_eq_false_iff_ne.2 (by omega)
      have HL3 : Hid (parseS s.data.toList = if plainS s.data.toList = true then signedS s.data.toList false else (0, 2)) := HL.out.trans (if_neg hc)
      have hc2 : ¬ (s[0].toNat : Int) = 45 := by omega
      clear HL hc hz ht
      have HTS := Lib.hid hs
      clear hs
      by_cases hp : plainS s.data.toList = true
      · have HL4 : Hid (parseS s.data.toList = signedS s.data.toList false) := HL3.out.trans (if_pos hp)
        have HA := Lib.hid (plainS_all hp)
        have HD : Hid (∀ P : Prop, (48 ≤ (s[0].toNat : Int) → (s[0].toNat : Int) ≤ 57 → P) → P) := by
          intro P h
          have h1 := HA.out
          rw [List.all_eq_true] at h1
          have h2 := (dgt_iff s[0]).1 (h1 s[0] (by
            have : s[0] = s.data.toList[0]'(by rw [len_toList]; exact h0) := rfl
            rw [this]; exact List.getElem_mem _))
          exact h h2.1 h2.2
        clear HL3
        go_enter Tryd.func41, Tryd.ntmps41
        go_wp2_with (first
          | (go_at_call 52; refine (num_plain _ _ HTS.out).mono ?_; rintro e w' ⟨rfl, rfl⟩)
          | (go_at_call 53; refine (num_signed _ _ _ HTS.out HA.out).mono ?_; rintro e w' ⟨rfl, rfl⟩))
        all_goals go_ret2
        all_goals
          first
            | exact ⟨by rw [HL4.out]; rfl, rfl⟩
            | (exfalso; refine HD.out _ fun _ _ => ?_; simp_all; omega)
      · have hp1 : plainS s.data.toList = false := by simpa using hp
        have HL4 : Hid (parseS s.data.toList = (0, 2)) := HL3.out.trans (if_neg hp)
        clear HL3 hp
        go_enter Tryd.func41, Tryd.ntmps41
        go_wp2_with (first
          | (go_at_call 52; refine (num_plain _ _ HTS.out).mono ?_; rintro e w' ⟨rfl, rfl⟩))
        all_goals
          go_ret2
          exact ⟨by rw [HL4.out]; rfl, rfl⟩
  · have he : s.toList = [] := by
      have := toList_empty s
      rw [decide_eq_true (by omega)] at this
      simpa using this
    have he2 : s.toList.isEmpty = true := by rw [he]; rfl
    have H : Hid (parseS s.data.toList = (0, 2)) := by
      show _ = _
      rw [← ByteArray.toList_eq, he]; rfl
    clear h0
    go_enter Tryd.func41, Tryd.ntmps41
    go_wp2_with fail
    go_ret2
    exact ⟨by rw [H.out]; rfl, rfl⟩
end Go.Proofs.YtgdlkaoadlipmaaDoor

/- Decimal numerals: digits are parsed as their number, and what is parsed is written so. -/
namespace Go.Proofs.YtgdlkaoadlipmaaDoor
open Go.RowKit

def dch (d : Nat) : UInt8 := UInt8.ofNat (48 + d)
theorem dch_toNat (d : Nat) (h : d < 10) : (dch d).toNat = 48 + d := by
  unfold dch; rw [UInt8.toNat_ofNat_of_lt' (by simp only [UInt8.size]; omega)]
theorem dch_dgt (d : Nat) (h : d < 10) : dgt (dch d) = true := by
  rw [dgt_iff, dch_toNat d h]; omega
theorem dch_of (c : UInt8) (h : dgt c = true) : dch (c.toNat - 48) = c := by
  have h1 := (dgt_iff c).1 h
  refine UInt8.toNat_inj.1 ?_
  rw [dch_toNat _ (by omega)]; omega
theorem dec_small (u : Nat) (h : u < 10) : Lib.decDigits u = [dch u] := by rw [Lib.decDigits, dif_pos h]; rfl
theorem dec_big (u : Nat) (h : ¬ u < 10) : Lib.decDigits u = Lib.decDigits (u / 10) ++ [dch (u % 10)] := by rw [Lib.decDigits, dif_neg h]; rfl

theorem numS_dec (u : Nat) : numS (Lib.decDigits u) = (u : Int) := by
  induction u using Nat.strongRecOn with
  | _ u ih =>
    by_cases h : u < 10
    · rw [dec_small u h]
      simp only [numS, List.foldl_cons, List.foldl_nil, dch_toNat u h]; omega
    · rw [dec_big u h, numS_snoc, ih (u / 10) (by omega), dch_toNat _ (by omega)]; omega
theorem all_dec (u : Nat) : (Lib.decDigits u).all dgt = true := by
  induction u using Nat.strongRecOn with
  | _ u ih =>
    by_cases h : u < 10
    · rw [dec_small u h]; simp [dch_dgt u h]
    · rw [dec_big u h, List.all_append, ih (u / 10) (by omega)]; simp [dch_dgt (u % 10) (by omega)]
theorem dec_ne (u : Nat) : Lib.decDigits u ≠ [] := by
  by_cases h : u < 10
  · rw [dec_small u h]; simp
  · rw [dec_big u h]; simp
/-- The first digit of what is not nought is not nought. -/
theorem dec_head (u : Nat) (h0 : 0 < u) : ∃ c r, Lib.decDigits u = c :: r ∧ c ≠ 48 := by
  induction u using Nat.strongRecOn with
  | _ u ih =>
    by_cases h : u < 10
    · refine ⟨dch u, [], dec_small u h, fun e => ?_⟩
      have := congrArg UInt8.toNat e
      rw [dch_toNat u h] at this
      have h48 : (48 : UInt8).toNat = 48 := rfl
      omega
    · obtain ⟨c, r, e, hc⟩ := ih (u / 10) (by omega) (by omega)
      exact ⟨c, r ++ [dch (u % 10)], by rw [dec_big u h, e]; rfl, hc⟩
theorem plain_dec (u : Nat) : plainS (Lib.decDigits u) = true := by
  unfold plainS
  rw [all_dec]
  by_cases h0 : 0 < u
  · obtain ⟨c, r, e, hc⟩ := dec_head u h0
    rw [e]
    simp [hc]
  · obtain rfl : u = 0 := by omega
    rw [dec_small 0 (by omega)]; rfl
theorem plainS_snoc (l : List UInt8) (c : UInt8) (hl : l ≠ []) (h : plainS (l ++ [c]) = true) : plainS l = true ∧ dgt c = true ∧ 1 ≤ numS l := by
  obtain ⟨a, r, rfl⟩ := List.exists_cons_of_ne_nil hl
  unfold plainS at h ⊢
  simp only [List.cons_append, List.isEmpty_cons, Bool.not_false, Bool.true_and, List.head?_cons, List.length_cons, List.length_append, List.length_nil, List.all_cons, List.all_append, Bool.and_eq_true] at h
  obtain ⟨h1, h2, h3, h4⟩ := h
  have hne : a ≠ 48 := by
    rintro rfl
    simp at h1
  have hd := (dgt_iff a).1 h2
  have ha : 49 ≤ (a.toNat : Int) := by
    have : a.toNat ≠ 48 := fun e => hne (UInt8.toNat_inj.1 e)
    omega
  refine ⟨?_, ?_, ?_⟩
  · simp [hne, h2, h3]
  · simpa using h4
  · have := numS_grow r h3 (10 * 0 + ((a.toNat : Int) - 48)) (by omega)
    show 1 ≤ List.foldl _ _ _
    simp only [List.foldl_cons]
    omega
theorem snoc_cases {α : Type} (l : List α) (h : l ≠ []) : ∃ r c, l = r ++ [c] := ⟨l.dropLast, l.getLast h, (List.dropLast_concat_getLast h).symm⟩
theorem dec_numS : ∀ (k : Nat) (l : List UInt8), l.length ≤ k → plainS l = true → Lib.decDigits (numS l).toNat = l
  | 0, l, hk, h => by
    have : l = [] := List.eq_nil_of_length_eq_zero (by omega)
    subst this; simp [plainS] at h
  | k + 1, l, hk, h => by
    have hne : l ≠ [] := by rintro rfl; simp [plainS] at h
    obtain ⟨r, c, rfl⟩ := snoc_cases l hne
    by_cases hr : r = []
    · subst hr
      have hc : dgt c = true := by have := plainS_all h; simpa using this
      have hd := (dgt_iff c).1 hc
      have hn : numS ([] ++ [c]) = (c.toNat : Int) - 48 := by simp [numS]
      rw [hn, dec_small _ (by omega)]
      have : ((c.toNat : Int) - 48).toNat = c.toNat - 48 := by omega
      rw [this, dch_of c hc]; rfl
    · obtain ⟨h1, h2, h3⟩ := plainS_snoc r c hr h
      have hd := (dgt_iff c).1 h2
      rw [numS_snoc, dec_big _ (by omega)]
      have e1 : (10 * numS r + ((c.toNat : Int) - 48)).toNat / 10 = (numS r).toNat := by omega
      have e2 : (10 * numS r + ((c.toNat : Int) - 48)).toNat % 10 = c.toNat - 48 := by omega
      rw [e1, e2, dch_of c h2, dec_numS k r (by simp at hk; omega) h1]
theorem dec_numS' (l : List UInt8) (h : plainS l = true) : Lib.decDigits (numS l).toNat = l := dec_numS _ l (Nat.le_refl _) h

theorem parseS_cons (c : UInt8) (r : List UInt8) : parseS (c :: r) = if c.toNat = 45 then (if r = [48] then (0, 2) else if plainS r = true then signedS r true else (0, 2)) else if plainS (c :: r) = true then signedS (c :: r) false else (0, 2) := rfl
theorem parse_itoa (n : Int) (hn : InR n) : parseS (Lib.itoa n) = (n, 0) := by
  unfold Lib.itoa
  by_cases h : n < 0
  · rw [if_pos h]
    have hz : Lib.decDigits n.natAbs ≠ [48] := by
      intro e
      have h1 := numS_dec n.natAbs
      rw [e] at h1
      have h2 : numS [48] = 0 := by decide
      omega
    rw [parseS_cons, if_pos (show UInt8.toNat 45 = 45 from rfl), if_neg hz, if_pos (plain_dec _)]
    show chk (-numS (Lib.decDigits n.natAbs)) = _
    rw [numS_dec, show -(n.natAbs : Int) = n by omega]
    exact chk_in hn
  · rw [if_neg h]
    have hp := plain_dec n.toNat
    have ha := all_dec n.toNat
    have hnum := numS_dec n.toNat
    cases hl : Lib.decDigits n.toNat with
    | nil => exact absurd hl (dec_ne _)
    | cons c r =>
      rw [hl] at hp ha hnum
      simp only [List.all_cons, Bool.and_eq_true] at ha
      have hc := (dgt_iff c).1 ha.1
      rw [parseS_cons, if_neg (by omega), if_pos hp]
      show chk (numS (c :: r)) = _
      rw [hnum, show ((n.toNat : Nat) : Int) = n by omega]
      exact chk_in hn
theorem chk_ok {n : Int} (h : (chk n).2 = 0) : (chk n).1 = n := by
  unfold chk at *
  split at h
  · rw [if_pos (by assumption)]
  · simp at h
theorem itoa_parse (l : List UInt8) (h : (parseS l).2 = 0) : Lib.itoa (parseS l).1 = l := by
  cases l with
  | nil => simp [parseS] at h
  | cons c r =>
    unfold parseS at h ⊢
    simp only at h ⊢
    by_cases hc : c.toNat = 45
    · rw [if_pos hc] at h ⊢
      by_cases h48 : r = [48]
      · rw [if_pos h48] at h; simp at h
      · rw [if_neg h48] at h ⊢
        by_cases hp : plainS r = true
        · rw [if_pos hp] at h ⊢
          have h1 : (signedS r true).1 = -numS r := chk_ok h
          rw [h1]
          have h2 := numS_nn r (plainS_all hp)
          have h3 := dec_numS' r hp
          have hnz : numS r ≠ 0 := by
            intro e
            rw [e] at h3
            rw [show (0 : Int).toNat = 0 from rfl, dec_small 0 (by omega)] at h3
            exact h48 h3.symm
          unfold Lib.itoa
          rw [if_pos (by omega), show (-numS r).natAbs = (numS r).toNat by omega, h3]
          congr 1
          exact (UInt8.toNat_inj.1 hc).symm
        · rw [if_neg hp] at h; simp at h
    · rw [if_neg hc] at h ⊢
      by_cases hp : plainS (c :: r) = true
      · rw [if_pos hp] at h ⊢
        have h1 : (signedS (c :: r) false).1 = numS (c :: r) := chk_ok h
        rw [h1]
        have h2 := numS_nn _ (plainS_all hp)
        unfold Lib.itoa
        rw [if_neg (by omega), dec_numS' _ hp]
      · rw [if_neg hp] at h; simp at h
end Go.Proofs.YtgdlkaoadlipmaaDoor

/- The contracts of package num's bytes: the eight bytes of a number, and the number of eight bytes. -/
namespace Go.Proofs.YtgdlkaoadlipmaaDoor
open Go.RowKit
theorem Below.chain {w w1 w2 : World} (h1 : Below w.heap.size w w1) (h2 : Below w1.heap.size w1 w2) : Below w.heap.size w w2 := h1.trans (h2.mono h1.size)
theorem Below.drawn (w : World) : Below w.heap.size w w.drew := ⟨rfl, rfl, rfl, Nat.le_refl _, fun _ _ => rfl⟩
theorem Below.laid (w : World) (o : Obj) : Below w.heap.size w (w.alloc o) := (Below.refl _ _).alloc (Nat.le_refl _) o
def bt8 (v : Int) : UInt8 := UInt8.ofNat (v % 256).toNat
theorem bt8_toNat (v : Int) : ((bt8 v).toNat : Int) = v % 256 := by
  unfold bt8
  have h0 := Int.emod_nonneg v (show (256 : Int) ≠ 0 by decide)
  have h1 := Int.emod_lt_of_pos v (show (0 : Int) < 256 by decide)
  rw [UInt8.toNat_ofNat_of_lt' (by simp only [UInt8.size]; omega)]
  omega
theorem mk8 (w : World) : (Instr.makeSlice 45 (.int .i64 8) (.int .i64 8)).run Tryd.prog w = .ok (.slice (some ⟨w.heap.size, 0, none⟩) 8 8) (w.alloc (.cells #[.int .u8 0, .int .u8 0, .int .u8 0, .int .u8 0, .int .u8 0, .int .u8 0, .int .u8 0, .int .u8 0] 5)) := by kernel_rfl
theorem cv8 (w : World) (v0 v1 v2 v3 v4 v5 v6 v7 : Int) : (convert 45 9 (.slice (some ⟨w.heap.size, 0, none⟩) 8 8)).run Tryd.prog (w.alloc (.cells #[.int .u8 (v0 % 256), .int .u8 (v1 % 256), .int .u8 (v2 % 256), .int .u8 (v3 % 256), .int .u8 (v4 % 256), .int .u8 (v5 % 256), .int .u8 (v6 % 256), .int .u8 (v7 % 256)] 5)) =
    .ok (.string ⟨#[bt8 v0, bt8 v1, bt8 v2, bt8 v3, bt8 v4, bt8 v5, bt8 v6, bt8 v7]⟩) (w.alloc (.cells #[.int .u8 (v0 % 256), .int .u8 (v1 % 256), .int .u8 (v2 % 256), .int .u8 (v3 % 256), .int .u8 (v4 % 256), .int .u8 (v5 % 256), .int .u8 (v6 % 256), .int .u8 (v7 % 256)] 5)) := by
  refine run_convert_bytes_back (P := Tryd.prog) (w.alloc _) 45 9 5 ⟨w.heap.size, 0, none⟩ 8 [bt8 v0, bt8 v1, bt8 v2, bt8 v3, bt8 v4, bt8 v5, bt8 v6, bt8 v7] Tryd.underlying45 Tryd.underlying5 Tryd.underlying9 ?_
  intro j hj
  have hj' : j < 8 := hj
  match j, hj' with
  | 0, _ => simp [bt8_toNat, Addr.add]
  | 1, _ => simp [bt8_toNat, Addr.add]
  | 2, _ => simp [bt8_toNat, Addr.add]
  | 3, _ => simp [bt8_toNat, Addr.add]
  | 4, _ => simp [bt8_toNat, Addr.add]
  | 5, _ => simp [bt8_toNat, Addr.add]
  | 6, _ => simp [bt8_toNat, Addr.add]
  | 7, _ => simp [bt8_toNat, Addr.add]
def bytesS (n : Int) : List UInt8 := [bt8 ((n + 9223372036854775808) / 72057594037927936), bt8 ((n + 9223372036854775808) / 281474976710656), bt8 ((n + 9223372036854775808) / 1099511627776), bt8 ((n + 9223372036854775808) / 4294967296), bt8 ((n + 9223372036854775808) / 16777216), bt8 ((n + 9223372036854775808) / 65536), bt8 ((n + 9223372036854775808) / 256), bt8 (n + 9223372036854775808)]
theorem word_ofB (n : Int) (h : InR n) : IntKind.u64.wrap (IntKind.u64.wrap n + 9223372036854775808) = n + 9223372036854775808 := by
  rw [IntKind.wrap_u64, IntKind.wrap_u64]; unfold InR at h; omega

def orS (x : Int) (c : UInt8) : Int := bits .or .u64 (IntKind.u64.wrap (x * 256)) (IntKind.u64.wrap (c.toNat : Int))
def or0 (c : UInt8) : Int := bits .or .u64 0 (IntKind.u64.wrap (c.toNat : Int))
theorem u64_in (x : Int) (h0 : 0 ≤ x) (h1 : x < 18446744073709551616) : IntKind.u64.wrap x = x := by rw [IntKind.wrap_u64]; omega
theorem or_low (x : Int) (c : UInt8) (h0 : 0 ≤ x) (h1 : x < 72057594037927936) : bits .or .u64 (x * 256) (c.toNat : Int) = x * 256 + c.toNat := by
  have hc : c.toNat < 256 := c.toNat_lt
  refine bits_join .u64 64 (by decide) (fun n a b => u64_in n a (by simpa using b)) 8 _ _ (by omega) ?_ ?_ (by omega) ?_ ?_
  all_goals simp only [Int.reducePow]; omega
theorem orS_eq (x : Int) (c : UInt8) (h0 : 0 ≤ x) (h1 : x < 72057594037927936) : orS x c = x * 256 + c.toNat := by
  have hc : c.toNat < 256 := c.toNat_lt
  unfold orS
  rw [u64_in (x * 256) (by omega) (by omega), u64_in (c.toNat : Int) (by omega) (by omega), or_low x c h0 h1]
theorem or0_eq (c : UInt8) : or0 c = c.toNat := by
  have hc : c.toNat < 256 := c.toNat_lt
  unfold or0
  rw [u64_in (c.toNat : Int) (by omega) (by omega)]
  have := or_low 0 c (by omega) (by omega)
  simpa using this
/-- The number of these bytes, the highest one first. -/
def valS (l : List UInt8) : Int := l.foldl (fun n c => n * 256 + (c.toNat : Int)) 0
def unbytesS (l : List UInt8) : Int × Int := if l.length = 8 then (valS l - 9223372036854775808, 0) else (0, 2)
theorem or8 (c0 c1 c2 c3 c4 c5 c6 c7 : UInt8) :
    wrap64 (IntKind.u64.wrap (orS (orS (orS (orS (orS (orS (orS (or0 c0) c1) c2) c3) c4) c5) c6) c7 - 9223372036854775808)) = valS [c0, c1, c2, c3, c4, c5, c6, c7] - 9223372036854775808 := by
  have h0 : c0.toNat < 256 := c0.toNat_lt
  have h1 : c1.toNat < 256 := c1.toNat_lt
  have h2 : c2.toNat < 256 := c2.toNat_lt
  have h3 : c3.toNat < 256 := c3.toNat_lt
  have h4 : c4.toNat < 256 := c4.toNat_lt
  have h5 : c5.toNat < 256 := c5.toNat_lt
  have h6 : c6.toNat < 256 := c6.toNat_lt
  have h7 : c7.toNat < 256 := c7.toNat_lt
  rw [or0_eq, orS_eq _ c1 (by omega) (by omega), orS_eq _ c2 (by omega) (by omega), orS_eq _ c3 (by omega) (by omega), orS_eq _ c4 (by omega) (by omega),
    orS_eq _ c5 (by omega) (by omega), orS_eq _ c6 (by omega) (by omega), orS_eq _ c7 (by omega) (by omega)]
  simp only [valS, List.foldl_cons, List.foldl_nil]
  rw [IntKind.wrap_u64]
  unfold wrap64
  omega
theorem eight {α : Type} (l : List α) (h : l.length = 8) : ∃ a b c d e f g i, l = [a, b, c, d, e, f, g, i] := by
  match l, h with
  | [a, b, c, d, e, f, g, i], _ => exact ⟨a, b, c, d, e, f, g, i, rfl⟩
end Go.Proofs.YtgdlkaoadlipmaaDoor
