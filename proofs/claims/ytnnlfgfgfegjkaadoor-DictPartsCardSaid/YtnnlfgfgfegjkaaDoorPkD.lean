/- Texts put together: NumPure NumDigits Bld BldB QtO. -/
import Derived.Laws.BitsLemmas
import Derived.WalkKit
import Derived.Test.YtnnlfgfgfegjkaaDoorPkA
import Derived.Test.YtnnlfgfgfegjkaaDoorShelf
import Derived.Test.YtnnlfgfgfegjkaaDoorRows
import Derived.Lib.AppendIntMem
import Derived.Lib.ItoaLen
import Derived.Lib.FrozenHead2
import Derived.Lib.OthersKept
import Derived.Test.YtnnlfgfgfegjkaaDoorPkC
import Derived.Lib.Hide

/- Plain facts on whole numbers of 64 bits: checked sums, products, quotients; no program is imported. -/
namespace Go.Proofs.YtnnlfgfgfegjkaaDoor
open Go.RowKit

def InR (n : Int) : Prop := -9223372036854775808 ≤ n ∧ n ≤ 9223372036854775807
instance (n : Int) : Decidable (InR n) := inferInstanceAs (Decidable (_ ∧ _))
def chk (n : Int) : Int × Int := if InR n then (n, 0) else (0, 4)
def addS (a b : Int) : Int × Int := chk (a + b)
def subS (a b : Int) : Int × Int := chk (a - b)
def mulS (a b : Int) : Int × Int := chk (a * b)
def divS (a b : Int) : Int × Int := if b = 0 then (0, 9) else chk (a.fdiv b)
def modS (a b : Int) : Int × Int := if b = 0 then (0, 9) else (a.fmod b, 0)

theorem wrap_in (n : Int) (h : InR n) : wrap64 n = n := by unfold wrap64; unfold InR at h; omega
theorem in_wrap (n : Int) : InR (wrap64 n) := by unfold wrap64 InR; omega
theorem in_wrapk (n : Int) : InR (IntKind.i64.wrap n) := by rw [IntKind.wrap_i64]; unfold InR; omega
theorem chk_in {n : Int} (h : InR n) : chk n = (n, 0) := if_pos h
theorem chk_out {n : Int} (h : ¬ InR n) : chk n = (0, 4) := if_neg h

theorem i64_wrap_toInt (v : BitVec 64) : IntKind.i64.wrap (v.toNat : Int) = v.toInt := by
  rw [IntKind.wrap_i64, BitVec.toInt_eq_toNat_cond]
  have := v.isLt
  split <;> omega

theorem ofInt_msb (x : Int) (h : InR x) : (BitVec.ofInt 64 x).msb = decide (x < 0) := by
  have e : (BitVec.ofInt 64 x).toInt = x := by
    rw [BitVec.toInt_ofInt]
    unfold InR at h
    rw [Int.bmod_def]; simp only [Nat.reducePow]; omega
  rw [BitVec.msb_eq_toInt, e]

theorem lt0_msb (v : BitVec 64) : (IntKind.i64.wrap (v.toNat : Int) < 0) ↔ v.msb = true := by
  rw [i64_wrap_toInt, BitVec.msb_eq_toInt]; simp

theorem bits_in (op : BinOp) (x y : Int) : InR (bits op .i64 x y) := by
  unfold bits
  simp only
  exact in_wrapk _

theorem xor_lt0 (x y : Int) (hx : InR x) (hy : InR y) : bits .xor .i64 x y < 0 ↔ (x < 0 ∧ 0 ≤ y ∨ 0 ≤ x ∧ y < 0) := by
  show IntKind.i64.wrap (((BitVec.ofInt 64 x ^^^ BitVec.ofInt 64 y).toNat : Nat) : Int) < 0 ↔ _
  rw [lt0_msb, BitVec.msb_xor, ofInt_msb x hx, ofInt_msb y hy]
  by_cases h1 : x < 0 <;> by_cases h2 : y < 0 <;> simp [h1, h2] <;> omega
theorem and_lt0 (x y : Int) (hx : InR x) (hy : InR y) : bits .and .i64 x y < 0 ↔ (x < 0 ∧ y < 0) := by
  show IntKind.i64.wrap (((BitVec.ofInt 64 x &&& BitVec.ofInt 64 y).toNat : Nat) : Int) < 0 ↔ _
  rw [lt0_msb, BitVec.msb_and, ofInt_msb x hx, ofInt_msb y hy]
  simp

/-- The test of num.Add. -/
theorem add_test (a b : Int) (ha : InR a) (hb : InR b) : bits .and .i64 (bits .xor .i64 a (wrap64 (a + b))) (bits .xor .i64 b (wrap64 (a + b))) < 0 ↔ ¬ InR (a + b) := by
  rw [and_lt0 _ _ (bits_in _ _ _) (bits_in _ _ _), xor_lt0 _ _ ha (in_wrap _), xor_lt0 _ _ hb (in_wrap _)]
  unfold InR at *
  unfold wrap64
  omega
theorem sub_test (a b : Int) (ha : InR a) (hb : InR b) : bits .and .i64 (bits .xor .i64 a b) (bits .xor .i64 a (wrap64 (a - b))) < 0 ↔ ¬ InR (a - b) := by
  rw [and_lt0 _ _ (bits_in _ _ _) (bits_in _ _ _), xor_lt0 _ _ ha hb, xor_lt0 _ _ ha (in_wrap _)]
  unfold InR at *
  unfold wrap64
  omega

/-! products -/
theorem ediv_pos_iff (a b : Int) (h : 0 < b) (q : Int) : a / b = q ↔ q * b ≤ a ∧ a < q * b + b := by
  constructor
  · rintro rfl
    have h1 := Int.emod_nonneg a (Int.ne_of_gt h)
    have h2 := Int.emod_lt_of_pos a h
    have h3 := Int.mul_ediv_add_emod a b
    rw [Int.mul_comm] at h3
    omega
  · rintro ⟨h1, h2⟩
    have h3 : q ≤ a / b := (Int.le_ediv_iff_mul_le h).2 h1
    have h4 : a / b < q + 1 := (Int.ediv_lt_iff_lt_mul h).2 (by rw [Int.add_mul]; omega)
    omega

theorem tmod_nonpos (a b : Int) (h : a ≤ 0) : a.tmod b ≤ 0 := by
  have h1 := Int.tmod_nonneg b (show 0 ≤ -a by omega)
  rw [Int.neg_tmod] at h1; omega
theorem tdiv_bd (x b : Int) : (x.tdiv b).natAbs ≤ x.natAbs := by
  rw [Int.natAbs_tdiv]; exact Nat.div_le_self _ _
theorem tdiv_in (x b : Int) (hx : InR x) (hb : b ≠ 0) (hn : ¬ (x = -9223372036854775808 ∧ b = -1)) : InR (x.tdiv b) := by
  have h := tdiv_bd x b
  unfold InR at *
  by_cases hm : x = -9223372036854775808
  · subst hm
    by_cases h1 : b = 1
    · subst h1; rw [Int.tdiv_one]; omega
    · have : (Int.tdiv (-9223372036854775808) b).natAbs ≤ 4611686018427387904 := by
        rw [Int.natAbs_tdiv]
        have : 2 ≤ b.natAbs := by omega
        calc (-9223372036854775808 : Int).natAbs / b.natAbs ≤ (-9223372036854775808 : Int).natAbs / 2 := Nat.div_le_div_left this (by decide)
          _ = 4611686018427387904 := by decide
      omega
  · omega

theorem mul_back (a b : Int) (hb : b ≠ 0) : (a * b).tdiv b = a := Int.mul_tdiv_cancel a hb

/-- Where the quotient of the wrapped product gives a back, nothing was wrapped round. -/
theorem mul_test (a b : Int) (ha : InR a) (hb : InR b) (h0 : b ≠ 0) (hn : ¬ (a = -9223372036854775808 ∧ b = -1)) :
    wrap64 ((wrap64 (a * b)).tdiv b) = a ↔ InR (a * b) := by
  constructor
  · intro h
    have hw := in_wrap (a * b)
    by_cases hm : wrap64 (a * b) = -9223372036854775808 ∧ b = -1
    · obtain ⟨h1, rfl⟩ := hm
      rw [h1] at h
      have : wrap64 ((-9223372036854775808 : Int).tdiv (-1)) = -9223372036854775808 := by decide +kernel
      rw [this] at h
      exact absurd ⟨h.symm, rfl⟩ hn
    · rw [wrap_in _ (tdiv_in _ b hw h0 hm)] at h
      -- a * b and wrap64 (a*b) differ by a multiple of 2^64, and by less than |b|
      have h3 := Int.mul_tdiv_add_tmod (wrap64 (a * b)) b
      rw [h] at h3
      have h4 : ((wrap64 (a * b)).tmod b).natAbs < b.natAbs := by
        rw [Int.natAbs_tmod]; exact Nat.mod_lt _ (by omega)
      rw [Int.mul_comm] at h3
      generalize (wrap64 (a * b)).tmod b = r at *
      generalize a * b = p at *
      unfold InR at *
      unfold wrap64 at *
      omega
  · intro h
    rw [wrap_in _ h, mul_back a b h0, wrap_in _ ha]

/-! quotients, rounded down -/
theorem fdiv_of_tdiv (a b : Int) (hb : b ≠ 0) :
    a.fdiv b = if (a.tmod b < 0 ∧ 0 < b) ∨ (0 < a.tmod b ∧ b < 0) then a.tdiv b - 1 else a.tdiv b := by
  rw [Int.fdiv_eq_tdiv]
  have hd : b ∣ a ↔ a.tmod b = 0 := ⟨Int.tmod_eq_zero_of_dvd, Int.dvd_of_tmod_eq_zero⟩
  have hs : (a.tmod b < 0 → a < 0) ∧ (0 < a.tmod b → 0 < a) := by
    constructor
    · intro h; by_cases h0 : 0 ≤ a
      · have := Int.tmod_nonneg b h0; omega
      · omega
    · intro h; by_cases h0 : a ≤ 0
      · have := tmod_nonpos a b h0; omega
      · omega
  simp only [hd]
  by_cases h0 : a.tmod b = 0
  · simp [h0]
  · rw [if_neg h0]
    by_cases ha : 0 ≤ a
    · have h1 := Int.tmod_nonneg b ha
      by_cases hb1 : 0 ≤ b
      · rw [if_pos ha, if_pos hb1, if_neg (by omega)]; simp
      · rw [if_pos ha, if_neg hb1, if_pos (by omega)]
    · have h1 := tmod_nonpos a b (show a ≤ 0 by omega)
      by_cases hb1 : 0 ≤ b
      · have hs : b.sign = 1 := Int.sign_eq_one_of_pos (by omega)
        rw [if_neg ha, if_pos hb1, if_pos (by omega), hs]
      · have hs : b.sign = -1 := Int.sign_eq_neg_one_of_neg (by omega)
        rw [if_neg ha, if_neg hb1, if_neg (by omega), hs]; omega

theorem addS_in {a b : Int} (h : InR (a + b)) : addS a b = (wrap64 (a + b), 0) := by rw [wrap_in _ h]; exact chk_in h
theorem addS_out {a b : Int} (h : ¬ InR (a + b)) : addS a b = (0, 4) := chk_out h
theorem subS_in {a b : Int} (h : InR (a - b)) : subS a b = (wrap64 (a - b), 0) := by rw [wrap_in _ h]; exact chk_in h
theorem subS_out {a b : Int} (h : ¬ InR (a - b)) : subS a b = (0, 4) := chk_out h
theorem mulS_in {a b : Int} (h : InR (a * b)) : mulS a b = (wrap64 (a * b), 0) := by rw [wrap_in _ h]; exact chk_in h
theorem mulS_out {a b : Int} (h : ¬ InR (a * b)) : mulS a b = (0, 4) := chk_out h

/-- num.pastMost, num.unlikeSigns. -/
def pm (a b : Int) : Bool := decide (a = -9223372036854775808 ∧ b = -1)
def us (a b : Int) : Bool := decide ((a < 0 ∧ 0 < b) ∨ (0 < a ∧ b < 0))

theorem mulS_zero (a : Int) : mulS a 0 = (0, 0) := by unfold mulS; rw [Int.mul_zero]; exact chk_in (by unfold InR; omega)
theorem mulS_pm {a b : Int} (h : pm a b = true) : mulS a b = (0, 4) := by
  unfold pm at h; obtain ⟨rfl, rfl⟩ := of_decide_eq_true h
  exact chk_out (by unfold InR; omega)
theorem mulS_bad {a b : Int} (ha : InR a) (hb : InR b) (h0 : ¬ b = 0) (hp : pm a b = false) (h : (wrap64 ((wrap64 (a * b)).tdiv b) != a) = true) : mulS a b = (0, 4) := by
  refine mulS_out fun hin => ?_
  rw [(mul_test a b ha hb h0 (of_decide_eq_false hp)).2 hin] at h
  simp at h
theorem mulS_good {a b : Int} (ha : InR a) (hb : InR b) (h0 : ¬ b = 0) (hp : pm a b = false) (h : (wrap64 ((wrap64 (a * b)).tdiv b) != a) = false) : mulS a b = (wrap64 (a * b), 0) :=
  mulS_in ((mul_test a b ha hb h0 (of_decide_eq_false hp)).1 (by simpa using h))

theorem divS_zero (a : Int) : divS a 0 = (0, 9) := if_pos rfl
theorem divS_pm {a b : Int} (h : pm a b = true) : divS a b = (0, 4) := by
  unfold pm at h; obtain ⟨rfl, rfl⟩ := of_decide_eq_true h
  decide +kernel
theorem tdiv_us (a b : Int) (ha : InR a) (h0 : ¬ b = 0) (hp : pm a b = false) (h : us (a.tmod b) b = true) : InR (a.tdiv b - 1) ∧ a.fdiv b = a.tdiv b - 1 := by
  have h1 := of_decide_eq_true h
  refine ⟨?_, by rw [fdiv_of_tdiv a b h0, if_pos h1]⟩
  have h2 := tdiv_in a b ha h0 (of_decide_eq_false hp)
  -- the quotient is below 0 or nought, so not the least one: |q| is less than |a| as |b| is above 1
  have h3 : (a.tdiv b).natAbs ≤ 4611686018427387904 := by
    rw [Int.natAbs_tdiv]
    have hb2 : 2 ≤ b.natAbs := by
      have : (a.tmod b).natAbs < b.natAbs := by rw [Int.natAbs_tmod]; exact Nat.mod_lt _ (by omega)
      omega
    have ha2 : a.natAbs ≤ 9223372036854775808 := by unfold InR at ha; omega
    calc a.natAbs / b.natAbs ≤ a.natAbs / 2 := Nat.div_le_div_left hb2 (by decide)
      _ ≤ 4611686018427387904 := by omega
  unfold InR; omega
theorem divS_us {a b : Int} (ha : InR a) (h0 : ¬ b = 0) (hp : pm a b = false) (h : us (a.tmod b) b = true) : divS a b = (wrap64 (wrap64 (a.tdiv b) - 1), 0) := by
  obtain ⟨h1, h2⟩ := tdiv_us a b ha h0 hp h
  rw [wrap_in _ (tdiv_in a b ha h0 (of_decide_eq_false hp)), wrap_in _ h1]
  unfold divS; rw [if_neg h0, h2]; exact chk_in h1
theorem divS_like {a b : Int} (ha : InR a) (h0 : ¬ b = 0) (hp : pm a b = false) (h : us (a.tmod b) b = false) : divS a b = (wrap64 (a.tdiv b), 0) := by
  have h1 := tdiv_in a b ha h0 (of_decide_eq_false hp)
  rw [wrap_in _ h1]
  unfold divS; rw [if_neg h0, fdiv_of_tdiv a b h0, if_neg (of_decide_eq_false h)]; exact chk_in h1
theorem modS_zero (a : Int) : modS a 0 = (0, 9) := if_pos rfl
theorem fmod_of_tmod (a b : Int) (hb : b ≠ 0) : a.fmod b = if us (a.tmod b) b = true then a.tmod b + b else a.tmod b := by
  have h1 := Int.mul_fdiv_add_fmod a b
  have h2 := Int.mul_tdiv_add_tmod a b
  rw [fdiv_of_tdiv a b hb] at h1
  unfold us; simp only [decide_eq_true_eq]
  split at h1
  · rw [if_pos (by assumption)]; rw [Int.mul_sub] at h1; omega
  · rw [if_neg (by assumption)]; omega
theorem fmod_bd (a b : Int) (hb : b ≠ 0) : (0 < b → 0 ≤ a.fmod b ∧ a.fmod b < b) ∧ (b < 0 → b < a.fmod b ∧ a.fmod b ≤ 0) := by
  have h0 : (a.tmod b).natAbs < b.natAbs := by rw [Int.natAbs_tmod]; exact Nat.mod_lt _ (by omega)
  rw [fmod_of_tmod a b hb]; unfold us; simp only [decide_eq_true_eq]
  split <;> omega
theorem modS_us {a b : Int} (hb : InR b) (h0 : ¬ b = 0) (h : us (a.tmod b) b = true) : modS a b = (wrap64 (a.tmod b + b), 0) := by
  have h1 := fmod_of_tmod a b h0; rw [if_pos h] at h1
  have h2 := fmod_bd a b h0
  unfold modS; rw [if_neg h0, h1, wrap_in]
  rw [h1] at h2; unfold InR at *; omega
theorem modS_like {a b : Int} (h0 : ¬ b = 0) (h : us (a.tmod b) b = false) : modS a b = (a.tmod b, 0) := by
  have h1 := fmod_of_tmod a b h0; rw [h, if_neg (by decide)] at h1
  unfold modS; rw [if_neg h0, h1]
end Go.Proofs.YtnnlfgfgfegjkaaDoor

/- The contract of num.Digits: the decimal numeral, by the library's own contract of strconv.FormatInt; the table of powers of ten is a premise. -/
namespace Go.Proofs.YtnnlfgfgfegjkaaDoor
open Go.RowKit

/-- The table's name, as the given row has it. -/
def tabN : String := Rows.dictAsksRow.named.getD 0 (String.ofList [])
def Tab (w : World) : Prop := Lib.TabIs Tryd.prog w tabN .u64 Lib.pow10Tab
theorem Tab.below {w w' : World} (h : Tab w) (hb : Below w.heap.size w w') : Tab w' := Lib.tabBelow_of_tabIs h w' hb

end Go.Proofs.YtnnlfgfgfegjkaaDoor

/- A builder of texts: copyCheck and WriteString at this translation (the shelf does not lay them here: the panic of copyCheck is no operation of it). -/
namespace Go.Proofs.YtnnlfgfgfegjkaaDoor
open Go.RowKit

theorem bld_byte : (Tryd.prog.info? 5).map (fun i => (i.zero, i.size, i.bytes)) = some (some (.int .u8 0), 1, 1) := by kernel_rfl

/-- What a writer leaves of all else. -/
def Keeps (B b : Nat) (w w' : World) : Prop := Below B w w' ∧ Lib.OthersKept 5 (some b) w w'

end Go.Proofs.YtnnlfgfgfegjkaaDoor

/- A builder of texts: WriteByte at this translation. -/
namespace Go.Proofs.YtnnlfgfgfegjkaaDoor
open Go.RowKit
end Go.Proofs.YtnnlfgfgfegjkaaDoor

/- The contract of package quote's order of texts. -/
namespace Go.Proofs.YtnnlfgfgfegjkaaDoor
open Go.RowKit

theorem compare_order : ∀ a b : List UInt8, Lib.compareBytes a b = orderS a b := by
  intro a
  induction a with
  | nil =>
    intro b
    cases b <;> simp [Lib.compareBytes, orderS]
  | cons x l ih =>
    intro b
    cases b with
    | nil => simp [Lib.compareBytes, orderS]
    | cons y r =>
      simp only [Lib.compareBytes]
      by_cases h1 : x < y
      · have hne : ¬ x = y := fun e => by rw [e] at h1; exact absurd h1 (UInt8.lt_irrefl _)
        rw [if_pos h1]
        unfold orderS
        rw [if_neg (by simp [hne]), if_pos (by rw [List.cons_lt_cons_iff]; exact .inl h1)]
      · rw [if_neg h1]
        by_cases h2 : y < x
        · have hne : ¬ x = y := fun e => by rw [e] at h2; exact absurd h2 (UInt8.lt_irrefl _)
          rw [if_pos h2]
          unfold orderS
          rw [if_neg (by simp [hne]), if_neg (by
            rw [List.cons_lt_cons_iff]
            rintro (h | ⟨h, _⟩)
            · exact h1 h
            · exact hne h)]
        · rw [if_neg h2, ih]
          have e : x = y := by
            rw [UInt8.lt_iff_toNat_lt] at h1 h2
            exact UInt8.toNat_inj.1 (by omega)
          subst e
          unfold orderS
          have e1 : (x :: l = x :: r) ↔ l = r := by simp
          have e2 : (x :: l < x :: r) ↔ l < r := by
            rw [List.cons_lt_cons_iff]
            exact ⟨fun h => by rcases h with h | h; exact absurd h (UInt8.lt_irrefl _); exact h.2, fun h => .inr ⟨rfl, h⟩⟩
          simp only [e1, e2]

theorem q_Order (a b : ByteArray) (w : World) : Calls Tryd.prog 63 #[.string a, .string b] w fun e w' => e = .returned (.int .i64 (orderS a.data.toList b.data.toList)) ∧ w = w' := by
  have HC := Lib.hid (fun w => Tryd.strings_Compare a b w)
  rw [compare_order] at HC
  go_enter Tryd.func63, Tryd.ntmps63
  go_wp2_with fail
  refine (HC.out _).mono ?_
  rintro e w1 ⟨rfl, rfl⟩
  go_wp2_with fail
  go_ret
  exact ⟨rfl, rfl⟩
end Go.Proofs.YtnnlfgfgfegjkaaDoor
