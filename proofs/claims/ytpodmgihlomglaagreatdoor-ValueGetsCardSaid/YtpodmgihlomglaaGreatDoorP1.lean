import Derived.Below
import Derived.Deep.Draws
import Derived.Deep.MidRow
import Derived.Deep.RegionHeld
import Derived.Handy
import Derived.Laws.BitsLemmas
import Derived.Laws.OwnMore
import Derived.Laws.ShiftsVarLaws
import Derived.Lib.FrozenHead2
import Derived.Lib.Hide
import Derived.Lib.MinMax
import Derived.Lib.OthersKept
import Derived.LoopTactic
import Derived.Outline
import Derived.Test.YtpodmgihlomglaaGreatDoorChecked
import Derived.WalkKit
import Derived.WalkSpells
namespace Go.Proofs.YtpodmgihlomglaaGreatDoor
open Go.RowKit
theorem pq : (∀ (a : Act) (v : Value), a.put none v = a) ∧ (∀ (a : Act) (i : Nat) (v : Value), a.put (some i) v = { a with tmps := a.tmps.setIfInBounds i v }) ∧ (∀ (l : List Value) (i : Nat) (a : Value), l.toArray.setIfInBounds i a = (l.set i a).toArray) ∧ (∀ (a b : Value) (l : List Value), (a :: l).set 0 b = b :: l) ∧ (∀ (a b : Value) (l : List Value) (n : Nat), (a :: l).set (n + 1) b = a :: l.set n b) :=
  ⟨fun _ _ => rfl, fun _ _ _ => rfl, fun _ _ _ => List.setIfInBounds_toArray .., fun _ _ _ => List.set_cons_zero, fun _ _ _ _ => List.set_cons_succ⟩
theorem tW {a b c : World} (h : Below a.heap.size a b) (k : Below b.heap.size b c) : Below a.heap.size a c := h.trans (k.mono h.size)
theorem kW {w w' : World} {g : Nat} {o : Obj} (hb : Below w.heap.size w w') (h : w.heap[g]? = some o) : w'.heap[g]? = some o := (hb.block _ (Array.getElem?_eq_some_iff.1 h).1).trans h
theorem Below.drewMany {B : Nat} {w w1 : World} (h : Below B w w1) (n : Nat) : Below B w (w1.drewN n) := ⟨h.os, h.tape, h.output, h.size, h.block⟩
theorem Below.newly' (w : World) (o : Obj) : Below w.heap.size w (w.alloc o) := (Below.refl _ _).alloc (Nat.le_refl _) o
theorem Below.more {w w1 : World} (h : Below w.heap.size w w1) (o : Obj) : Below w.heap.size w (w1.alloc o) := h.alloc h.size o
theorem drawn_below (w : World) : Below w.heap.size w w.drew := Below.drewMany (Below.refl _ w) 1
def IntsAt (w : World) (v : Value) (zs : List Int) : Prop :=
 ∃ (a : Option Addr) (cap b o : Nat), v = .slice a zs.length cap ∧ (0 < zs.length → a = some ⟨b, o, none⟩) ∧ (∀ j, j < zs.length → w.cell? ⟨b, o + j, none⟩ = some (.int .i64 (zs.getD j 0))) ∧
  (∀ n ∈ zs, -9223372036854775808 ≤ n ∧ n ≤ 9223372036854775807) ∧ zs.length ≤ maxLen
theorem IntsAt.later {w w' : World} {v : Value} {zs : List Int} (h : IntsAt w v zs) (hb : Below w.heap.size w w') : IntsAt w' v zs := by
 obtain ⟨a, cap, b, o, h1, h2, h3, h4⟩ := h
 exact ⟨a, cap, b, o, h1, h2, fun j hj => (hb.cell (p := ⟨b, o + j, none⟩) (World.block_lt_of_cell? w _ (h3 j hj))).trans (h3 j hj), h4⟩
def iv (l : List Int) : List Value := l.map fun n => .int .i64 n
theorem iv_len (l : List Int) : (iv l).length = l.length := by simp [iv]
def Ints (B : Nat) (v : Value) (l : List Int) (w : World) : Prop := w.ownsRowF B 3 1 v l.length (iv l) ∧ B ≤ w.heap.size
section
variable {B : Nat} {v : Value} {l : List Int} {w w1 : World}
theorem Ints.nil (h : B ≤ w.heap.size) : Ints B (.slice none 0 0) [] w := ⟨World.ownsRowF_nil _ _ _ _, h⟩
theorem Ints.lit (hB : B ≤ w.heap.size) (cs : Array Value) (l : List Int) (hc : cs.toList = iv l) (hl4 : l.length ≤ 4096) :
  Ints B (.slice (some ⟨w.heap.size, 0, none⟩) l.length l.length) l (w.alloc (.cells cs 3)) := by
 have hl : l.length ≤ maxLen := by unfold maxLen; omega
 have hs : cs.size = l.length * 1 := by rw [← Array.length_toList, hc, iv_len]; omega
 refine ⟨?_, by simp; omega⟩
 have := World.ownsRowF_of (World.ownsRow_lit (base := B) (e := 3) (size := 1) w cs l.length hB hl hs)
 rwa [hc] at this
theorem Ints.low {B' : Nat} (h : Ints B v l w) (hB : B' ≤ B) : Ints B' v l w := by
 obtain ⟨⟨h1, h2⟩, h3⟩ := h
 refine ⟨⟨h1, ?_⟩, by omega⟩
 rcases h2 with h2 | ⟨g, cap, cur, fz, a1, a2, a3⟩
 ·exact .inl h2
 ·exact .inr ⟨g, cap, cur, fz, a1, by omega, a3⟩
theorem Ints.grown {row : Option Nat} (h : Ints B v l w) (hg : w.grownBy w1 row) (hne : v.ownBlock = none ∨ v.ownBlock ≠ row) : Ints B v l w1 := ⟨h.1.kept hg hne, Nat.le_trans h.2 hg.size⟩
theorem Ints.later (h : Ints B v l w) (hb : Below w.heap.size w w1) : Ints B v l w1 := h.grown (row := none) ⟨hb.os, hb.tape, hb.output, hb.size, fun k hk _ => hb.block k hk⟩ (by cases v.ownBlock <;> simp)
theorem Ints.alloc (h : Ints B v l w) (o : Obj) : Ints B v l (w.alloc o) := h.later ((Below.refl _ _).alloc (Nat.le_refl _) o)
theorem Ints.src (h : Ints B v l w) (hn : l ≠ []) : ∃ ad c, v = .slice (some ad) l.length c ∧ ∀ j u, (iv l)[j]? = some u → w.cell? (ad.add j) = some u := by
 obtain ⟨hr, _⟩ := h
 have hr' := hr
 obtain ⟨h1, h2⟩ := hr
 rcases h2 with ⟨_, h2⟩ | ⟨g, cap, cur, fz, a1, a2, a3, a4⟩
 ·exact absurd (List.eq_nil_of_length_eq_zero h2) hn
 ·subst a1
  exact ⟨⟨g, 0, none⟩, cap, rfl, hr'.cells rfl⟩
theorem Ints.len (h : Ints B v l w) : ∃ a c, v = .slice a l.length c := by
 obtain ⟨⟨_, h2⟩, _⟩ := h
 rcases h2 with ⟨rfl, h2⟩ | ⟨g, cap, cur, fz, rfl, _⟩
 ·exact ⟨none, 0, by rw [h2]⟩
 ·exact ⟨_, _, rfl⟩
end
theorem int_info : (Tryz.prog.info? 3).map (fun i => (i.zero, i.size, i.bytes)) = some (some (.int .i64 0), 1, 8) := by kernel_rfl
end Go.Proofs.YtpodmgihlomglaaGreatDoor
namespace Go.Proofs.YtpodmgihlomglaaGreatDoor
open Go.RowKit
def commonS : List UInt8 → List UInt8 → Nat
 | a :: l, b :: r => if a = b then commonS l r + 1 else 0
 | _, _ => 0
def orderS (a b : List UInt8) : Int := if a = b then 0 else if a < b then -1 else 1
theorem commonS_of : ∀ (k : Nat) (l r : List UInt8), l.take k = r.take k → k ≤ l.length → k ≤ r.length → (k = l.length ∨ k = r.length ∨ l[k]? ≠ r[k]?) → commonS l r = k
 | 0, l, r, _, _, _, h => by
  cases l with
  | nil => rfl
  | cons a l =>
   cases r with
   | nil => rfl
   | cons b r =>
    rcases h with h | h | h
    ·simp at h
    ·simp at h
    ·have : ¬ a = b := by simpa using h
     simp [commonS, this]
 | k + 1, l, r, ht, hl, hr, h => by
  cases l with
  | nil => simp at hl
  | cons a l =>
   cases r with
   | nil => simp at hr
   | cons b r =>
    simp only [List.take_succ_cons, List.cons.injEq] at ht
    simp only [List.length_cons] at hl hr h
    simp only [commonS]
    rw [if_pos ht.1, commonS_of k l r ht.2 (by omega) (by omega) (by
     rcases h with h | h | h
     ·exact .inl (by omega)
     ·exact .inr (.inl (by omega))
     ·exact .inr (.inr (by simpa using h)))]
theorem commonS_le : ∀ (l r : List UInt8), commonS l r ≤ l.length ∧ commonS l r ≤ r.length ∧ l.take (commonS l r) = r.take (commonS l r) ∧ (commonS l r = l.length ∨ commonS l r = r.length ∨ l[commonS l r]? ≠ r[commonS l r]?)
 | [], r => by simp [commonS]
 | _ :: _, [] => by simp [commonS]
 | a :: l, b :: r => by
  obtain ⟨h1, h2, h3, h4⟩ := commonS_le l r
  simp only [commonS]
  by_cases h : a = b
  ·rw [if_pos h]
   refine ⟨by simp; omega, by simp; omega, by simp [h, h3], ?_⟩
   rcases h4 with h4 | h4 | h4
   ·exact .inl (by simp [h4])
   ·exact .inr (.inl (by simp [h4]))
   ·exact .inr (.inr (by simpa using h4))
  ·rw [if_neg h]
   exact ⟨by simp, by simp, by simp, .inr (.inr (by simpa using h))⟩
theorem order_of (l r : List UInt8) : ∀ k, l.take k = r.take k → k ≤ l.length → k ≤ r.length →
  (k = l.length → k = r.length → orderS l r = 0) ∧ (k = l.length → ¬ k = r.length → orderS l r = -1) ∧ (¬ k = l.length → k = r.length → orderS l r = 1) ∧
  (∀ (h1 : k < l.length) (h2 : k < r.length), (l[k] < r[k] → orderS l r = -1) ∧ (r[k] < l[k] → orderS l r = 1)) := by
 intro k
 induction k generalizing l r with
 | zero =>
  intro _ _ _
  cases l with
  | nil =>
   cases r with
   | nil => simp [orderS]
   | cons b r => simp [orderS]
  | cons a l =>
   cases r with
   | nil => simp [orderS]
   | cons b r =>
    simp only [List.length_cons, orderS]
    refine ⟨by omega, by omega, by omega, fun _ _ => ⟨fun h => ?_, fun h => ?_⟩⟩
    ·have h' : a < b := by simpa using h
     rw [if_neg (by simp; intro e; rw [e] at h'; exact absurd h' (UInt8.lt_irrefl _)), if_pos (by rw [List.cons_lt_cons_iff]; exact .inl h')]
    ·have h' : b < a := by simpa using h
     rw [if_neg (by simp; intro e; rw [e] at h'; exact absurd h' (UInt8.lt_irrefl _)), if_neg (by
      rw [List.cons_lt_cons_iff]
      rintro (h2 | ⟨h2, _⟩)
      ·rw [UInt8.lt_iff_toNat_lt] at h' h2; omega
      ·rw [h2] at h'; exact absurd h' (UInt8.lt_irrefl _))]
 | succ k ih =>
  intro ht hl hr
  cases l with
  | nil => simp at hl
  | cons a l =>
   cases r with
   | nil => simp at hr
   | cons b r =>
    simp only [List.take_succ_cons, List.cons.injEq] at ht
    obtain ⟨rfl, ht⟩ := ht
    have e : orderS (a :: l) (a :: r) = orderS l r := by
     unfold orderS
     have h1 : (a :: l = a :: r) ↔ l = r := by simp
     have h2 : (a :: l < a :: r) ↔ l < r := by
      rw [List.cons_lt_cons_iff]
      exact ⟨fun h => by rcases h with h | h; exact absurd h (UInt8.lt_irrefl _); exact h.2, fun h => .inr ⟨rfl, h⟩⟩
     simp only [h1, h2]
    rw [e]
    have := ih l r ht (by simpa using hl) (by simpa using hr)
    simp only [List.length_cons, Nat.add_right_cancel_iff]
    refine ⟨this.1, this.2.1, this.2.2.1, fun h1 h2 => ?_⟩
    have := this.2.2.2 (by omega) (by omega)
    simpa using this
def hval (c : UInt8) (great : Bool) : Nat :=
 if 48 ≤ c.toNat ∧ c.toNat ≤ 57 then c.toNat - 48 else if 97 ≤ c.toNat ∧ c.toNat ≤ 102 then c.toNat - 87 else if great = true ∧ 65 ≤ c.toNat ∧ c.toNat ≤ 70 then c.toNat - 55 else 16
theorem lt_irrefl_l (a : List UInt8) : ¬ a < a := List.lt_irrefl a
theorem orderS_range (a b : List UInt8) : orderS a b = -1 ∨ orderS a b = 0 ∨ orderS a b = 1 := by
 unfold orderS
 split
 ·exact .inr (.inl rfl)
 ·split
  ·exact .inl rfl
  ·exact .inr (.inr rfl)
theorem orderS_zero (a b : List UInt8) : orderS a b = 0 ↔ a = b := by
 unfold orderS
 split
 ·simp [*]
 ·split <;> simp [*]
theorem orderS_less (a b : List UInt8) : orderS a b = -1 ↔ a < b := by
 unfold orderS
 split
 ·rename_i h; subst h; simp [lt_irrefl_l]
 ·split <;> simp [*]
theorem total_l (a b : List UInt8) (h : ¬ a = b) : a < b ∨ b < a := by
 rcases List.le_total a b with h1 | h1
 ·rcases Decidable.em (a < b) with h2 | h2
  ·exact .inl h2
  ·exact absurd (List.le_antisymm h1 (List.not_lt.1 h2)) h
 ·rcases Decidable.em (b < a) with h2 | h2
  ·exact .inr h2
  ·exact absurd (List.le_antisymm (List.not_lt.1 h2) h1) h
def stepT (a : Nat) : Nat := a * 11400714819323198485 % 18446744073709551616
def rotT (t : Nat) : Nat := t * 2147483648 % 18446744073709551616 ||| t / 8589934592
def stepN (h x : Nat) : Nat := (rotT (stepT (h ^^^ x)) + 15485907386658061715) % 18446744073709551616
def foldN (h : Nat) : Nat := h ^^^ h / 4294967296
def endN (h : Nat) : Nat := foldN (foldN h * 15485907386658061715 % 18446744073709551616)
theorem xor_lt {a b : Nat} (ha : a < 18446744073709551616) (hb : b < 18446744073709551616) : a ^^^ b < 18446744073709551616 := Nat.xor_lt_two_pow (n := 64) ha hb
theorem or_lt {a b : Nat} (ha : a < 18446744073709551616) (hb : b < 18446744073709551616) : a ||| b < 18446744073709551616 := Nat.or_lt_two_pow (n := 64) ha hb
theorem stepN_lt (h x : Nat) : stepN h x < 18446744073709551616 := Nat.mod_lt _ (by decide)
theorem foldN_lt {h : Nat} (hh : h < 18446744073709551616) : foldN h < 18446744073709551616 := xor_lt hh (Nat.lt_of_le_of_lt (Nat.div_le_self _ _) hh)
theorem endN_lt (h : Nat) : endN h < 18446744073709551616 := foldN_lt (Nat.mod_lt _ (by decide))
theorem and_mask (h k : Nat) : h &&& (2 ^ k - 1) = h % 2 ^ k := Nat.and_two_pow_sub_one_eq_mod h k
def wd (l : List UInt8) : Nat → Nat
 | 0 => 0
 | k + 1 => wd l k ||| (l.getD k 0).toNat * 2 ^ (8 * (7 - k))
def hs (seed : Nat) (l : List UInt8) : Nat → Nat
 | 0 => stepN seed l.length
 | j + 1 => stepN (hs seed l j) (wd (l.drop (8 * j)) (min (l.length - 8 * j) 8))
def txtN (seed : Nat) (l : List UInt8) : Nat := endN (hs seed l ((l.length + 7) / 8))
theorem byte_lt (c : UInt8) (k : Nat) (_ : k ≤ 7) : c.toNat * 2 ^ (8 * (7 - k)) < 18446744073709551616 := by
 have hc : c.toNat < 256 := c.toNat_lt
 calc c.toNat * 2 ^ (8 * (7 - k)) < 256 * 2 ^ (8 * (7 - k)) := Nat.mul_lt_mul_of_pos_right hc (Nat.two_pow_pos _)
  _ ≤ 256 * 2 ^ 56 := Nat.mul_le_mul_left _ (Nat.pow_le_pow_right (by decide) (by omega))
  _ = 18446744073709551616 := by decide
theorem wd_lt (l : List UInt8) : ∀ k, k ≤ 8 → wd l k < 18446744073709551616
 | 0, _ => Nat.zero_lt_succ _
 | k + 1, h => or_lt (wd_lt l k (by omega)) (byte_lt _ k (by omega))
theorem hs_lt (seed : Nat) (l : List UInt8) : ∀ j, hs seed l j < 18446744073709551616
 | 0 => stepN_lt _ _
 | _ + 1 => stepN_lt _ _
def InR (n : Int) : Prop := -9223372036854775808 ≤ n ∧ n ≤ 9223372036854775807
instance (n : Int) : Decidable (InR n) := inferInstanceAs (Decidable (_ ∧ _))
theorem Below.chain {w w1 w2 : World} (h1 : Below w.heap.size w w1) (h2 : Below w1.heap.size w1 w2) : Below w.heap.size w w2 := h1.trans (h2.mono h1.size)
theorem Below.drawn (w : World) : Below w.heap.size w w.drew := ⟨rfl, rfl, rfl, Nat.le_refl _, fun _ _ => rfl⟩
theorem Below.laid (w : World) (o : Obj) : Below w.heap.size w (w.alloc o) := (Below.refl _ _).alloc (Nat.le_refl _) o
def bt8 (v : Int) : UInt8 := UInt8.ofNat (v % 256).toNat
theorem bt8_toNat (v : Int) : ((bt8 v).toNat : Int) = v % 256 := by
 unfold bt8
 have h0 := Int.emod_nonneg v (show (256 : Int) ≠ 0 by decide)
 have h1 := Int.emod_lt_of_pos v (show (0 : Int) < 256 by decide)
 rw [UInt8.toNat_ofNat_of_lt' (by simp only [UInt8.size]; omega)]
 omega
theorem mk8 (w : World) : (Instr.makeSlice 104 (.int .i64 8) (.int .i64 8)).run Tryz.prog w = .ok (.slice (some ⟨w.heap.size, 0, none⟩) 8 8) (w.alloc (.cells #[.int .u8 0, .int .u8 0, .int .u8 0, .int .u8 0, .int .u8 0, .int .u8 0, .int .u8 0, .int .u8 0] 5)) := by kernel_rfl
theorem cv8 (w : World) (v0 v1 v2 v3 v4 v5 v6 v7 : Int) : (convert 104 9 (.slice (some ⟨w.heap.size, 0, none⟩) 8 8)).run Tryz.prog (w.alloc (.cells #[.int .u8 (v0 % 256), .int .u8 (v1 % 256), .int .u8 (v2 % 256), .int .u8 (v3 % 256), .int .u8 (v4 % 256), .int .u8 (v5 % 256), .int .u8 (v6 % 256), .int .u8 (v7 % 256)] 5)) =
  .ok (.string ⟨#[bt8 v0, bt8 v1, bt8 v2, bt8 v3, bt8 v4, bt8 v5, bt8 v6, bt8 v7]⟩) (w.alloc (.cells #[.int .u8 (v0 % 256), .int .u8 (v1 % 256), .int .u8 (v2 % 256), .int .u8 (v3 % 256), .int .u8 (v4 % 256), .int .u8 (v5 % 256), .int .u8 (v6 % 256), .int .u8 (v7 % 256)] 5)) := by
 refine run_convert_bytes_back (P := Tryz.prog) (w.alloc _) 104 9 5 ⟨w.heap.size, 0, none⟩ 8 [bt8 v0, bt8 v1, bt8 v2, bt8 v3, bt8 v4, bt8 v5, bt8 v6, bt8 v7] Tryz.underlying104 Tryz.underlying5 Tryz.underlying9 ?_
 intro j hj
 have hj' : j < 8 := hj
 match j, hj' with
 | 0, _ => simp [bt8_toNat, Addr.add]
 | 1, _ => simp [bt8_toNat, Addr.add]
 | 2, _ => simp [bt8_toNat, Addr.add]
 | 3, _ => simp [bt8_toNat, Addr.add]
 | 4, _ => simp [bt8_toNat, Addr.add]
 | 5, _ => simp [bt8_toNat, Addr.add]
 | 6, _ => simp [bt8_toNat, Addr.add]
 | 7, _ => simp [bt8_toNat, Addr.add]
def bytesS (n : Int) : List UInt8 := [bt8 ((n + 9223372036854775808) / 72057594037927936), bt8 ((n + 9223372036854775808) / 281474976710656), bt8 ((n + 9223372036854775808) / 1099511627776), bt8 ((n + 9223372036854775808) / 4294967296), bt8 ((n + 9223372036854775808) / 16777216), bt8 ((n + 9223372036854775808) / 65536), bt8 ((n + 9223372036854775808) / 256), bt8 (n + 9223372036854775808)]
theorem word_ofB (n : Int) (h : InR n) : IntKind.u64.wrap (IntKind.u64.wrap n + 9223372036854775808) = n + 9223372036854775808 := by
 rw [IntKind.wrap_u64, IntKind.wrap_u64]; unfold InR at h; omega
set_option maxHeartbeats 1000000 in
theorem num_Bytes (n : Int) (w : World) (hn : InR n) : Calls Tryz.prog 123 #[.int .i64 n] w fun e w' => e = .returned (.string ⟨(bytesS n).toArray⟩) ∧ Below w.heap.size w w' := by
 have hmk := mk8
 have hcv := cv8
 have hw := Lib.hid (word_ofB n hn)
 have hb : Hid (∀ o, Below w.heap.size w (w.alloc o)) := fun o => (Below.refl _ _).alloc (Nat.le_refl _) o
 go_enter Tryz.func123, Tryz.ntmps123
 go_wp2_with fail
 go_rounds 9
 go_wp2_with fail
 go_ret
 exact ⟨by unfold bytesS; rw [← hw.out]; rfl, hb.out _⟩
section
variable {P : Program} {md : Region.Mode} {ops : Array Oper} {Q : Exit → Act → World → Prop} {S : World → Prop} {U : List Nat}
def wpAnyT (P : Program) (md : Region.Mode) (ops : Array Oper) (Q : Exit → Act → World → Prop) (S : World → Prop) (U : List Nat) : Nat → Array Bool → Act → World → Prop
 | 0, listed, a, w => Region.ready md ops listed = [] ∧ Q .normal a w
 | fuel + 1, listed, a, w =>
  (Region.ready md ops listed = [] → Q .normal a w) ∧
  ∀ i ∈ Region.ready md ops listed, wpOp P ops Q i (fun a' w' => (U.contains i = false → S w') ∧ wpAnyT P md ops Q S U fuel (listed.setIfInBounds i true) a' w') a w
theorem wpAnyT_any : ∀ (fuel : Nat) (listed : Array Bool) (a : Act) (w : World), wpAnyT P md ops Q S U fuel listed a w → wpAny P md ops Q fuel listed a w
 | 0, _, _, _, h => h
 | fuel + 1, _, _, _, h => ⟨h.1, fun i hi => wpOp_mono (fun a' w' h' => wpAnyT_any fuel _ a' w' h'.2) (h.2 i hi)⟩
def waitsT (md : Region.Mode) (ops : Array Oper) (i : Nat) : Nat → Nat → Bool
 | 0, _ => false
 | n + 1, j => match ops[j]? with | some o => o.after.any fun e => Region.binds md e && (e.on == i || waitsT md ops i n e.on) | none => false
def waitsFor (md : Region.Mode) (ops : Array Oper) (U : List Nat) (i : Nat) : Bool := U.all fun j => waitsT md ops i ops.size j
def Closed (md : Region.Mode) (ops : Array Oper) (listed : Array Bool) : Prop :=
 ∀ k ok, ops[k]? = some ok → listed.getD k false = true → ∀ e ∈ ok.after, Region.binds md e = true → listed.getD e.on false = true
def closedB (md : Region.Mode) (ops : Array Oper) (listed : Array Bool) : Bool :=
 (List.range ops.size).all fun k => !listed.getD k false || (match ops[k]? with | some o => o.after.all fun e => !Region.binds md e || listed.getD e.on false | none => true)
theorem closed_of {listed : Array Bool} (h : closedB md ops listed = true) : Closed md ops listed := by
 intro k ok hk hl e he hb
 unfold closedB at h
 rw [List.all_eq_true] at h
 have h1 := h k (by rw [List.mem_range]; exact (Array.getElem?_eq_some_iff.1 hk).1)
 rw [hl, hk] at h1
 simp only [Bool.not_true, Bool.false_or] at h1
 rw [Array.all_eq_true_iff_forall_mem] at h1
 have h2 := h1 e he
 rw [hb] at h2
 simpa using h2
theorem waits_not {i : Nat} {listed : Array Bool} (hc : Closed md ops listed) (hi : listed.getD i false = false) : ∀ (n j : Nat), waitsT md ops i n j = true → listed.getD j false = true → False
 | 0, _, h, _ => by cases h
 | n + 1, j, h, hl => by
  unfold waitsT at h
  cases hj : ops[j]? with
  | none => rw [hj] at h; cases h
  | some o =>
   rw [hj] at h
   simp only at h
   rw [Array.any_eq_true] at h
   obtain ⟨k, hk, h2⟩ := h
   rw [Bool.and_eq_true, Bool.or_eq_true, beq_iff_eq] at h2
   have hon := hc j o hj hl _ (Array.getElem_mem hk) h2.1
   rcases h2.2 with h3 | h3
   ·rw [h3, hi] at hon; cases hon
   ·exact waits_not hc hi n _ h3 hon
theorem waits_ready {i j : Nat} {listed : Array Bool} (h : waitsFor md ops U i = true) (hc : Closed md ops listed) (hi : listed.getD i false = false) (hU : U.contains j = true) (hj : j ∈ Region.ready md ops listed) : False := by
 unfold waitsFor at h
 rw [List.all_eq_true] at h
 have h1 := h j (by simpa using hU)
 obtain ⟨_, oj, hoj, hall⟩ := mem_ready.1 hj
 cases hn : ops.size with
 | zero => rw [hn] at h1; cases h1
 | succ n =>
  rw [hn] at h1
  unfold waitsT at h1
  rw [hoj] at h1
  simp only at h1
  rw [Array.any_eq_true] at h1
  obtain ⟨k, hk, h2⟩ := h1
  rw [Bool.and_eq_true, Bool.or_eq_true, beq_iff_eq] at h2
  have hon := hall _ (Array.getElem_mem hk) h2.1
  rcases h2.2 with h3 | h3
  ·rw [h3, hi] at hon; cases hon
  ·exact waits_not hc hi n _ h3 hon
theorem closed_set {j : Nat} {listed : Array Bool} (hc : Closed md ops listed) (hj : j ∈ Region.ready md ops listed) : Closed md ops (listed.setIfInBounds j true) := by
 obtain ⟨_, oj, hoj, hall⟩ := mem_ready.1 hj
 intro k ok hk hl e he hb
 by_cases hjk : j = k
 ·subst hjk
  rw [hoj] at hk
  obtain rfl := Option.some.inj hk
  exact getD_set_true (hall e he hb)
 ·rw [getD_set_ne false hjk] at hl
  exact getD_set_true (hc k ok hk hl e he hb)
theorem wpAnyT_first {i : Nat} {oi : Oper} {v : Value} (hi : ops[i]? = some oi) (hsel : ∀ (j : Nat) (o : Oper) cs b, ops[j]? = some o → o.op ≠ .select cs b)
  (hQ : ∀ c a w, Q (.panic c) (a.put oi.dst v) w → Q (.panic c) a w) (hw : waitsFor md ops U i = true) :
  ∀ (fuel : Nat) (listed : Array Bool) (a : Act) (w : World),
   (∀ j oj, ops[j]? = some oj → j ≠ i → listed.getD j true = false → (∀ e ∈ oj.after, Region.binds md e = true → e.on ≠ i) → oi.apart ops oj = true) →
   Closed md ops listed → i ∈ Region.ready md ops listed → YieldsIf P ops S oi v a → S w →
   wpAnyT P md ops Q S U fuel (listed.setIfInBounds i true) (a.put oi.dst v) w → wpAnyT P md ops Q S U (fuel + 1) listed a w := by
 intro fuel
 induction fuel with
 | zero =>
  intro listed a w _ _ hr hy hS H
  refine ⟨fun h => (by rw [h] at hr; cases hr), fun j hj => ?_⟩
  by_cases hji : j = i
  ·subst hji; exact hy.wpOp hi hS ⟨fun _ => hS, H⟩
  ·have := ready_mono hj hji
   rw [H.1] at this
   cases this
 | succ fuel ih =>
  intro listed a w hfree hcl hr hy hS H
  refine ⟨fun h => (by rw [h] at hr; cases hr), fun j hj => ?_⟩
  by_cases hji : j = i
  ·subst hji; exact hy.wpOp hi hS ⟨fun _ => hS, H⟩
  ·have h1 := H.2 j (ready_mono hj hji)
   obtain ⟨hjun, oj, hoj, hall⟩ := mem_ready.1 hj
   have hifalse : listed.getD i false = false := by
    have h0 := (mem_ready.1 hr).1
    rcases Nat.lt_or_ge i listed.size with h' | h'
    ·simp [h'] at h0 ⊢; exact h0
    ·simp [Array.getElem?_eq_none h']
   have hnot : ∀ e ∈ oj.after, Region.binds md e = true → e.on ≠ i := fun e he hb heq => by
    have h1 := hall e he hb
    rw [heq, hifalse] at h1
    cases h1
   have hnU : U.contains j = false := by
    cases hc : U.contains j with
    | false => rfl
    | true => exact (waits_ready hw hcl hifalse hc hj).elim
   have h2 := wpOp_putIf hoj (hfree j oj hoj hji hjun hnot) (fun cs b => hsel i oi cs b hi) (fun cs b => hsel j oj cs b hoj) hQ hy h1
   have hfree' : ∀ k ok, ops[k]? = some ok → k ≠ i → (listed.setIfInBounds j true).getD k true = false →
     (∀ e ∈ ok.after, Region.binds md e = true → e.on ≠ i) → oi.apart ops ok = true := fun k ok hk hki hun hno => by
    refine hfree k ok hk hki ?_ hno
    by_cases hjk : j = k
    ·subst hjk; exact hjun
    ·rw [getD_set_ne true hjk] at hun; exact hun
   refine wpOp_mono (fun a' w' h3 => ⟨fun hc => h3.2.1 hc, ih (listed.setIfInBounds j true) a' w' hfree' (closed_set hcl hj) (ready_mono hr (Ne.symm hji)) h3.1 (h3.2.1 hnU) ?_⟩) h2
   rw [Array.setIfInBounds_comm _ _ hji]
   exact h3.2.2
theorem wpAnyT_take {i : Nat} {oi : Oper} {v : Value} {fuel : Nat} {listed : Array Bool} {a : Act} {w : World} (hi : ops[i]? = some oi)
  (hs : Region.noSelect ops = true) (hf : Region.free md ops listed i = true) (hr : (Region.ready md ops listed).contains i = true) (hw : (waitsFor md ops U i && closedB md ops listed) = true)
  (hQ : ∀ c a w, Q (.panic c) (a.put oi.dst v) w → Q (.panic c) a w) (hy : YieldsIf P ops S oi v a) (hS : S w)
  (h : wpAnyT P md ops Q S U fuel (listed.setIfInBounds i true) (a.put oi.dst v) w) : wpAnyT P md ops Q S U (fuel + 1) listed a w :=
 wpAnyT_first hi (Region.noSelect_spec hs) hQ (Bool.and_eq_true_iff.1 hw).1 fuel listed a w (Region.free_spec hi hf) (closed_of (Bool.and_eq_true_iff.1 hw).2) (by simpa using hr) hy hS h
theorem tkA (i d : Nat) {x1 x2 x3 x4 x5 : _} {v : Value} {fuel : Nat} {listed : Array Bool} {a : Act} {w : World} (hi : ops[i]? = some ⟨some d, x1, x2, x3, x4, x5⟩ := by rfl) (hq : (Region.noSelect ops && Region.free md ops listed i && (Region.ready md ops listed).contains i && (waitsFor md ops U i && closedB md ops listed)) = true := by kernel_rfl) (hQ : ∀ c a w, Q (.panic c) (a.put (some d) v) w → Q (.panic c) a w := by exact fun _ _ _ h => h) (hg : Region.wanted ⟨some d, x1, x2, x3, x4, x5⟩ (yielded ops a.tmps) = true := by rfl) (hv : ∀ w, S w → (execOp a.eval ⟨some d, x1, x2, x3, x4, x5⟩).run P w = .ok (.value v) w := by (intro w hSw; (try dsimp only at hSw); first | (go_simp; done) | (go_simp; with_reducible rfl))) (hS : S w := by assumption) (h : wpAnyT P md ops Q S U fuel (listed.setIfInBounds i true) (a.put (some d) v) w) : wpAnyT P md ops Q S U (fuel + 1) listed a w :=
 have h1 := Bool.and_eq_true_iff.1 hq
 have h2 := Bool.and_eq_true_iff.1 h1.1
 have h3 := Bool.and_eq_true_iff.1 h2.1
 wpAnyT_take hi h3.1 h3.2 h2.2 h1.2 hQ (Or.inl ⟨hg, hv⟩) hS h
theorem tyA (i d : Nat) {x1 x2 x3 x4 x5 : _} {v : Value} {fuel : Nat} {listed : Array Bool} {a : Act} {w : World} (hi : ops[i]? = some ⟨some d, x1, x2, x3, x4, x5⟩ := by rfl) (hq : (Region.noSelect ops && Region.free md ops listed i && (Region.ready md ops listed).contains i && (waitsFor md ops U i && closedB md ops listed)) = true := by kernel_rfl) (hQ : ∀ c a w, Q (.panic c) (a.put (some d) v) w → Q (.panic c) a w := by exact fun _ _ _ h => h) (hy : YieldsIf P ops S ⟨some d, x1, x2, x3, x4, x5⟩ v a) (hS : S w := by assumption) (h : wpAnyT P md ops Q S U fuel (listed.setIfInBounds i true) (a.put (some d) v) w) : wpAnyT P md ops Q S U (fuel + 1) listed a w :=
 have h1 := Bool.and_eq_true_iff.1 hq
 have h2 := Bool.and_eq_true_iff.1 h1.1
 have h3 := Bool.and_eq_true_iff.1 h2.1
 wpAnyT_take hi h3.1 h3.2 h2.2 h1.2 hQ hy hS h
theorem wpAnyT_done {listed : Array Bool} {a : Act} {w : World} (hr : Region.ready md ops listed = []) (h : Q .normal a w) :
  ∀ fuel, wpAnyT P md ops Q S U fuel listed a w
 | 0 => ⟨hr, h⟩
 | _ + 1 => ⟨fun _ => h, by rw [hr]; simp⟩
theorem wp_region_T {id : Nat} {a : Act} {w : World} (U : List Nat) (hm : P.follows .mixedOrders = true) (hS : S w.drew)
  (h : S w.drew → wpAnyT P .any ops Q S U ops.size (Array.replicate ops.size false) a w.drew) : (Code.region id ops true).wp P Q a w :=
 wp_region_any hm (wpAnyT_any _ _ _ _ (h hS))
theorem wpAnyT_one {fuel : Nat} {listed : Array Bool} {a : Act} {w : World} {i : Nat} {o : Oper} (hr : Region.ready md ops listed = [i]) (ho : ops[i]? = some o)
  (h : ∀ K' : Act → World → Prop, Shut (∀ a w, S w → (S w → wpAnyT P md ops Q S U fuel (listed.setIfInBounds i true) a w) → K' a w) → if Region.wanted o (yielded ops a.tmps) = true then Oper.wp P o a w K' Q else K' (a.put o.dst undef) w) :
  wpAnyT P md ops Q S U (fuel + 1) listed a w := by
 refine ⟨fun h0 => absurd (hr ▸ h0) (by simp), fun j hj => ?_⟩
 rw [hr] at hj
 obtain rfl : j = i := by simpa using hj
 exact wpOp_step ho (fun K' hK => h K' (fun a w hS hW => hK a w ⟨fun _ => hS, hW hS⟩))
theorem tkO (i : Nat) (d : Option Nat) {x1 x2 x3 x4 x5 : _} {fuel : Nat} {listed : Array Bool} {a : Act} {w : World} (hr : Region.ready md ops listed = [i] := by kernel_rfl) (ho : ops[i]? = some ⟨d, x1, x2, x3, x4, x5⟩ := by rfl) (h : ∀ K' : Act → World → Prop, Shut (∀ a w, S w → (S w → wpAnyT P md ops Q S U fuel (listed.setIfInBounds i true) a w) → K' a w) → if Region.wanted ⟨d, x1, x2, x3, x4, x5⟩ (yielded ops a.tmps) = true then Oper.wp P ⟨d, x1, x2, x3, x4, x5⟩ a w K' Q else K' (a.put d undef) w) : wpAnyT P md ops Q S U (fuel + 1) listed a w := wpAnyT_one hr ho h
theorem wpAnyT_last {fuel : Nat} {listed : Array Bool} {a : Act} {w : World} {i : Nat} {o : Oper} (hr : Region.ready md ops listed = [i]) (hU : U.contains i = true) (ho : ops[i]? = some o)
  (h : ∀ K' : Act → World → Prop, Shut (∀ a w, wpAnyT P md ops Q S U fuel (listed.setIfInBounds i true) a w → K' a w) → if Region.wanted o (yielded ops a.tmps) = true then Oper.wp P o a w K' Q else K' (a.put o.dst undef) w) :
  wpAnyT P md ops Q S U (fuel + 1) listed a w := by
 refine ⟨fun h0 => absurd (hr ▸ h0) (by simp), fun j hj => ?_⟩
 rw [hr] at hj
 obtain rfl : j = i := by simpa using hj
 exact wpOp_step ho (fun K' hK => h K' (fun a w hW => hK a w ⟨(fun hc => absurd (hU.symm.trans hc) (by decide)), hW⟩))
theorem tkU (i : Nat) (d : Option Nat) {x1 x2 x3 x4 x5 : _} {fuel : Nat} {listed : Array Bool} {a : Act} {w : World} (hr : Region.ready md ops listed = [i] := by kernel_rfl) (hU : U.contains i = true := by decide) (ho : ops[i]? = some ⟨d, x1, x2, x3, x4, x5⟩ := by rfl) (h : ∀ K' : Act → World → Prop, Shut (∀ a w, wpAnyT P md ops Q S U fuel (listed.setIfInBounds i true) a w → K' a w) → if Region.wanted ⟨d, x1, x2, x3, x4, x5⟩ (yielded ops a.tmps) = true then Oper.wp P ⟨d, x1, x2, x3, x4, x5⟩ a w K' Q else K' (a.put d undef) w) : wpAnyT P md ops Q S U (fuel + 1) listed a w := wpAnyT_last hr hU ho h
def AllT (P : Program) (md : Region.Mode) (ops : Array Oper) (Q : Exit → Act → World → Prop) (S : World → Prop) (U : List Nat) (fuel : Nat) (listed : Array Bool) (a : Act) (w : World) (rs : List Nat) : Prop :=
 ∀ i ∈ rs, wpOp P ops Q i (fun a' w' => (U.contains i = false → S w') ∧ wpAnyT P md ops Q S U fuel (listed.setIfInBounds i true) a' w') a w
theorem AllT.nil {fuel : Nat} {listed : Array Bool} {a : Act} {w : World} : AllT P md ops Q S U fuel listed a w [] := fun _ h => by cases h
theorem AllT.cons {fuel : Nat} {listed : Array Bool} {a : Act} {w : World} {i : Nat} {o : Oper} {rs : List Nat} (ho : ops[i]? = some o)
  (h : ∀ K' : Act → World → Prop, Shut (∀ a w, S w → (S w → wpAnyT P md ops Q S U fuel (listed.setIfInBounds i true) a w) → K' a w) → if Region.wanted o (yielded ops a.tmps) = true then Oper.wp P o a w K' Q else K' (a.put o.dst undef) w)
  (hs : AllT P md ops Q S U fuel listed a w rs) : AllT P md ops Q S U fuel listed a w (i :: rs) := fun j hj => by
 rcases List.mem_cons.1 hj with rfl | hj
 ·exact wpOp_step ho (fun K' hK => h K' (fun a w hS hW => hK a w ⟨fun _ => hS, hW hS⟩))
 ·exact hs j hj
theorem wpAnyT_ready {rs : List Nat} {fuel : Nat} {listed : Array Bool} {a : Act} {w : World} (hr : Region.ready md ops listed = rs) (hne : rs ≠ [])
  (h : AllT P md ops Q S U fuel listed a w rs) : wpAnyT P md ops Q S U (fuel + 1) listed a w := ⟨fun h0 => absurd (hr ▸ h0) hne, hr ▸ h⟩
theorem yieldsIf_load_row {op : Oper} {a : Act} (hw : Region.wanted op (yielded ops a.tmps) = true) (ty : TypeId) (x : Operand) (ho : op.op = .load ty x)
  (X : Nat) (hx : a.eval x = .pointer (some ⟨X, 0, none⟩)) (c : Array Value) (T : TypeId) (fr : Nat × Nat) (d : TypeDesc) (hS : ∀ w, S w → w.heap[X]? = some (.cells c T fr))
  (hu : P.underlying ty = some d) (hd : d.isRow = true) (hi : (P.info? ty).map (·.size) = some c.size) : YieldsIf P ops S op (.agg c) a :=
 .inl ⟨hw, fun w hw' => by
  unfold execOp
  simp only [ho, hx, Instr.loadAt, Instr.sureAddr, Sem.run_bind, Sem.run_pure, Result.andThen_ok, run_loadVar_row w X T ty c fr d (hS w hw') hu (by cases d <;> simp_all [TypeDesc.isRow]) hi]⟩
end
end Go.Proofs.YtpodmgihlomglaaGreatDoor
