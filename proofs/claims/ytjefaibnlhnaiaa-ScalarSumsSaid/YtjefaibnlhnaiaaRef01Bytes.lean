/- Layer 1: the document's own bytes; bytes are in the numbers' order; there and back. -/
import Derived.Test.YtjefaibnlhnaiaaNumBytes
import Derived.Test.YtjefaibnlhnaiaaRef01Walks
import Derived.WalkLawsBesides
namespace Go.Proofs.Ytjefaibnlhnaiaa
open Go.RowKit

/-- The number of these bytes, by weights. -/
def wS : List UInt8 → Int
  | [] => 0
  | c :: r => (c.toNat : Int) * 256 ^ r.length + wS r
theorem wS_bd (l : List UInt8) : 0 ≤ wS l ∧ wS l < 256 ^ l.length := by
  induction l with
  | nil => exact ⟨Int.le_refl _, by decide⟩
  | cons c r ih =>
    have hc : (c.toNat : Int) ≤ 255 := by have := c.toNat_lt; omega
    have hc0 : (0 : Int) ≤ (c.toNat : Int) := by omega
    have hp : (0 : Int) < 256 ^ r.length := Int.pow_pos (by decide)
    have h1 : (c.toNat : Int) * 256 ^ r.length ≤ 255 * 256 ^ r.length := Int.mul_le_mul_of_nonneg_right hc (Int.le_of_lt hp)
    have h2 : 0 ≤ (c.toNat : Int) * 256 ^ r.length := Int.mul_nonneg hc0 (Int.le_of_lt hp)
    simp only [wS, List.length_cons, Int.pow_succ]
    omega
theorem fold_wS (l : List UInt8) : ∀ n : Int, l.foldl (fun n c => n * 256 + (c.toNat : Int)) n = n * 256 ^ l.length + wS l := by
  induction l with
  | nil => intro n; simp [wS]
  | cons c r ih =>
    intro n
    simp only [List.foldl_cons, wS, List.length_cons, Int.pow_succ]
    rw [ih, Int.add_mul, Int.mul_assoc, Int.mul_comm 256]
    omega
theorem valS_eq (l : List UInt8) : valS l = wS l := by unfold valS; rw [fold_wS]; simp
theorem wS_step (c d : UInt8) (l r : List UInt8) (h : l.length = r.length) : (c.toNat < d.toNat → wS (c :: l) < wS (d :: r)) ∧ (c.toNat = d.toNat → (wS (c :: l) < wS (d :: r) ↔ wS l < wS r)) := by
  have h1 := wS_bd l
  have h2 := wS_bd r
  simp only [wS]
  rw [h] at h1 ⊢
  constructor
  · intro hcd
    have hp : (0 : Int) < 256 ^ r.length := Int.pow_pos (by decide)
    have h3 : ((c.toNat : Int) + 1) * 256 ^ r.length ≤ (d.toNat : Int) * 256 ^ r.length := Int.mul_le_mul_of_nonneg_right (by omega) (Int.le_of_lt hp)
    rw [Int.add_mul] at h3
    omega
  · intro hcd
    rw [hcd]; omega
/-- Of one length, texts are in the order of their numbers. -/
theorem lt_wS : ∀ (l r : List UInt8), l.length = r.length → (l < r ↔ wS l < wS r)
  | [], [], _ => by simp [wS]
  | [], _ :: _, h => by simp at h
  | _ :: _, [], h => by simp at h
  | c :: l, d :: r, h => by
    have h' : l.length = r.length := by simpa using h
    have hs := wS_step c d l r h'
    have hs2 := wS_step d c r l h'.symm
    rw [List.cons_lt_cons_iff, UInt8.lt_iff_toNat_lt, lt_wS l r h']
    constructor
    · rintro (h1 | ⟨rfl, h1⟩)
      · exact hs.1 h1
      · exact (hs.2 rfl).2 h1
    · intro h1
      rcases Nat.lt_trichotomy c.toNat d.toNat with h2 | h2 | h2
      · exact .inl h2
      · exact .inr ⟨UInt8.toNat_inj.1 h2, (hs.2 h2).1 h1⟩
      · have := hs2.1 h2; omega
theorem eq_wS : ∀ (l r : List UInt8), l.length = r.length → wS l = wS r → l = r
  | [], [], _, _ => rfl
  | [], _ :: _, h, _ => by simp at h
  | _ :: _, [], h, _ => by simp at h
  | c :: l, d :: r, h, he => by
    have h' : l.length = r.length := by simpa using h
    have hs := wS_step c d l r h'
    have hs2 := wS_step d c r l h'.symm
    rcases Nat.lt_trichotomy c.toNat d.toNat with h2 | h2 | h2
    · have := hs.1 h2; omega
    · have h3 : wS l = wS r := by
        simp only [wS] at he
        rw [h2, h'] at he; omega
      rw [UInt8.toNat_inj.1 h2, eq_wS l r h' h3]
    · have := hs2.1 h2; omega
theorem bytesS_len (n : Int) : (bytesS n).length = 8 := rfl
theorem bytesS_wS (n : Int) (h : InR n) : wS (bytesS n) = n + 9223372036854775808 := by
  unfold InR at h
  simp only [wS, bytesS, bt8_toNat, List.length_cons, List.length_nil, Nat.reduceAdd, Int.reducePow]
  omega
theorem bytesS_lt (a b : Int) (ha : InR a) (hb : InR b) : (bytesS a < bytesS b) ↔ a < b := by
  rw [lt_wS (bytesS a) (bytesS b) rfl, bytesS_wS a ha, bytesS_wS b hb]; omega
theorem unbytes_bytes (n : Int) (h : InR n) : unbytesS (bytesS n) = (n, 0) := by
  unfold unbytesS
  rw [if_pos (bytesS_len n), valS_eq, bytesS_wS n h]
  congr 1; omega
theorem unbytesS_in (l : List UInt8) : InR (unbytesS l).1 := by
  unfold unbytesS
  split
  · rename_i h
    have := wS_bd l
    rw [h] at this
    simp only [Int.reducePow] at this
    rw [valS_eq]; unfold InR; simp only; omega
  · unfold InR; simp only; omega
theorem bytes_unbytes (l : List UInt8) (h : (unbytesS l).2 = 0) : bytesS (unbytesS l).1 = l := by
  have hin := unbytesS_in l
  have h8 : l.length = 8 := by
    unfold unbytesS at h
    split at h
    · assumption
    · simp at h
  refine eq_wS _ _ (by rw [h8]; rfl) ?_
  rw [bytesS_wS _ hin]
  unfold unbytesS
  rw [if_pos h8, valS_eq]; simp only; omega

set_option maxHeartbeats 1000000 in
theorem ref_Bytes (n : Int) (w : World) (hn : InR n) : Calls Try.prog 27 #[.int .i64 n] w fun e w' => e = .returned (.string ⟨(bytesS n).toArray⟩) ∧ Below w.heap.size w w' := by
  have hmk := mk8
  have hcv := cv8
  have hw := Lib.hid (word_of n hn)
  have hb : Hid (∀ o, Below w.heap.size w (w.alloc o)) := fun o => (Below.refl _ _).alloc (Nat.le_refl _) o
  go_enter Try.func27, Try.ntmps27
  go_wp2_with fail
  go_rounds 9
  go_wp2_with fail
  go_ret
  exact ⟨by unfold bytesS; rw [← hw.out]; rfl, hb.out _⟩
def up0 (c : UInt8) : Int := IntKind.u64.wrap (IntKind.u64.wrap (c.toNat : Int))
def up2 (x : Int) (c : UInt8) : Int := IntKind.u64.wrap (IntKind.u64.wrap (256 * x) + IntKind.u64.wrap (c.toNat : Int))
theorem up2_eq (x : Int) (c : UInt8) (h0 : 0 ≤ x) (h1 : x < 72057594037927936) : up2 x c = x * 256 + c.toNat := by
  have hc : c.toNat < 256 := c.toNat_lt
  unfold up2
  rw [u64_in (256 * x) (by omega) (by omega), u64_in (c.toNat : Int) (by omega) (by omega), u64_in _ (by omega) (by omega)]
  omega
theorem up0_eq (c : UInt8) : up0 c = c.toNat := by
  have hc : c.toNat < 256 := c.toNat_lt
  unfold up0
  rw [u64_in (c.toNat : Int) (by omega) (by omega), u64_in (c.toNat : Int) (by omega) (by omega)]
theorem up8 (c0 c1 c2 c3 c4 c5 c6 c7 : UInt8) :
    wrap64 (IntKind.u64.wrap (up2 (up2 (up2 (up2 (up2 (up2 (up2 (up0 c0) c1) c2) c3) c4) c5) c6) c7 - 9223372036854775808)) = valS [c0, c1, c2, c3, c4, c5, c6, c7] - 9223372036854775808 := by
  have h0 : c0.toNat < 256 := c0.toNat_lt
  have h1 : c1.toNat < 256 := c1.toNat_lt
  have h2 : c2.toNat < 256 := c2.toNat_lt
  have h3 : c3.toNat < 256 := c3.toNat_lt
  have h4 : c4.toNat < 256 := c4.toNat_lt
  have h5 : c5.toNat < 256 := c5.toNat_lt
  have h6 : c6.toNat < 256 := c6.toNat_lt
  have h7 : c7.toNat < 256 := c7.toNat_lt
  rw [up0_eq, up2_eq _ c1 (by omega) (by omega), up2_eq _ c2 (by omega) (by omega), up2_eq _ c3 (by omega) (by omega), up2_eq _ c4 (by omega) (by omega),
    up2_eq _ c5 (by omega) (by omega), up2_eq _ c6 (by omega) (by omega), up2_eq _ c7 (by omega) (by omega)]
  simp only [valS, List.foldl_cons, List.foldl_nil]
  rw [IntKind.wrap_u64]
  unfold wrap64
  omega
set_option maxHeartbeats 1000000 in
theorem ref_Unbytes (s : ByteArray) (w : World) (hs : s.size ≤ maxLen) : Calls Try.prog 35 #[.string s] w fun e w' => e = .returned (.tuple #[.int .i64 (unbytesS s.data.toList).1, .int .i64 (unbytesS s.data.toList).2]) ∧ w = w' := by
  by_cases h : s.data.toList.length = 8
  · obtain ⟨c0, c1, c2, c3, c4, c5, c6, c7, hl⟩ := eight _ h
    obtain ⟨⟨l⟩⟩ := s
    simp only at hl
    subst hl
    have H : Hid (unbytesS [c0, c1, c2, c3, c4, c5, c6, c7] = (wrap64 (IntKind.u64.wrap (up2 (up2 (up2 (up2 (up2 (up2 (up2 (up0 c0) c1) c2) c3) c4) c5) c6) c7 - 9223372036854775808)), 0)) := by
      show _ = _
      rw [up8]; rfl
    clear h hs
    go_enter Try.func35, Try.ntmps35
    go_wp2_with fail
    go_rounds 9
    go_ret2
    exact ⟨by rw [H.out]; rfl, rfl⟩
  · have H : Hid (unbytesS s.data.toList = (0, 2)) := if_neg h
    unfold maxLen at hs
    rw [len_toList] at h
    have h8 : ¬ (s.size : Int) = 8 := by omega
    have h9 : ((s.size : Int) != 8) = true := by rw [bne_iff_ne]; exact h8
    clear h
    go_enter Try.func35, Try.ntmps35
    go_wp2_with fail
    go_ret2
    exact ⟨by rw [H.out]; rfl, rfl⟩
end Go.Proofs.Ytjefaibnlhnaiaa
