/- The contracts of package num's bytes: the eight bytes of a number, and the number of eight bytes. -/
import Derived.Test.YtjefaibnlhnaiaaNumText
import Derived.Handy
namespace Go.Proofs.Ytjefaibnlhnaiaa
open Go.RowKit
theorem Below.chain {w w1 w2 : World} (h1 : Below w.heap.size w w1) (h2 : Below w1.heap.size w1 w2) : Below w.heap.size w w2 := h1.trans (h2.mono h1.size)
theorem Below.drawn (w : World) : Below w.heap.size w w.drew := ⟨rfl, rfl, rfl, Nat.le_refl _, fun _ _ => rfl⟩
theorem Below.laid (w : World) (o : Obj) : Below w.heap.size w (w.alloc o) := (Below.refl _ _).alloc (Nat.le_refl _) o
def bt8 (v : Int) : UInt8 := UInt8.ofNat (v % 256).toNat
theorem bt8_toNat (v : Int) : ((bt8 v).toNat : Int) = v % 256 := by
  unfold bt8
  have h0 := Int.emod_nonneg v (show (256 : Int) ≠ 0 by decide)
  have h1 := Int.emod_lt_of_pos v (show (0 : Int) < 256 by decide)
  rw [UInt8.toNat_ofNat_of_lt' (by simp only [UInt8.size]; omega)]
  omega
theorem mk8 (w : World) : (Instr.makeSlice 41 (.int .i64 8) (.int .i64 8)).run Try.prog w = .ok (.slice (some ⟨w.heap.size, 0, none⟩) 8 8) (w.alloc (.cells #[.int .u8 0, .int .u8 0, .int .u8 0, .int .u8 0, .int .u8 0, .int .u8 0, .int .u8 0, .int .u8 0] 5)) := by kernel_rfl
theorem cv8 (w : World) (v0 v1 v2 v3 v4 v5 v6 v7 : Int) : (convert 41 9 (.slice (some ⟨w.heap.size, 0, none⟩) 8 8)).run Try.prog (w.alloc (.cells #[.int .u8 (v0 % 256), .int .u8 (v1 % 256), .int .u8 (v2 % 256), .int .u8 (v3 % 256), .int .u8 (v4 % 256), .int .u8 (v5 % 256), .int .u8 (v6 % 256), .int .u8 (v7 % 256)] 5)) =
    .ok (.string ⟨#[bt8 v0, bt8 v1, bt8 v2, bt8 v3, bt8 v4, bt8 v5, bt8 v6, bt8 v7]⟩) (w.alloc (.cells #[.int .u8 (v0 % 256), .int .u8 (v1 % 256), .int .u8 (v2 % 256), .int .u8 (v3 % 256), .int .u8 (v4 % 256), .int .u8 (v5 % 256), .int .u8 (v6 % 256), .int .u8 (v7 % 256)] 5)) := by
  refine run_convert_bytes_back (P := Try.prog) (w.alloc _) 41 9 5 ⟨w.heap.size, 0, none⟩ 8 [bt8 v0, bt8 v1, bt8 v2, bt8 v3, bt8 v4, bt8 v5, bt8 v6, bt8 v7] Try.underlying41 Try.underlying5 Try.underlying9 ?_
  intro j hj
  have hj' : j < 8 := hj
  match j, hj' with
  | 0, _ => simp [bt8_toNat, Addr.add]
  | 1, _ => simp [bt8_toNat, Addr.add]
  | 2, _ => simp [bt8_toNat, Addr.add]
  | 3, _ => simp [bt8_toNat, Addr.add]
  | 4, _ => simp [bt8_toNat, Addr.add]
  | 5, _ => simp [bt8_toNat, Addr.add]
  | 6, _ => simp [bt8_toNat, Addr.add]
  | 7, _ => simp [bt8_toNat, Addr.add]
def bytesS (n : Int) : List UInt8 := [bt8 ((n + 9223372036854775808) / 72057594037927936), bt8 ((n + 9223372036854775808) / 281474976710656), bt8 ((n + 9223372036854775808) / 1099511627776), bt8 ((n + 9223372036854775808) / 4294967296), bt8 ((n + 9223372036854775808) / 16777216), bt8 ((n + 9223372036854775808) / 65536), bt8 ((n + 9223372036854775808) / 256), bt8 (n + 9223372036854775808)]
theorem word_of (n : Int) (h : InR n) : IntKind.u64.wrap (IntKind.u64.wrap n + 9223372036854775808) = n + 9223372036854775808 := by
  rw [IntKind.wrap_u64, IntKind.wrap_u64]; unfold InR at h; omega
set_option maxHeartbeats 1000000 in
theorem num_Bytes (n : Int) (w : World) (hn : InR n) : Calls Try.prog 25 #[.int .i64 n] w fun e w' => e = .returned (.string ⟨(bytesS n).toArray⟩) ∧ Below w.heap.size w w' := by
  have hmk := mk8
  have hcv := cv8
  have hw := Lib.hid (word_of n hn)
  have hb : Hid (∀ o, Below w.heap.size w (w.alloc o)) := fun o => (Below.refl _ _).alloc (Nat.le_refl _) o
  go_enter Try.func25, Try.ntmps25
  go_wp2_with fail
  go_rounds 9
  go_wp2_with fail
  go_ret
  exact ⟨by unfold bytesS; rw [← hw.out]; rfl, hb.out _⟩

def orS (x : Int) (c : UInt8) : Int := bits .or .u64 (IntKind.u64.wrap (x * 256)) (IntKind.u64.wrap (c.toNat : Int))
def or0 (c : UInt8) : Int := bits .or .u64 0 (IntKind.u64.wrap (c.toNat : Int))
theorem u64_in (x : Int) (h0 : 0 ≤ x) (h1 : x < 18446744073709551616) : IntKind.u64.wrap x = x := by rw [IntKind.wrap_u64]; omega
theorem or_low (x : Int) (c : UInt8) (h0 : 0 ≤ x) (h1 : x < 72057594037927936) : bits .or .u64 (x * 256) (c.toNat : Int) = x * 256 + c.toNat := by
  have hc : c.toNat < 256 := c.toNat_lt
  refine bits_join .u64 64 (by decide) (fun n a b => u64_in n a (by simpa using b)) 8 _ _ (by omega) ?_ ?_ (by omega) ?_ ?_
  all_goals simp only [Int.reducePow]; omega
theorem orS_eq (x : Int) (c : UInt8) (h0 : 0 ≤ x) (h1 : x < 72057594037927936) : orS x c = x * 256 + c.toNat := by
  have hc : c.toNat < 256 := c.toNat_lt
  unfold orS
  rw [u64_in (x * 256) (by omega) (by omega), u64_in (c.toNat : Int) (by omega) (by omega), or_low x c h0 h1]
theorem or0_eq (c : UInt8) : or0 c = c.toNat := by
  have hc : c.toNat < 256 := c.toNat_lt
  unfold or0
  rw [u64_in (c.toNat : Int) (by omega) (by omega)]
  have := or_low 0 c (by omega) (by omega)
  simpa using this
/-- The number of these bytes, the highest one first. -/
def valS (l : List UInt8) : Int := l.foldl (fun n c => n * 256 + (c.toNat : Int)) 0
def unbytesS (l : List UInt8) : Int × Int := if l.length = 8 then (valS l - 9223372036854775808, 0) else (0, 2)
theorem or8 (c0 c1 c2 c3 c4 c5 c6 c7 : UInt8) :
    wrap64 (IntKind.u64.wrap (orS (orS (orS (orS (orS (orS (orS (or0 c0) c1) c2) c3) c4) c5) c6) c7 - 9223372036854775808)) = valS [c0, c1, c2, c3, c4, c5, c6, c7] - 9223372036854775808 := by
  have h0 : c0.toNat < 256 := c0.toNat_lt
  have h1 : c1.toNat < 256 := c1.toNat_lt
  have h2 : c2.toNat < 256 := c2.toNat_lt
  have h3 : c3.toNat < 256 := c3.toNat_lt
  have h4 : c4.toNat < 256 := c4.toNat_lt
  have h5 : c5.toNat < 256 := c5.toNat_lt
  have h6 : c6.toNat < 256 := c6.toNat_lt
  have h7 : c7.toNat < 256 := c7.toNat_lt
  rw [or0_eq, orS_eq _ c1 (by omega) (by omega), orS_eq _ c2 (by omega) (by omega), orS_eq _ c3 (by omega) (by omega), orS_eq _ c4 (by omega) (by omega),
    orS_eq _ c5 (by omega) (by omega), orS_eq _ c6 (by omega) (by omega), orS_eq _ c7 (by omega) (by omega)]
  simp only [valS, List.foldl_cons, List.foldl_nil]
  rw [IntKind.wrap_u64]
  unfold wrap64
  omega
theorem eight {α : Type} (l : List α) (h : l.length = 8) : ∃ a b c d e f g i, l = [a, b, c, d, e, f, g, i] := by
  match l, h with
  | [a, b, c, d, e, f, g, i], _ => exact ⟨a, b, c, d, e, f, g, i, rfl⟩
set_option maxHeartbeats 1000000 in
theorem num_Unbytes (s : ByteArray) (w : World) (hs : s.size ≤ maxLen) : Calls Try.prog 42 #[.string s] w fun e w' => e = .returned (.tuple #[.int .i64 (unbytesS s.data.toList).1, .int .i64 (unbytesS s.data.toList).2]) ∧ w = w' := by
  by_cases h : s.data.toList.length = 8
  · obtain ⟨c0, c1, c2, c3, c4, c5, c6, c7, hl⟩ := eight _ h
    obtain ⟨⟨l⟩⟩ := s
    simp only at hl
    subst hl
    have H : Hid (unbytesS [c0, c1, c2, c3, c4, c5, c6, c7] = (wrap64 (IntKind.u64.wrap (orS (orS (orS (orS (orS (orS (orS (or0 c0) c1) c2) c3) c4) c5) c6) c7 - 9223372036854775808)), 0)) := by
      show _ = _
      rw [or8]; rfl
    clear h hs
    go_enter Try.func42, Try.ntmps42
    go_wp2_with fail
    go_rounds 9
    go_ret2
    exact ⟨by rw [H.out]; rfl, rfl⟩
  · have H : Hid (unbytesS s.data.toList = (0, 2)) := if_neg h
    unfold maxLen at hs
    rw [len_toList] at h
    have h8 : ¬ (s.size : Int) = 8 := by omega
    have h9 : ((s.size : Int) != 8) = true := by rw [bne_iff_ne]; exact h8
    clear h
    go_enter Try.func42, Try.ntmps42
    go_wp2_with fail
    go_ret2
    exact ⟨by rw [H.out]; rfl, rfl⟩
end Go.Proofs.Ytjefaibnlhnaiaa
