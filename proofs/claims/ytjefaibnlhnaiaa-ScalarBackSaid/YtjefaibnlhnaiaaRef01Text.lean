/- Layer 1: the document's own digits, and its own reading of them. -/
import Derived.Test.YtjefaibnlhnaiaaTextPure
import Derived.Test.YtjefaibnlhnaiaaRef01Bytes
import Derived.Deep.RegionWith
import Derived.Handy
import Derived.Lib.ItoaLen
namespace Go.Proofs.Ytjefaibnlhnaiaa
open Go.RowKit

/-- A list of one byte as a text: by what its cell holds. -/
theorem old_cell {W w1 : World} (hb : Below W.heap.size W w1) (b o : Nat) (h : b < W.heap.size) : w1.cell? ⟨b, o, none⟩ = W.cell? ⟨b, o, none⟩ := hb.cell (p := ⟨b, o, none⟩) h
noncomputable def cv1X (w : World) (a : Addr) : Result Value := (convert 41 9 (.slice (some a) 1 1)).run Try.prog w
open Classical in
noncomputable def cv1 (w : World) (a : Addr) (c : Option Value) : Result Value := if ∃ v, 0 ≤ v ∧ v < 256 ∧ c = some (.int .u8 v) then
  match c with
  | some (.int .u8 v) => .ok (.string ⟨#[bt8 v]⟩) w
  | _ => cv1X w a
  else cv1X w a
theorem cv1_run (w : World) (a : Addr) : (convert 41 9 (.slice (some a) 1 1)).run Try.prog w = cv1 w a (w.cell? a) := by
  unfold cv1
  split
  · rename_i h
    obtain ⟨v, h0, h1, hc⟩ := h
    rw [hc]
    have := run_convert_bytes_back (P := Try.prog) w 41 9 5 a 1 [bt8 v] Try.underlying41 Try.underlying5 Try.underlying9 (fun j hj => by
      have hj' : j = 0 := by simp at hj; exact hj
      subst hj'
      rw [show a.add 0 = a from by simp [Addr.add], hc]
      simp [bt8_toNat]; omega)
    exact this
  · rfl
theorem cv1_at (w : World) (a : Addr) (v : Int) (h0 : 0 ≤ v) (h1 : v < 256) : cv1 w a (some (.int .u8 v)) = .ok (.string ⟨#[bt8 v]⟩) w := by
  unfold cv1
  rw [if_pos ⟨v, h0, h1, rfl⟩]

theorem bt8_dch (d : Nat) (h : d < 10) : bt8 (48 + (d : Int)) = dch d := by
  refine UInt8.toNat_inj.1 ?_
  have := bt8_toNat (48 + (d : Int))
  rw [dch_toNat d h]; omega

theorem itoa_small (n : Int) (h0 : 0 ≤ n) (h1 : n < 10) : Lib.itoa n = [bt8 (48 + n)] := by
  obtain ⟨d, rfl⟩ := Int.eq_ofNat_of_zero_le h0
  unfold Lib.itoa
  rw [if_neg (by omega), Int.toNat_natCast, dec_small d (by omega), bt8_dch d (by omega)]
theorem itoa_big (q r : Int) (h0 : 1 ≤ q) (h1 : 0 ≤ r) (h2 : r < 10) : Lib.itoa (10 * q + r) = Lib.itoa q ++ [bt8 (48 + r)] := by
  obtain ⟨k, rfl⟩ := Int.eq_ofNat_of_zero_le (show 0 ≤ q by omega)
  obtain ⟨d, rfl⟩ := Int.eq_ofNat_of_zero_le h1
  unfold Lib.itoa
  rw [if_neg (by omega), if_neg (by omega), show (10 * (k : Int) + (d : Int)).toNat = 10 * k + d by omega, Int.toNat_natCast, dec_big _ (by omega), bt8_dch d (by omega),
    show (10 * k + d) / 10 = k by omega, show (10 * k + d) % 10 = d by omega]
theorem itoa_neg (n : Int) (h : n < 0) : Lib.itoa n = 45 :: Lib.itoa (-n) := by
  unfold Lib.itoa
  rw [if_pos h, if_neg (by omega), show (-n).toNat = n.natAbs by omega]
theorem cat_mk (l r : List UInt8) : (⟨l.toArray⟩ : ByteArray) ++ ⟨r.toArray⟩ = ⟨(l ++ r).toArray⟩ := by
  apply ByteArray.ext
  simp [ByteArray.data_append]

end Go.Proofs.Ytjefaibnlhnaiaa
