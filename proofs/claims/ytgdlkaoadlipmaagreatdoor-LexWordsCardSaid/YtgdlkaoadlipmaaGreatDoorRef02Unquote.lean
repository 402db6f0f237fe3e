/- The contracts of the document's own reading of quotes, and of names. -/
import Derived.Test.YtgdlkaoadlipmaaGreatDoorPkF
namespace Go.Proofs.YtgdlkaoadlipmaaGreatDoor
open Go.RowKit

/-- The texts, places and errors that 'Unquote' hands back. -/
abbrev unqV (x : List UInt8 × Nat × Int) : Value := .tuple #[.string ⟨x.1.toArray⟩, .int .i64 (x.2.1 : Int), .int .i64 x.2.2]
/-- One byte that stands for itself. -/
theorem unqS_plain (s : ByteArray) (k : Nat) (h : k < s.size) (out : List UInt8) (h1 : ¬ (s[k].toNat : Int) = 34) (h2 : ¬ (s[k].toNat : Int) < 32) (h3 : ¬ (s[k].toNat : Int) = 92) :
    unqS (s.data.toList.drop k) k out = unqS (s.data.toList.drop (k + 1)) (k + 1) (out ++ [s[k]]) := by
  rw [get_mem s k h, unqS.eq_def]
  simp only
  rw [if_neg (by omega), if_neg (by omega), if_pos (by omega)]
theorem unqS_mark (s : ByteArray) (k : Nat) (h : k < s.size) (out : List UInt8) (h1 : (s[k].toNat : Int) = 34) : unqS (s.data.toList.drop k) k out = (out, k + 1, 0) := by
  rw [get_mem s k h, unqS.eq_def]
  simp only
  rw [if_pos (by omega)]
theorem unqS_low (s : ByteArray) (k : Nat) (h : k < s.size) (out : List UInt8) (h2 : (s[k].toNat : Int) < 32) : unqS (s.data.toList.drop k) k out = ([], k, 2) := by
  rw [get_mem s k h, unqS.eq_def]
  simp only
  rw [if_neg (by omega), if_pos (by omega)]
theorem unqS_end (s : ByteArray) (k : Nat) (h : s.size ≤ k) (out : List UInt8) : unqS (s.data.toList.drop k) k out = ([], k, 10) := by
  rw [List.drop_eq_nil_of_le (by rw [len_bytes]; exact h), unqS.eq_def]
/-- Behind a backslash. -/
theorem unqS_back (s : ByteArray) (k : Nat) (h : k < s.size) (out : List UInt8) (h1 : (s[k].toNat : Int) = 92) :
    unqS (s.data.toList.drop k) k out = (match s.data.toList.drop (k + 1) with
      | [] => ([], k + 1, 10)
      | d :: r =>
        if d.toNat ≠ 120 then (match escS d with
          | none => ([], k + 1, 2)
          | some x => unqS r (k + 2) (out ++ [x]))
        else match r with
          | [] => ([], k + 2, 10)
          | h1 :: r => if 15 < hval h1 true then ([], k + 2, 2) else match r with
            | [] => ([], k + 3, 10)
            | h2 :: r => if 15 < hval h2 true then ([], k + 3, 2) else unqS r (k + 4) (out ++ [UInt8.ofNat (16 * hval h1 true + hval h2 true)])) := by
  rw [get_mem s k h, unqS.eq_def]
  simp only
  rw [if_neg (by omega), if_neg (by omega), if_neg (by omega)]
  rfl
theorem drop_end (s : ByteArray) (k : Nat) (h : s.size ≤ k) : s.data.toList.drop k = [] := List.drop_eq_nil_of_le (by rw [len_bytes]; exact h)
theorem unqS_b0 (s : ByteArray) (k : Nat) (h : k < s.size) (out : List UInt8) (h1 : (s[k].toNat : Int) = 92) (he : s.size ≤ k + 1) : unqS (s.data.toList.drop k) k out = ([], k + 1, 10) := by
  rw [unqS_back s k h out h1, drop_end s (k + 1) he]
theorem unqS_b1 (s : ByteArray) (k : Nat) (h : k < s.size) (out : List UInt8) (h1 : (s[k].toNat : Int) = 92) (h' : k + 1 < s.size) (hx : ¬ (s[k + 1].toNat : Int) = 120) :
    unqS (s.data.toList.drop k) k out = (match escS s[k + 1] with | none => ([], k + 1, 2) | some x => unqS (s.data.toList.drop (k + 2)) (k + 2) (out ++ [x])) := by
  rw [unqS_back s k h out h1, get_mem s (k + 1) h']
  simp only
  rw [if_pos (by omega)]
theorem unqS_b2 (s : ByteArray) (k : Nat) (h : k < s.size) (out : List UInt8) (h1 : (s[k].toNat : Int) = 92) (h' : k + 1 < s.size) (hx : (s[k + 1].toNat : Int) = 120) (he : s.size ≤ k + 2) :
    unqS (s.data.toList.drop k) k out = ([], k + 2, 10) := by
  rw [unqS_back s k h out h1, get_mem s (k + 1) h']
  simp only
  rw [if_neg (by omega), drop_end s (k + 1 + 1) he]
theorem unqS_b3 (s : ByteArray) (k : Nat) (h : k < s.size) (out : List UInt8) (h1 : (s[k].toNat : Int) = 92) (h' : k + 2 < s.size) (hx : (s[k + 1].toNat : Int) = 120) (hv : 15 < hval s[k + 2] true) :
    unqS (s.data.toList.drop k) k out = ([], k + 2, 2) := by
  rw [unqS_back s k h out h1, get_mem s (k + 1) (by omega)]
  simp only
  rw [if_neg (by omega), get_mem s (k + 1 + 1) h']
  simp only
  rw [if_pos hv]
theorem unqS_b4 (s : ByteArray) (k : Nat) (h : k < s.size) (out : List UInt8) (h1 : (s[k].toNat : Int) = 92) (h' : k + 2 < s.size) (hx : (s[k + 1].toNat : Int) = 120) (hv : hval s[k + 2] true ≤ 15) (he : s.size ≤ k + 3) :
    unqS (s.data.toList.drop k) k out = ([], k + 3, 10) := by
  rw [unqS_back s k h out h1, get_mem s (k + 1) (by omega)]
  simp only
  rw [if_neg (by omega), get_mem s (k + 1 + 1) h']
  simp only
  rw [if_neg (by have : hval s[k + 1 + 1] true ≤ 15 := hv; omega), drop_end s (k + 1 + 1 + 1) he]
theorem unqS_b5 (s : ByteArray) (k : Nat) (h : k < s.size) (out : List UInt8) (h1 : (s[k].toNat : Int) = 92) (h' : k + 3 < s.size) (hx : (s[k + 1].toNat : Int) = 120) (hv : hval s[k + 2] true ≤ 15) :
    unqS (s.data.toList.drop k) k out = if 15 < hval s[k + 3] true then ([], k + 3, 2) else unqS (s.data.toList.drop (k + 4)) (k + 4) (out ++ [UInt8.ofNat (16 * hval s[k + 2] true + hval s[k + 3] true)]) := by
  rw [unqS_back s k h out h1, get_mem s (k + 1) (by omega)]
  simp only
  rw [if_neg (by omega), get_mem s (k + 1 + 1) (by omega)]
  simp only
  rw [if_neg (by have : hval s[k + 1 + 1] true ≤ 15 := hv; omega), get_mem s (k + 1 + 1 + 1) h']

end Go.Proofs.YtgdlkaoadlipmaaGreatDoor
