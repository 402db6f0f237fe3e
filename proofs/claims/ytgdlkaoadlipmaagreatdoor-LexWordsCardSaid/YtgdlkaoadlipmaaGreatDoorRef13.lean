/- The document's answer for lex: blanks, digits, what a text has at a place, the token of a number. -/
import Derived.Test.YtgdlkaoadlipmaaGreatDoorPkA
import Derived.Test.YtgdlkaoadlipmaaGreatDoorPkE
import Derived.Test.YtgdlkaoadlipmaaGreatDoorRef02Unquote
import Derived.Test.YtgdlkaoadlipmaaGreatDoorRef02Canon
import Derived.Handy
import Derived.Deep.Cut
import Derived.Test.YtgdlkaoadlipmaaGreatDoorPkC
namespace Go.Proofs.YtgdlkaoadlipmaaGreatDoor
open Go.RowKit
set_option linter.unusedSimpArgs false

def tokC (t : Tok) : Array Value := #[.int .i64 t.k, .int .i64 (t.a : Int), .int .i64 (t.e : Int), .int .i64 t.n, .string ⟨t.t.toArray⟩]
def tokV (t : Tok) : Value := .agg (tokC t)
def resV (q : Tok × Nat × Int) : Value := .tuple #[tokV q.1, .int .i64 (q.2.1 : Int), .int .i64 q.2.2]
def numT (l : List UInt8) (p : Nat) : Tok × Nat × Int :=
  let m := (l.drop (p + 1)).takeWhile digS
  let q := parseS ((l.drop p).take (m.length + 1))
  if q.2 = 0 then (⟨3, p, p + m.length + 1, q.1, []⟩, 0, 0) else (⟨0, 0, 0, 0, []⟩, p, q.2)
theorem ext_l (s : ByteArray) (a b : Nat) : (s.extract a b).data.toList = (s.data.toList.drop a).take (b - a) := by
  rw [ByteArray.data_extract, Array.toList_extract]
theorem pre_take (x l : List UInt8) : x.isPrefixOf l = (l.take x.length == x) := by
  rw [Bool.eq_iff_iff, List.isPrefixOf_iff_prefix, beq_iff_eq, List.prefix_iff_eq_take]
  exact ⟨fun h => h.symm, fun h => h.symm⟩
/-- The first bytes from a place on that are so, up to a place where they are not. -/
theorem tw_scan (f : UInt8 → Bool) (s : ByteArray) (p k : Nat) (h0 : p ≤ k) (h1 : k ≤ s.size) (ha : ∀ j (h : j < s.size), p ≤ j → j < k → f s[j] = true) (he : k = s.size ∨ ∃ h : k < s.size, f s[k] = false) :
    (s.data.toList.drop p).takeWhile f = (s.data.toList.drop p).take (k - p) ∧ ((s.data.toList.drop p).takeWhile f).length = k - p := by
  have hl : s.data.toList.length = s.size := len_bytes s
  have h : (s.data.toList.drop p).takeWhile f = (s.data.toList.drop p).take (k - p) := by
    have hs : s.data.toList.drop p = (s.data.toList.drop p).take (k - p) ++ s.data.toList.drop k := by
      conv => lhs; rw [← List.take_append_drop (k - p) (s.data.toList.drop p)]
      rw [List.drop_drop, show p + (k - p) = k by omega]
    have hall : ∀ c ∈ (s.data.toList.drop p).take (k - p), f c = true := fun c hc => by
      obtain ⟨j, hj, rfl⟩ := List.getElem_of_mem hc
      simp only [List.length_take, List.length_drop, hl] at hj
      rw [List.getElem_take, List.getElem_drop]
      exact ha (p + j) (by omega) (by omega) (by omega)
    conv => lhs; rw [hs]
    rw [List.takeWhile_append_of_pos hall]
    rcases he with rfl | ⟨h, hf⟩
    · rw [List.drop_eq_nil_of_le (show s.data.toList.length ≤ s.size by omega)]; simp
    · rw [List.drop_eq_getElem_cons (show k < s.data.toList.length by omega), List.takeWhile_cons, if_neg (by rw [show s.data.toList[k] = s[k] from rfl, hf]; decide), List.append_nil]
  exact ⟨h, by rw [h, List.length_take, List.length_drop, hl]; omega⟩
def numK (s : ByteArray) (p k : Nat) : Tok × Nat × Int :=
  if (parseS (s.extract p k).data.toList).2 = 0 then (⟨3, p, k, (parseS (s.extract p k).data.toList).1, []⟩, 0, 0) else (⟨0, 0, 0, 0, []⟩, p, (parseS (s.extract p k).data.toList).2)
theorem num_at (s : ByteArray) (p k : Nat) (_ : p < s.size) (h0 : p + 1 ≤ k) (h1 : k ≤ s.size) (ha : ∀ j (h : j < s.size), p + 1 ≤ j → j < k → digS s[j] = true) (he : k = s.size ∨ ∃ h : k < s.size, digS s[k] = false) : numT s.data.toList p = numK s p k := by
  obtain ⟨h2, h3⟩ := tw_scan digS s (p + 1) k h0 h1 ha he
  unfold numT numK
  simp only
  rw [h3, ext_l, show k - (p + 1) + 1 = k - p by omega, show p + (k - (p + 1)) + 1 = k by omega]
theorem ret_b13 {x y : Bool} (h : x = y) : Ending.returned (.bool x) = .returned (.bool y) := by rw [h]
theorem rf_Blank (c : UInt8) (w : World) : Calls Tryz.prog 6 #[.int .u8 (c.toNat : Int)] w fun e w' => e = .returned (.bool (blkS c)) ∧ w = w' := by
  go_enter Tryz.func6, Tryz.ntmps6
  go_wp2
  all_goals
    go_ret
    refine ⟨ret_b13 ?_, rfl⟩
    unfold blkS
    first
      | (rw [eq_comm, decide_eq_true_eq]; omega)
      | (rw [eq_comm, decide_eq_false_iff_not]; omega)
      | (rw [Bool.eq_iff_iff]; simp only [Bool.or_eq_true, beq_iff_eq, decide_eq_true_eq]; omega)
theorem tok_size : (Tryz.prog.info? 25).map (·.size) = some 5 := by kernel_rfl
end Go.Proofs.YtgdlkaoadlipmaaGreatDoor
