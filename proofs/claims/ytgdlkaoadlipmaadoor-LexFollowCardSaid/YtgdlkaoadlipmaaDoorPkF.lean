/- Texts put together: Ref02Walks Ref02Quote Ref02Hex. -/
import Derived.Test.YtgdlkaoadlipmaaDoorPkC
import Derived.Test.YtgdlkaoadlipmaaDoorPkA
import Derived.LoopTactic
import Derived.WalkLawsBesides
import Derived.Handy
import Derived.Deep.QuietTactic
import Derived.BigQuiet
import Derived.Deep.RegionHeld3
import Derived.Deep.RegionWith
import Derived.IntWalk

/- The contracts of the document's own answers for layer 2. -/
namespace Go.Proofs.YtgdlkaoadlipmaaDoor
open Go.RowKit

/-- Nothing but draws. -/
def Drawn (w w' : World) : Prop := ∃ n, w' = w.drewN n
theorem Drawn.refl (w : World) : Drawn w w := ⟨0, rfl⟩
theorem Drawn.more {w w1 : World} (h : Drawn w w1) (n : Nat) : Drawn w (w1.drewN n) := by
  obtain ⟨k, rfl⟩ := h
  exact ⟨k + n, by rw [World.drewN_drewN]⟩
theorem Drawn.below {w w1 : World} (h : Drawn w w1) : Below w.heap.size w w1 := by
  obtain ⟨n, rfl⟩ := h
  exact ⟨rfl, rfl, rfl, Nat.le_refl _, fun _ _ => rfl⟩
theorem len_bytes (s : ByteArray) : s.data.toList.length = s.size := by simp
theorem take_bytes (s : ByteArray) (k : Nat) (h : k < s.size) : s.data.toList.take (k + 1) = s.data.toList.take k ++ [s[k]] := by
  rw [List.take_succ_eq_append_getElem (by simpa using h)]; rfl
theorem get_bytes (s : ByteArray) (k : Nat) (h : k < s.size) : s.data.toList[k]? = some s[k] := by
  rw [List.getElem?_eq_getElem (by simpa using h)]; rfl
theorem ret_nat {x y : Int} (h : x = y) : Ending.returned (.int .i64 x) = .returned (.int .i64 y) := by rw [h]


theorem order_bytes (a b : ByteArray) (k : Nat) (ht : a.data.toList.take k = b.data.toList.take k) (ha : k ≤ a.size) (hb : k ≤ b.size) :
    (k = a.size → k = b.size → orderS a.data.toList b.data.toList = 0) ∧ (k = a.size → ¬ k = b.size → orderS a.data.toList b.data.toList = -1) ∧ (¬ k = a.size → k = b.size → orderS a.data.toList b.data.toList = 1) ∧
    (∀ (h1 : k < a.size) (h2 : k < b.size), ((a[k].toNat : Int) < (b[k].toNat : Int) → orderS a.data.toList b.data.toList = -1) ∧ ((b[k].toNat : Int) < (a[k].toNat : Int) → orderS a.data.toList b.data.toList = 1)) := by
  obtain ⟨h1, h2, h3, h4⟩ := order_of a.data.toList b.data.toList k ht (by rw [len_bytes]; exact ha) (by rw [len_bytes]; exact hb)
  rw [len_bytes, len_bytes] at h1 h2 h3
  refine ⟨h1, h2, h3, fun g1 g2 => ?_⟩
  have := h4 (by rw [len_bytes]; exact g1) (by rw [len_bytes]; exact g2)
  exact ⟨fun h => this.1 (by rw [UInt8.lt_iff_toNat_lt]; show a[k].toNat < b[k].toNat; omega), fun h => this.2 (by rw [UInt8.lt_iff_toNat_lt]; show b[k].toNat < a[k].toNat; omega)⟩

end Go.Proofs.YtgdlkaoadlipmaaDoor

/- The contracts of the document's own quotes and digits. -/
namespace Go.Proofs.YtgdlkaoadlipmaaDoor
open Go.RowKit

theorem hxD_toNat (n : Nat) (h : n < 16) : ((hxD n).toNat : Int) = if n < 10 then 48 + (n : Int) else 87 + (n : Int) := by
  unfold hxD
  by_cases h1 : n < 10
  · rw [if_pos h1, if_pos h1, UInt8.toNat_ofNat_of_lt' (by simp only [UInt8.size]; omega)]; omega
  · rw [if_neg h1, if_neg h1, UInt8.toNat_ofNat_of_lt' (by simp only [UInt8.size]; omega)]; omega

theorem ret_u8 {x y : Int} (h : x = y) : Ending.returned (.int .u8 x) = .returned (.int .u8 y) := by rw [h]
theorem hval_t (c : UInt8) : ((hval c true : Nat) : Int) = if 48 ≤ (c.toNat : Int) ∧ (c.toNat : Int) ≤ 57 then (c.toNat : Int) - 48 else if 97 ≤ (c.toNat : Int) ∧ (c.toNat : Int) ≤ 102 then (c.toNat : Int) - 87 else if 65 ≤ (c.toNat : Int) ∧ (c.toNat : Int) ≤ 70 then (c.toNat : Int) - 55 else 16 := by
  simp only [hval, true_and]
  repeat' split
  all_goals omega
theorem hval_f (c : UInt8) : ((hval c false : Nat) : Int) = if 48 ≤ (c.toNat : Int) ∧ (c.toNat : Int) ≤ 57 then (c.toNat : Int) - 48 else if 97 ≤ (c.toNat : Int) ∧ (c.toNat : Int) ≤ 102 then (c.toNat : Int) - 87 else 16 := by
  simp only [hval, Bool.false_eq_true, false_and, if_false]
  repeat' split
  all_goals omega
set_option maxHeartbeats 1000000 in
theorem ref_value (c : UInt8) (great : Bool) (w : World) : Calls Tryd.prog 45 #[.int .u8 (c.toNat : Int), .bool great] w fun e w' => e = .returned (.int .u8 (hval c great : Nat)) ∧ w = w' := by
  have hc := c.toNat_lt
  cases great
  · have H := Lib.hid (hval_f c)
    go_enter Tryd.func45, Tryd.ntmps45
    go_wp2
    all_goals
      go_ret
      refine ⟨ret_u8 ?_, rfl⟩
      rw [H.out]
      first
        | (rw [if_pos (by omega)])
        | (rw [if_neg (by omega), if_pos (by omega)]; omega)
        | (rw [if_neg (by omega), if_neg (by omega)])
  · have H := Lib.hid (hval_t c)
    go_enter Tryd.func45, Tryd.ntmps45
    go_wp2
    all_goals
      go_ret
      refine ⟨ret_u8 ?_, rfl⟩
      rw [H.out]
      first
        | (rw [if_pos (by omega)])
        | (rw [if_neg (by omega), if_pos (by omega)]; omega)
        | (rw [if_neg (by omega), if_neg (by omega), if_pos (by omega)]; omega)
        | (rw [if_neg (by omega), if_neg (by omega), if_neg (by omega)])
theorem esc_self {c : UInt8} (h : (c.toNat : Int) = 34 ∨ (c.toNat : Int) = 92 ∨ (c.toNat : Int) = 47) : escS c = some c := if_pos (by omega)
theorem esc_n {c : UInt8} (h : (c.toNat : Int) = 110) : escS c = some 10 := by unfold escS; rw [if_neg (by omega), if_pos (by omega)]
theorem esc_t {c : UInt8} (h : (c.toNat : Int) = 116) : escS c = some 9 := by unfold escS; rw [if_neg (by omega), if_neg (by omega), if_pos (by omega)]
theorem esc_r {c : UInt8} (h : (c.toNat : Int) = 114) : escS c = some 13 := by unfold escS; rw [if_neg (by omega), if_neg (by omega), if_neg (by omega), if_pos (by omega)]
theorem esc_none {c : UInt8} (h : ¬ ((c.toNat : Int) = 34 ∨ (c.toNat : Int) = 92 ∨ (c.toNat : Int) = 47) ∧ ¬ (c.toNat : Int) = 110 ∧ ¬ (c.toNat : Int) = 116 ∧ ¬ (c.toNat : Int) = 114) : escS c = none := by
  unfold escS; rw [if_neg (by omega), if_neg (by omega), if_neg (by omega), if_neg (by omega)]
set_option maxHeartbeats 1000000 in
theorem ref_escape (c : UInt8) (w : World) : Calls Tryd.prog 44 #[.int .u8 (c.toNat : Int)] w fun e w' => e = .returned (.tuple #[.int .u8 (((escS c).getD 0).toNat : Int), .bool (escS c).isSome]) ∧ w = w' := by
  go_enter Tryd.func44, Tryd.ntmps44
  go_wp2
  all_goals
    go_ret2
    first
      | exact ⟨by rw [esc_self (by simp only [beq_iff_eq, beq_eq_false_iff_ne, ne_eq] at *; omega)]; rfl, rfl⟩
      | exact ⟨by rw [esc_n (by simp only [beq_iff_eq, beq_eq_false_iff_ne, ne_eq] at *; omega)]; rfl, rfl⟩
      | exact ⟨by rw [esc_t (by simp only [beq_iff_eq, beq_eq_false_iff_ne, ne_eq] at *; omega)]; rfl, rfl⟩
      | exact ⟨by rw [esc_r (by simp only [beq_iff_eq, beq_eq_false_iff_ne, ne_eq] at *; omega)]; rfl, rfl⟩
      | exact ⟨by rw [esc_none (by simp only [beq_eq_false_iff_ne, ne_eq] at *; omega)]; rfl, rfl⟩
/-- What a call that hands a list of bytes back ends in. -/
def GaveBuf (w : World) (l : List UInt8) (e : Ending) (w' : World) : Prop := ∃ v, e = .returned v ∧ Buf w.heap.size v l w' ∧ Below w.heap.size w w'
theorem one_mark {c : UInt8} (h : (c.toNat : Int) = 34 ∨ (c.toNat : Int) = 92) : oneS c = [92, c] := if_pos (by omega)
theorem one_10 {c : UInt8} (h : (c.toNat : Int) = 10) : oneS c = [92, 110] := by unfold oneS; rw [if_neg (by omega), if_pos (by omega)]
theorem one_9 {c : UInt8} (h : (c.toNat : Int) = 9) : oneS c = [92, 116] := by unfold oneS; rw [if_neg (by omega), if_neg (by omega), if_pos (by omega)]
theorem one_13 {c : UInt8} (h : (c.toNat : Int) = 13) : oneS c = [92, 114] := by unfold oneS; rw [if_neg (by omega), if_neg (by omega), if_neg (by omega), if_pos (by omega)]
theorem one_x {c : UInt8} (h : ¬ (c.toNat : Int) = 34 ∧ ¬ (c.toNat : Int) = 92 ∧ ¬ (c.toNat : Int) = 10 ∧ ¬ (c.toNat : Int) = 9 ∧ ¬ (c.toNat : Int) = 13 ∧ ((c.toNat : Int) < 32 ∨ 126 < (c.toNat : Int))) : oneS c = [92, 120, hxD (c.toNat / 16), hxD (c.toNat % 16)] := by
  unfold oneS; rw [if_neg (by omega), if_neg (by omega), if_neg (by omega), if_neg (by omega), if_pos (by omega)]
theorem one_c {c : UInt8} (h : ¬ (c.toNat : Int) = 34 ∧ ¬ (c.toNat : Int) = 92 ∧ ¬ (c.toNat : Int) = 10 ∧ ¬ (c.toNat : Int) = 9 ∧ ¬ (c.toNat : Int) = 13 ∧ ¬ ((c.toNat : Int) < 32 ∨ 126 < (c.toNat : Int))) : oneS c = [c] := by
  unfold oneS; rw [if_neg (by omega), if_neg (by omega), if_neg (by omega), if_neg (by omega), if_neg (by omega)]

theorem get_mem (s : ByteArray) (k : Nat) (h : k < s.size) : s.data.toList.drop k = s[k] :: s.data.toList.drop (k + 1) := by
  have h1 : k < s.data.toList.length := by rw [len_bytes]; exact h
  exact List.drop_eq_getElem_cons h1
theorem oneS_len (c : UInt8) : 1 ≤ (oneS c).length ∧ (oneS c).length ≤ 4 := by
  unfold oneS
  repeat' split
  all_goals simp
theorem flat_take (s : ByteArray) (f : UInt8 → List UInt8) (k : Nat) (h : k < s.size) : (s.data.toList.take (k + 1)).flatMap f = (s.data.toList.take k).flatMap f ++ f s[k] := by
  rw [take_bytes s k h, List.flatMap_append]; simp
theorem flat_len (f : UInt8 → List UInt8) (n : Nat) (hf : ∀ c, (f c).length ≤ n) (l : List UInt8) : (l.flatMap f).length ≤ n * l.length := by
  induction l with
  | nil => simp
  | cons c r ih =>
    have := hf c
    simp only [List.flatMap_cons, List.length_append, List.length_cons, Nat.mul_succ]
    omega
/-- A call that hands bytes back that may be appended. -/
def GaveRow (w : World) (l : List UInt8) (e : Ending) (w' : World) : Prop :=
  ∃ ad c, e = .returned (.slice (some ad) l.length c) ∧ (∀ j u, (bv l)[j]? = some u → w'.cell? (ad.add j) = some u) ∧ Below w.heap.size w w'
theorem GaveBuf.row {w w' : World} {l : List UInt8} {e : Ending} (h : GaveBuf w l e w') (hn : l ≠ []) : GaveRow w l e w' := by
  obtain ⟨v, rfl, hb, hl⟩ := h
  obtain ⟨ad, c, rfl, hc⟩ := hb.src hn
  exact ⟨ad, c, rfl, hc, hl⟩
theorem oneS_ne (c : UInt8) : oneS c ≠ [] := by have := oneS_len c; intro e; rw [e] at this; simp at this
theorem Below.go {B : Nat} {w w1 w2 : World} (h1 : Below B w w1) (hB : B ≤ w1.heap.size) (h2 : Below w1.heap.size w1 w2) : Below B w w2 := h1.trans (h2.mono hB)
end Go.Proofs.YtgdlkaoadlipmaaDoor

/- The contracts of the document's own hexadecimal digits. -/
namespace Go.Proofs.YtgdlkaoadlipmaaDoor
open Go.RowKit

theorem unhxS_drop (s : ByteArray) (k : Nat) (h : k + 1 < s.size) (out : List UInt8) : unhxS (s.data.toList.drop k) out =
    if 15 < hval s[k] false ∨ 15 < hval s[k + 1] false then ([], 2) else unhxS (s.data.toList.drop (k + 2)) (out ++ [UInt8.ofNat (16 * hval s[k] false + hval s[k + 1] false)]) := by
  rw [get_mem s k (by omega), get_mem s (k + 1) h]
  simp only [unhxS]
theorem hval_le (c : UInt8) (g : Bool) : hval c g ≤ 16 := by
  unfold hval
  repeat' split
  all_goals omega
theorem ref_value_back (c : UInt8) (great : Bool) (w : World) : Calls Tryd.prog 45 #[.int .u8 (c.toNat : Int), .bool great] w fun e w' => e = .returned (.int .u8 (hval c great : Nat)) ∧ w' = w :=
  (ref_value c great w).mono fun _ _ h => ⟨h.1, h.2.symm⟩
end Go.Proofs.YtgdlkaoadlipmaaDoor
