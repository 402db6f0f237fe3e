/- The contracts of package num's texts: digits, and the number of digits. -/
import Derived.Test.YtjefaibnlhnaiaaNumWalks
import Derived.LoopTactic
namespace Go.Proofs.Ytjefaibnlhnaiaa
open Go.RowKit

def dgt (c : UInt8) : Bool := decide (48 ≤ c.toNat ∧ c.toNat ≤ 57)
/-- One digit or more, without noughts in front. -/
def plainS (l : List UInt8) : Bool := !l.isEmpty && !(l.head? == some 48 && decide (1 < l.length)) && l.all dgt
/-- The number of these digits. -/
def numS (l : List UInt8) : Int := l.foldl (fun n c => 10 * n + ((c.toNat : Int) - 48)) 0
theorem numS_snoc (l : List UInt8) (c : UInt8) : numS (l ++ [c]) = 10 * numS l + ((c.toNat : Int) - 48) := by simp [numS]
theorem numS_nil : numS [] = 0 := rfl
theorem dgt_iff (c : UInt8) : dgt c = true ↔ 48 ≤ (c.toNat : Int) ∧ (c.toNat : Int) ≤ 57 := by unfold dgt; simp; omega
theorem take_snoc (s : ByteArray) (k : Nat) (h : k < s.size) : s.data.toList.take (k + 1) = s.data.toList.take k ++ [s[k]] := by
  rw [List.take_succ_eq_append_getElem (by simpa using h)]; rfl
theorem numS_grow (l : List UInt8) (h : l.all dgt = true) : ∀ n : Int, 0 ≤ n → n ≤ l.foldl (fun n c => 10 * n + ((c.toNat : Int) - 48)) n := by
  induction l with
  | nil => intro n _; exact Int.le_refl _
  | cons c r ih =>
    intro n hn
    simp only [List.all_cons, Bool.and_eq_true] at h
    have hc := (dgt_iff c).1 h.1
    simp only [List.foldl_cons]
    have := ih h.2 (10 * n + ((c.toNat : Int) - 48)) (by omega)
    omega
theorem numS_nn (l : List UInt8) (h : l.all dgt = true) : 0 ≤ numS l := numS_grow l h 0 (Int.le_refl _)
theorem numS_app (l r : List UInt8) (hl : l.all dgt = true) (h : r.all dgt = true) : numS l ≤ numS (l ++ r) := by
  unfold numS; rw [List.foldl_append]; exact numS_grow r h _ (numS_nn l hl)

theorem len_toList (s : ByteArray) : s.data.toList.length = s.size := by simp
theorem toList_empty (s : ByteArray) : s.toList.isEmpty = decide (s.size = 0) := by
  rw [ByteArray.toList_eq, ← len_toList]; cases s.data.toList <;> simp
theorem not_nil {s : ByteArray} (h : 0 < s.size) : ¬ s.toList = [] := by
  intro e
  have h1 := toList_empty s
  rw [e, decide_eq_false (by omega)] at h1
  cases h1

theorem head_get (s : ByteArray) (h : 0 < s.size) : s.data.toList.head? = some s[0] := by
  rw [List.head?_eq_getElem?]
  have : 0 < s.data.toList.length := by simpa using h
  rw [List.getElem?_eq_getElem this]; rfl
theorem plainS_of (s : ByteArray) (h : 0 < s.size) : plainS s.data.toList = (!((s[0].toNat == 48) && decide (1 < s.size)) && s.data.toList.all dgt) := by
  unfold plainS
  rw [head_get s h]
  have h1 : s.data.toList.isEmpty = false := by
    rw [← len_toList] at h; cases hl : s.data.toList with
    | nil => rw [hl] at h; simp at h
    | cons _ _ => rfl
  have h2 : (some s[0] == some (48 : UInt8)) = (s[0].toNat == 48) := by
    rw [Bool.eq_iff_iff]; simp
    constructor
    · intro e; rw [e]; rfl
    · intro e; exact UInt8.toNat_inj.1 e
  rw [h1, h2, len_toList]; simp


/-- What 'below' and 'signed' tell. -/
def belowS (l : List UInt8) : Int × Int := chk (-numS l)
def signedS (l : List UInt8) (neg : Bool) : Int × Int := if neg then chk (-numS l) else chk (numS l)



theorem signedS_t (l : List UInt8) : signedS l true = belowS l := rfl
theorem signedS_out (l : List UInt8) (h : l.all dgt = true) (h1 : ¬ InR (-numS l)) (n : Bool) : signedS l n = (0, 4) := by
  have := numS_nn l h
  cases n
  · exact chk_out fun h2 => h1 (by unfold InR at *; omega)
  · exact chk_out h1


/-- The number of any text, or what is wrong with it. -/
def parseS (l : List UInt8) : Int × Int :=
  match l with
  | [] => (0, 2)
  | c :: r => if c.toNat = 45 then (if r = [48] then (0, 2) else if plainS r = true then signedS r true else (0, 2)) else if plainS (c :: r) = true then signedS (c :: r) false else (0, 2)
theorem plainS_all {l : List UInt8} (h : plainS l = true) : l.all dgt = true := by
  unfold plainS at h; simp only [Bool.and_eq_true] at h; exact h.2
theorem cons_tail (s : ByteArray) (h : 0 < s.size) : s.data.toList = s[0] :: (s.extract 1 s.size).data.toList := by
  have h1 : (s.extract 1 s.size).data.toList = s.data.toList.drop 1 := by
    rw [ByteArray.data_extract, Array.toList_extract]
    simp
    exact List.take_of_length_le (by simp)
  rw [h1]
  have h2 : 0 < s.data.toList.length := by rw [len_toList]; exact h
  have h3 : s[0] = s.data.toList[0] := rfl
  rw [h3]
  have h4 := List.drop_eq_getElem_cons h2
  rw [List.drop_zero] at h4
  exact h4

end Go.Proofs.Ytjefaibnlhnaiaa
