/- The document's answer for lex: how tokens are printed. (written by tools/gen13/ref13p.py) -/
import Derived.Test.YtgdlkaoadlipmaaDoorRef13S
import Derived.Test.YtgdlkaoadlipmaaDoorPkE
import Derived.Test.YtgdlkaoadlipmaaDoorPkF
import Derived.Lib.ItoaLen
import Derived.Deep.MidRow
namespace Go.Proofs.YtgdlkaoadlipmaaDoor
open Go.RowKit
set_option maxRecDepth 1000000
set_option linter.unusedSimpArgs false

/-- A token of any places. -/
structure TokI where
  k : Int
  a : Int
  e : Int
  n : Int
  t : ByteArray
def tiC (x : TokI) : Array Value := #[.int .i64 x.k, .int .i64 x.a, .int .i64 x.e, .int .i64 x.n, .string x.t]
/-- v is a list that reads as these tokens, wherever it lies. -/
def TiL (w : World) (v : Value) (l : List TokI) : Prop := ∃ (a : Option Addr) (c b o : Nat), v = .slice a l.length c ∧ l.length ≤ maxLen ∧ (0 < l.length → a = some ⟨b, o, none⟩) ∧ ∀ j (h : j < l.length), w.rangeAt b (o + j * 5) (tiC l[j]).toList
theorem TiL.later {w w' : World} {v : Value} {l : List TokI} (h : TiL w v l) (hb : Below w.heap.size w w') : TiL w' v l := by
  obtain ⟨a, c, b, o, h1, h2, h3, h4⟩ := h
  exact ⟨a, c, b, o, h1, h2, h3, fun j hj => rangeAt_later (h4 j hj) hb⟩
def Tok.i (t : Tok) : TokI := ⟨t.k, t.a, t.e, t.n, ⟨t.t.toArray⟩⟩
theorem TkL.ti {T : TypeId} {w : World} {v : Value} {l : List Tok} (h : TkL T w v l) : TiL w v (l.map Tok.i) := by
  obtain ⟨a, c, h1, h2, h3⟩ := h
  rcases Nat.eq_zero_or_pos l.length with h0 | h0
  · refine ⟨a, c, 0, 0, by rw [List.length_map]; exact h1, by rw [List.length_map]; exact h2, fun h => by rw [List.length_map] at h; omega, fun j h => by rw [List.length_map] at h; omega⟩
  · obtain ⟨g, cs, fr, rfl, h5, h6⟩ := h3 h0
    refine ⟨_, c, g, 0, by rw [List.length_map]; exact h1, by rw [List.length_map]; exact h2, fun _ => rfl, fun j hj => ?_⟩
    rw [List.length_map] at hj
    intro k u hu
    rw [Nat.zero_add]
    refine cell_in h5 (h6 j hj k u ?_)
    rw [← hu, List.getElem_map, Array.getElem?_toList]
    rfl
def prnI (x : TokI) : List UInt8 := if x.k = 1 ∨ x.k = 2 then x.t.data.toList else if x.k = 3 then Lib.itoa x.n else if x.k = 4 then quoteS x.t.data.toList else []
def joinI : List TokI → List UInt8
  | [] => []
  | [x] => prnI x
  | x :: y :: l => prnI x ++ 32 :: joinI (y :: l)
theorem joinI_snoc : ∀ (l : List TokI) (x : TokI), joinI (l ++ [x]) = (if l = [] then [] else joinI l ++ [32]) ++ prnI x
  | [], x => rfl
  | [a], x => by simp [joinI]
  | a :: b :: l, x => by
    have h := joinI_snoc (b :: l) x
    rw [if_neg (by simp)] at h
    show prnI a ++ 32 :: joinI (b :: l ++ [x]) = _
    rw [h, if_neg (by simp)]
    simp [joinI]
theorem joinI_step (l : List TokI) {j : Nat} (h : j < l.length) : joinI (l.take (j + 1)) = (if j = 0 then [] else joinI (l.take j) ++ [32]) ++ prnI l[j] := by
  rw [List.take_succ_eq_append_getElem h, joinI_snoc]
  by_cases h0 : j = 0
  · subst h0; simp
  · rw [if_neg h0, if_neg (fun e => by have := congrArg List.length e; rw [List.length_take] at this; simp only [List.length_nil] at this; omega)]
theorem joinI_le (l : List TokI) : ∀ (d j : Nat), j + d = l.length → (joinI (l.take j)).length ≤ (joinI l).length
  | 0, j, h => by rw [List.take_of_length_le (by omega)]; exact Nat.le_refl _
  | d + 1, j, h => by
    have h1 := joinI_le l d (j + 1) (by omega)
    rw [joinI_step l (show j < l.length by omega)] at h1
    by_cases h0 : j = 0
    · subst h0; simp [joinI]
    · rw [if_neg h0] at h1
      simp only [List.length_append] at h1
      omega
/-- With the token at j the text so far has no more than all. -/
theorem joinI_room (l : List TokI) {j : Nat} (h : j < l.length) : (joinI (l.take j)).length + 1 + (prnI l[j]).length ≤ (joinI l).length + 1 := by
  have h1 := joinI_le l (l.length - (j + 1)) (j + 1) (by omega)
  rw [joinI_step l h] at h1
  by_cases h0 : j = 0
  · subst h0; simp [joinI] at h1 ⊢; omega
  · rw [if_neg h0] at h1
    simp only [List.length_append, List.length_cons, List.length_nil] at h1
    omega
theorem ld_tk {ops : Array Oper} {rest : List Oper} {o : Oper} {a : Act} {w : World} {Q : Exit → Act → World → Prop} (hwd : Region.wanted o (yielded ops a.tmps) = true) (y : Operand) (ho : o.op = .load 24 y)
    (b k : Nat) (hx : a.eval y = .pointer (some ⟨b, k, none⟩)) (cs : Array Value) (hR : w.rangeAt b k cs.toList) (hs : cs.size = 5)
    (h : wpList Tryd.prog ops Q rest (a.put o.dst (.agg cs)) w) : wpList Tryd.prog ops Q (o :: rest) a w :=
  wpList_step fun _ hK => by
    rw [if_pos hwd]
    exact wp_load_mid 24 y ho b k hx _ _ hR Tryd.underlying24 rfl (by rw [tok_size, Array.length_toList, hs]) (hK _ _ h)
theorem cat_l (a b : ByteArray) : (a ++ b).data.toList = a.data.toList ++ b.data.toList := by rw [ByteArray.data_append, Array.toList_append]

end Go.Proofs.YtgdlkaoadlipmaaDoor
