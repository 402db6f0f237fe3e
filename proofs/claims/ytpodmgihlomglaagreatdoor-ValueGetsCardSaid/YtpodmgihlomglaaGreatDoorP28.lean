import Derived.Test.YtpodmgihlomglaaGreatDoorP24
import Derived.Test.YtpodmgihlomglaaGreatDoorP26
import Derived.Test.YtpodmgihlomglaaGreatDoorP43
import Derived.Test.YtpodmgihlomglaaGreatDoorP29
import Derived.Deep.Slices
import Derived.Lib.SmallJoins
namespace Go.Proofs.YtpodmgihlomglaaGreatDoor
open Go.RowKit Go.ChangeShapes Go.WideShapes Go.ChangeAt
set_option maxRecDepth 1000000
theorem inr_wf {k : Int} (h : (Lit.int .i64 k).wf = true) : InR k := by
 have h2 := Bool.and_eq_true_iff.1 (show (decide (IntKind.i64.min ≤ k) && decide (k ≤ IntKind.i64.max)) = true from h)
 have h3 : (-9223372036854775808 : Int) ≤ k := of_decide_eq_true h2.1
 have h4 : k ≤ 9223372036854775807 := of_decide_eq_true h2.2
 unfold InR
 omega
section
variable {H : Type} {enc : TypeId × Value → H} {W : World} {sp : Nat → Bool} {held : Bool} {base : Nat}
theorem tx_trod {n : Nat} {cs : List Value} {x : DataW H × List MemPlace} (hf : DataW.trod enc Tryz.prog W base sp held n 25 cs = some x) : ∃ v l, cs = [v] ∧ TxV W v l := by
 rcases Go.Deep.open_slice Tryz.underlying25 hf with ⟨hcs, _⟩ | ⟨a, len, cap, m, n, D, Pl, hcs, _, hl, hm, hmm, _, hi⟩
 ·exact ⟨_, [], hcs, none, 0, 0, 0, rfl, fun h => absurd h (by simp), fun j h => absurd h (by simp), by simp⟩
 ·have h3 : Tryz.prog.cellsOf 9 = 1 := by kernel_rfl
  have hml : len ≤ m := by rw [hmm]; split <;> omega
  have hel : ∀ i, i < len → ∃ y : ByteArray, W.cell? (a.add (i * 1)) = some (.string y) := fun i hlt => by
   obtain ⟨cs', h1, h2⟩ := hi i (by omega)
   rw [h3] at h1
   obtain ⟨_, hl', hat⟩ := World.cells?_some h1
   obtain ⟨s, e, _, _⟩ := DataW.trod_string Tryz.underlying9 h2
   refine ⟨s, ?_⟩
   have h5 := hat 0 (by omega)
   rw [e] at h5
   rw [show (a.add (i * 1)).add 0 = a.add (i * 1) by simp [Addr.add]] at h5
   exact h5
  classical
  let f : Nat → ByteArray := fun i => if h : i < len then (hel i h).choose else ⟨#[]⟩
  have hspot : 0 < len → a.spot = none := fun h0 => by
   obtain ⟨y, hy⟩ := hel 0 h0
   have := World.cell?_spot hy
   simpa [Addr.add] using this
  refine ⟨_, (List.range len).map f, hcs, some a, cap, a.block, a.off, by simp, fun h0 => ?_, fun j hj => ?_, by simp; omega⟩
  ·have := hspot (by simpa using h0)
   obtain ⟨b, off, spot⟩ := a
   simp only at this
   subst this
   rfl
  ·have hj' : j < len := by simpa using hj
   have hs := hspot (by omega)
   have hf' : ((List.range len).map f)[j] = (hel j hj').choose := by simp [f, hj']
   rw [hf']
   have := (hel j hj').choose_spec
   rw [← this]
   obtain ⟨b, off, spot⟩ := a
   simp only at hs
   subst hs
   rw [show (⟨b, off, none⟩ : Addr).add (j * 1) = ⟨b, off + j, none⟩ by unfold Addr.add; split <;> simp_all]
theorem tr_trod : ∀ (z : Nat) (d : DataW H), SizeOf.sizeOf d ≤ z → ∀ (n : Nat) (cs : List Value) (ps : List MemPlace), DataW.trod enc Tryz.prog W base sp held n 28 cs = some (d, ps) → cs.length = 5 → ∃ a : Tr, TrV W a (.agg cs.toArray) := by
 intro z
 induction z with
 | zero => intro d hd; exfalso; cases d <;> simp at hd
 | succ z ih =>
  intro d hd n cs ps h hl5
  obtain ⟨xs, m, _, hx, _, hxl, hf⟩ := DataW.trod_struct Tryz.underlying28 h
  have c0 : Tryz.prog.cellsOf 3 = 1 := by kernel_rfl
  have c1 : Tryz.prog.cellsOf 2 = 1 := by kernel_rfl
  have c2 : Tryz.prog.cellsOf 9 = 1 := by kernel_rfl
  have c3 : Tryz.prog.cellsOf 25 = 1 := by kernel_rfl
  have c4 : Tryz.prog.cellsOf 26 = 1 := by kernel_rfl
  have c5 : Tryz.prog.cellsOf 28 = 5 := by kernel_rfl
  match cs, hl5 with
  | [v0, v1, v2, v3, v4], _ =>
   have hx5 : xs.length = 5 := hxl
   have f0 : DataW.trod enc Tryz.prog W base sp held m 3 (List.take (Tryz.prog.cellsOf 3) (List.drop 0 [v0, v1, v2, v3, v4])) = xs[0]? := hf 0 _ rfl
   have f1 : DataW.trod enc Tryz.prog W base sp held m 2 (List.take (Tryz.prog.cellsOf 2) (List.drop 1 [v0, v1, v2, v3, v4])) = xs[1]? := hf 1 _ rfl
   have f2 : DataW.trod enc Tryz.prog W base sp held m 9 (List.take (Tryz.prog.cellsOf 9) (List.drop 2 [v0, v1, v2, v3, v4])) = xs[2]? := hf 2 _ rfl
   have f3 : DataW.trod enc Tryz.prog W base sp held m 25 (List.take (Tryz.prog.cellsOf 25) (List.drop 3 [v0, v1, v2, v3, v4])) = xs[3]? := hf 3 _ rfl
   have f4 : DataW.trod enc Tryz.prog W base sp held m 26 (List.take (Tryz.prog.cellsOf 26) (List.drop 4 [v0, v1, v2, v3, v4])) = xs[4]? := hf 4 _ rfl
   rw [c0] at f0
   rw [c1] at f1
   rw [c2] at f2
   rw [c3] at f3
   rw [c4] at f4
   rw [List.getElem?_eq_getElem (by omega)] at f0 f1 f2 f3 f4
   obtain ⟨y0, e0, _, w0⟩ := DataW.trod_int Tryz.underlying3 f0
   obtain ⟨y1, e1, _, w1⟩ := DataW.trod_int Tryz.underlying2 f1
   obtain ⟨y2, e2, _, w2⟩ := DataW.trod_string Tryz.underlying9 f2
   obtain ⟨y3, l3, e3, w3⟩ := tx_trod f3
   obtain rfl : v0 = .int .i64 y0 := (List.cons.inj e0).1
   obtain rfl : v1 = .int .i64 y1 := (List.cons.inj e1).1
   obtain rfl : v2 = .string y2 := (List.cons.inj e2).1
   obtain rfl : v3 = y3 := (List.cons.inj e3).1
   have hsz : SizeOf.sizeOf xs[4].1 < SizeOf.sizeOf d := by
    have h1 : d = .agg (xs.map (·.1)) := (Prod.mk.inj hx).1
    have h2 : xs[4].1 ∈ xs.map (·.1) := List.mem_map_of_mem (List.getElem_mem _)
    have h3 := List.sizeOf_lt_of_mem h2
    rw [h1]
    simp only [DataW.agg.sizeOf_spec]
    omega
   rcases Go.Deep.open_slice Tryz.underlying26 f4 with ⟨hcs, _⟩ | ⟨a, len, cap, m', n', D, Pl, hcs, _, hl, hm, hmm, hx4, hi⟩
   ·obtain rfl : v4 = .slice none 0 0 := (List.cons.inj hcs).1
    refine ⟨.nd y0 y1 y2 l3 [], ?_⟩
    rw [TrV]
    exact ⟨v3, _, rfl, w2, inr_wf w0, inr_wf w1, w3, none, 0, 0, 0, rfl, fun h => absurd h (by simp), by simp, by rw [TrL]; trivial⟩
   ·obtain rfl : v4 = .slice (some a) len cap := (List.cons.inj hcs).1
    have hml : len ≤ m' := by rw [hmm]; split <;> omega
    have hD : ∀ i, i < len → SizeOf.sizeOf (D i) ≤ z := fun i hlt => by
     have h1 : xs[4].1 = .slice ((List.range len).map D) ((List.range (m' - len)).map fun j => D (len + j)) := by rw [hx4]
     have h2 : D i ∈ (List.range len).map D := List.mem_map_of_mem (List.mem_range.2 hlt)
     have h3 := List.sizeOf_lt_of_mem h2
     rw [h1] at hsz
     simp only [DataW.slice.sizeOf_spec] at hsz
     omega
    have hel : ∀ i, i < len → ∃ (y : Tr) (cs : Array Value), cs.size = 5 ∧ (∀ j u, cs.toList[j]? = some u → W.cell? ((a.add (i * 5)).add j) = some u) ∧ TrV W y (.agg cs) := fun i hlt => by
     obtain ⟨cs', h1, h2⟩ := hi i (by omega)
     rw [c5] at h1
     obtain ⟨_, hl', hat⟩ := World.cells?_some h1
     obtain ⟨y, hy⟩ := ih (D i) (hD i hlt) n' cs' _ h2 hl'
     refine ⟨y, cs'.toArray, by simpa using hl', fun j u hu => ?_, hy⟩
     have hu' : cs'[j]? = some u := by simpa using hu
     have hj : j < 5 := by have := (List.getElem?_eq_some_iff.1 hu').1; omega
     rw [hat j hj]
     exact hu'
    classical
    let f : Nat → Tr := fun i => if h : i < len then (hel i h).choose else nullT
    have hspot : 0 < len → a.spot = none := fun h0 => by
     obtain ⟨y, cs, h5, hy, _⟩ := hel 0 h0
     have := World.cell?_spot (hy 0 cs[0] (by simp))
     simpa [Addr.add] using this
    refine ⟨.nd y0 y1 y2 l3 ((List.range len).map f), ?_⟩
    rw [TrV]
    refine ⟨v3, _, rfl, w2, inr_wf w0, inr_wf w1, w3, some a, cap, a.block, a.off, by simp, fun h0 => ?_, by simp; omega, trL_of fun j hj => ?_⟩
    ·have := hspot (by simpa using h0)
     obtain ⟨b, off, spot⟩ := a
     simp only at this
     subst this
     rfl
    ·have hj' : j < len := by simpa using hj
     have hs := hspot (by omega)
     have hf' : ((List.range len).map f)[j] = (hel j hj').choose := by simp [f, hj']
     rw [hf']
     obtain ⟨cs, h5, hy, ht⟩ := (hel j hj').choose_spec
     refine ⟨cs, h5, fun k u hu => ?_, ht⟩
     have := hy k u hu
     rw [← this]
     obtain ⟨b, off, spot⟩ := a
     simp only at hs
     subst hs
     rw [show (⟨b, off, none⟩ : Addr).add (j * 5) = ⟨b, off + j * 5, none⟩ by unfold Addr.add; split <;> simp_all, show (⟨b, off + j * 5, none⟩ : Addr).add k = ⟨b, off + j * 5 + k, none⟩ by unfold Addr.add; split <;> simp_all]
end
end Go.Proofs.YtpodmgihlomglaaGreatDoor
namespace Go.Proofs.YtpodmgihlomglaaGreatDoor
open Go.RowKit Go.ChangeShapes Go.WideShapes Go.ChangeAt
set_option maxRecDepth 1000000
theorem laid11_drop {P : Program} {W : World} : ∀ (i : Nat) {l : List (String × DataW Unit)}, laidMet P l W → laidMet P (l.drop i) W
 | 0, _, h => by rw [List.drop_zero]; exact h
 | _ + 1, [], h => h
 | i + 1, _ :: _, h => laid11_drop i h.tail
theorem tab6_of_laid {W : World} (h : laidMetH Tryz.prog Rows.valueChecksRow.laid W) : Tab6 W := by
 rw [MakeChecks.laidMetH_plain _ _ _ (by kernel_rfl)] at h
 have ht : Lib.TabIs Tryz.prog W (Rows.valueChecksRow.named.getD 0 (String.ofList [])) .u8 (Lib.deBruijn32tab.map fun n : Nat => (n : Int)) :=
  Lib.tabIs_of_head (rest := Rows.valueChecksRow.laid.drop (0 + 1)) (g := 0) (t := 252) (e := 5) (n := 32) (by kernel_rfl) (by kernel_rfl) Tryz.underlying252 Tryz.underlying5 (by kernel_rfl) (by kernel_rfl) (laid11_drop 0 h)
 intro j hj
 have h1 := ht.cell (g := 0) (by kernel_rfl) j (by simpa [Lib.deBruijn32tab] using hj)
 rw [h1]
 congr 2
 rw [List.getD_eq_getElem?_getD, List.getD_eq_getElem?_getD, List.getElem?_map]
 cases Lib.deBruijn32tab[j]? <;> rfl
section
variable {H : Type} {enc : TypeId × Value → H} {W : World} {sp : Nat → Bool} {held : Bool} {r : Reach} {b0 base : Nat} {v : Value} {d : DataW H} {ps : List MemPlace}
theorem conf_open (hval : Value.okWide Tryz.prog W r b0 24 v) (hd : DataW.Trod enc Tryz.prog W base sp held 24 v d ps) :
  ∃ (s : Nat) (n : Int), v = .agg #[.int .u64 (s : Int), .int .i64 n] ∧ s < 18446744073709551616 := by
 obtain ⟨v0, v1, y0, y1, m, rfl, rfl, rfl, h0, h1⟩ := Go.Joins.open_agg2 Tryz.underlying24 (by kernel_rfl) (by kernel_rfl) hval hd
 obtain ⟨k, e0, rfl, w0⟩ := DataW.trod_int Tryz.underlying22 h0
 obtain ⟨n, e1, rfl, w1⟩ := DataW.trod_int Tryz.underlying3 h1
 simp only [List.cons.injEq, and_true] at e0 e1
 subst e0 e1
 have h2 := Bool.and_eq_true_iff.1 (show (decide (IntKind.u64.min ≤ k) && decide (k ≤ IntKind.u64.max)) = true from w0)
 have h3 : (0 : Int) ≤ k := of_decide_eq_true h2.1
 have h4 : k ≤ 18446744073709551615 := of_decide_eq_true h2.2
 exact ⟨k.toNat, n, by rw [Int.toNat_of_nonneg h3], by omega⟩
theorem step_open (hval : Value.okWide Tryz.prog W r b0 44 v) (hd : DataW.Trod enc Tryz.prog W base sp held 44 v d ps) :
  ∃ (k n : Int) (t : ByteArray), v = .agg #[.int .i64 k, .int .i64 n, .string t] ∧ InR k ∧ InR n ∧ t.size ≤ maxLen := by
 obtain ⟨v0, v1, v2, y0, y1, y2, m, rfl, rfl, rfl, h0, h1, h2⟩ := Go.Joins.open_agg3 Tryz.underlying44 (by kernel_rfl) (by kernel_rfl) hval hd
 obtain ⟨k, e0, rfl, w0⟩ := DataW.trod_int Tryz.underlying3 h0
 obtain ⟨n, e1, rfl, w1⟩ := DataW.trod_int Tryz.underlying3 h1
 obtain ⟨t, e2, rfl, w2⟩ := DataW.trod_string Tryz.underlying9 h2
 simp only [List.cons.injEq, and_true] at e0 e1 e2
 subst e0 e1 e2
 exact ⟨k, n, t, rfl, inr_wf w0, inr_wf w1, w2⟩
theorem tree_open (hval : Value.okWide Tryz.prog W r b0 28 v) (hd : DataW.Trod enc Tryz.prog W base sp held 28 v d ps) : ∃ a : Tr, TrV W a v := by
 obtain ⟨cs, rfl, hsz⟩ := okWide_struct Tryz.underlying28 hval
 obtain ⟨fuel, hf⟩ := hd
 have h5 : cs.size = 5 := hsz.trans (by kernel_rfl)
 obtain ⟨a, ha⟩ := tr_trod _ d (Nat.le_refl _) _ _ _ hf (by simpa [Value.cells] using h5)
 exact ⟨a, by simpa [Value.cells] using ha⟩
theorem list_open {α : Type} (z : α) {T e : TypeId} {c : Nat} (hc0 : 0 < c) {R : α → Addr → Prop} (ht : Tryz.prog.underlying T = some (.slice e)) (hc : Tryz.prog.cellsOf e = c)
  (hval : Value.okWide Tryz.prog W r b0 T v) (hd : DataW.Trod enc Tryz.prog W base sp held T v d ps)
  (hel : ∀ (n : Nat) (cs : List Value) (x : DataW H × List MemPlace) (a : Addr), W.cells? base a c = some cs → DataW.trod enc Tryz.prog W base sp held n e cs = some x → ∃ y, R y a) :
  ∃ (l : List α) (a : Option Addr) (cap b o : Nat), v = .slice a l.length cap ∧ (0 < l.length → a = some ⟨b, o, none⟩) ∧ (∀ j (hj : j < l.length), R l[j] ⟨b, o + j * c, none⟩) ∧ l.length ≤ maxLen := by
 obtain ⟨a0, len, cap, rfl⟩ := okWide_slice ht hval
 obtain ⟨fuel, hf⟩ := hd
 rcases Go.Deep.open_slice ht hf with ⟨hcs, _⟩ | ⟨a, len', cap', m, n, D, Pl, hcs, _, hl, hm, hmm, _, hi⟩
 ·simp [Value.cells] at hcs
  obtain ⟨rfl, rfl, rfl⟩ := hcs
  exact ⟨[], none, 0, 0, 0, rfl, fun h => absurd h (by simp), fun j h => absurd h (by simp), by simp⟩
 ·simp [Value.cells] at hcs
  obtain ⟨rfl, rfl, rfl⟩ := hcs
  have hml : len ≤ m := by rw [hmm]; split <;> omega
  have hel' : ∀ i, i < len → ∃ y : α, R y (a.add (i * c)) := fun i hlt => by
   obtain ⟨cs', h1, h2⟩ := hi i (by omega)
   rw [hc] at h1
   exact hel _ _ _ _ h1 h2
  classical
  let f : Nat → α := fun i => if h : i < len then (hel' i h).choose else z
  have hspot : 0 < len → a.spot = none := fun h0 => by
   obtain ⟨cs', h1, _⟩ := hi 0 (by omega)
   rw [hc] at h1
   obtain ⟨_, hl', hat⟩ := World.cells?_some h1
   have h2 := hat 0 hc0
   have h3 : cs'[0]? = some cs'[0] := List.getElem?_eq_getElem (by omega)
   rw [h3] at h2
   have := World.cell?_spot h2
   simpa [Addr.add] using this
  refine ⟨(List.range len).map f, some a, cap, a.block, a.off, by simp, fun h0 => ?_, fun j hj => ?_, by simp; omega⟩
  ·have := hspot (by simpa using h0)
   obtain ⟨b, off, spot⟩ := a
   simp only at this
   subst this
   rfl
  ·have hj' : j < len := by simpa using hj
   have hs := hspot (by omega)
   have hf' : ((List.range len).map f)[j] = (hel' j hj').choose := by simp [f, hj']
   rw [hf']
   have := (hel' j hj').choose_spec
   obtain ⟨y, hy⟩ : ∃ y, y = (hel' j hj').choose := ⟨_, rfl⟩
   rw [← hy] at this ⊢
   obtain ⟨b, off, spot⟩ := a
   simp only at hs
   subst hs
   rw [show (⟨b, off, none⟩ : Addr).add (j * c) = ⟨b, off + j * c, none⟩ by unfold Addr.add; split <;> simp_all] at this
   exact this
end
def BoolsAt (w : World) (v : Value) (l : List Bool) : Prop :=
 ∃ (a : Option Addr) (cap b o : Nat), v = .slice a l.length cap ∧ (0 < l.length → a = some ⟨b, o, none⟩) ∧ (∀ j (_ : j < l.length), w.cell? ⟨b, o + j, none⟩ = some (.bool l[j])) ∧ l.length ≤ maxLen
theorem bools_open {H : Type} {enc : TypeId × Value → H} {W : World} {sp : Nat → Bool} {held : Bool} {r : Reach} {b0 base : Nat} {v : Value} {d : DataW H} {ps : List MemPlace}
  (hval : Value.okWide Tryz.prog W r b0 73 v) (hd : DataW.Trod enc Tryz.prog W base sp held 73 v d ps) : ∃ l, BoolsAt W v l := by
 obtain ⟨l, a, cap, b, o, h1, h2, h3, h4⟩ := list_open (c := 1) false (by decide) (R := fun y p => W.cell? p = some (.bool y)) Tryz.underlying73 (by kernel_rfl) hval hd fun n cs x a h1 h2 => by
  obtain ⟨_, hl', hat⟩ := World.cells?_some h1
  obtain ⟨y, e, _⟩ := DataW.trod_bool Tryz.underlying4 h2
  have h5 := hat 0 (by omega)
  rw [e] at h5
  rw [show a.add 0 = a by simp [Addr.add]] at h5
  exact ⟨y, h5⟩
 exact ⟨l, a, cap, b, o, h1, h2, fun j hj => by simpa using h3 j hj, h4⟩
structure Op11 where
 d : Int
 a : Int
 b : Int
 sk : Int
 sn : Int
 st : ByteArray
 i : Int
 j : Int
 cs : Nat
 cb : Int
 t : Tr
abbrev op11C (y : Op11) (tc : List Value) : List Value := [.int .i64 y.d, .int .i64 y.a, .int .i64 y.b, .int .i64 y.sk, .int .i64 y.sn, .string y.st, .int .i64 y.i, .int .i64 y.j, .int .u64 (y.cs : Int), .int .i64 y.cb] ++ tc
def OpIn (W : World) (y : Op11) (a : Addr) : Prop := ∃ tc : Array Value, tc.size = 5 ∧ TrV W y.t (.agg tc) ∧ (∀ j u, (op11C y tc.toList)[j]? = some u → W.cell? (a.add j) = some u) ∧ y.cs < 18446744073709551616 ∧ InR y.a ∧ InR y.b ∧ InR y.sk ∧ InR y.sn ∧ InR y.i ∧ InR y.j ∧ y.st.size ≤ maxLen
def Ops11 (W : World) (v : Value) (l : List Op11) : Prop :=
 ∃ (a : Option Addr) (cap b o : Nat), v = .slice a l.length cap ∧ (0 < l.length → a = some ⟨b, o, none⟩) ∧ (∀ j (_ : j < l.length), OpIn W l[j] ⟨b, o + j * 15, none⟩) ∧ l.length ≤ maxLen
theorem ops11_open {H : Type} {enc : TypeId × Value → H} {W : World} {sp : Nat → Bool} {held : Bool} {r : Reach} {b0 base : Nat} {v : Value} {d : DataW H} {ps : List MemPlace}
  (hval : Value.okWide Tryz.prog W r b0 53 v) (hd : DataW.Trod enc Tryz.prog W base sp held 53 v d ps) : ∃ l, Ops11 W v l := by
 obtain ⟨l, a, cap, b, o, h1, h2, h3, h4⟩ := list_open (c := 15) (⟨0, 0, 0, 0, 0, ⟨#[]⟩, 0, 0, 0, 0, nullT⟩ : Op11) (by decide) (R := OpIn W) Tryz.underlying53 (by kernel_rfl) hval hd fun n cs x a hc h => by
  obtain ⟨_, hl, hat⟩ := World.cells?_some hc
  obtain ⟨xs, m, _, _, _, hxl, hf⟩ := DataW.trod_struct Tryz.underlying57 h
  have ci : Tryz.prog.cellsOf 3 = 1 := by kernel_rfl
  have ct : Tryz.prog.cellsOf 28 = 5 := by kernel_rfl
  have cc : Tryz.prog.cellsOf 24 = 2 := by kernel_rfl
  have cz : Tryz.prog.cellsOf 44 = 3 := by kernel_rfl
  have cu : Tryz.prog.cellsOf 22 = 1 := by kernel_rfl
  have cw : Tryz.prog.cellsOf 9 = 1 := by kernel_rfl
  match cs, hl with
  | [v0, v1, v2, v3, v4, v5, v6, v7, v8, v9, q0, q1, q2, q3, q4], _ =>
   have hx8 : xs.length = 8 := hxl
   have f0 : DataW.trod enc Tryz.prog W base sp held m 3 (List.take (Tryz.prog.cellsOf 3) (List.drop 0 [v0, v1, v2, v3, v4, v5, v6, v7, v8, v9, q0, q1, q2, q3, q4])) = xs[0]? := hf 0 _ rfl
   have f1 : DataW.trod enc Tryz.prog W base sp held m 3 (List.take (Tryz.prog.cellsOf 3) (List.drop 1 [v0, v1, v2, v3, v4, v5, v6, v7, v8, v9, q0, q1, q2, q3, q4])) = xs[1]? := hf 1 _ rfl
   have f2 : DataW.trod enc Tryz.prog W base sp held m 3 (List.take (Tryz.prog.cellsOf 3) (List.drop 2 [v0, v1, v2, v3, v4, v5, v6, v7, v8, v9, q0, q1, q2, q3, q4])) = xs[2]? := hf 2 _ rfl
   have f3 : DataW.trod enc Tryz.prog W base sp held m 44 (List.take (Tryz.prog.cellsOf 44) (List.drop 3 [v0, v1, v2, v3, v4, v5, v6, v7, v8, v9, q0, q1, q2, q3, q4])) = xs[3]? := hf 3 _ rfl
   have f4 : DataW.trod enc Tryz.prog W base sp held m 3 (List.take (Tryz.prog.cellsOf 3) (List.drop 6 [v0, v1, v2, v3, v4, v5, v6, v7, v8, v9, q0, q1, q2, q3, q4])) = xs[4]? := hf 4 _ rfl
   have f5 : DataW.trod enc Tryz.prog W base sp held m 3 (List.take (Tryz.prog.cellsOf 3) (List.drop 7 [v0, v1, v2, v3, v4, v5, v6, v7, v8, v9, q0, q1, q2, q3, q4])) = xs[5]? := hf 5 _ rfl
   have f6 : DataW.trod enc Tryz.prog W base sp held m 24 (List.take (Tryz.prog.cellsOf 24) (List.drop 8 [v0, v1, v2, v3, v4, v5, v6, v7, v8, v9, q0, q1, q2, q3, q4])) = xs[6]? := hf 6 _ rfl
   have f7 : DataW.trod enc Tryz.prog W base sp held m 28 (List.take (Tryz.prog.cellsOf 28) (List.drop 10 [v0, v1, v2, v3, v4, v5, v6, v7, v8, v9, q0, q1, q2, q3, q4])) = xs[7]? := hf 7 _ rfl
   rw [ci] at f0 f1 f2 f4 f5
   rw [cz] at f3
   rw [cc] at f6
   rw [ct] at f7
   rw [List.getElem?_eq_getElem (by omega)] at f0 f1 f2 f3 f4 f5 f6 f7
   obtain ⟨y0, e0, _, w0⟩ := DataW.trod_int Tryz.underlying3 f0
   obtain ⟨y1, e1, _, w1⟩ := DataW.trod_int Tryz.underlying3 f1
   obtain ⟨y2, e2, _, w2⟩ := DataW.trod_int Tryz.underlying3 f2
   obtain ⟨y6, e6, _, w6⟩ := DataW.trod_int Tryz.underlying3 f4
   obtain ⟨y7, e7, _, w7⟩ := DataW.trod_int Tryz.underlying3 f5
   have f3' : DataW.trod enc Tryz.prog W base sp held m 44 [v3, v4, v5] = some xs[3] := f3
   have f6' : DataW.trod enc Tryz.prog W base sp held m 24 [v8, v9] = some xs[6] := f6
   obtain ⟨ys, m3, _, _, _, hyl, hg⟩ := DataW.trod_struct Tryz.underlying44 f3'
   have hy3 : ys.length = 3 := hyl
   have g0 : DataW.trod enc Tryz.prog W base sp held m3 3 (List.take (Tryz.prog.cellsOf 3) (List.drop 0 [v3, v4, v5])) = ys[0]? := hg 0 _ rfl
   have g1 : DataW.trod enc Tryz.prog W base sp held m3 3 (List.take (Tryz.prog.cellsOf 3) (List.drop 1 [v3, v4, v5])) = ys[1]? := hg 1 _ rfl
   have g2 : DataW.trod enc Tryz.prog W base sp held m3 9 (List.take (Tryz.prog.cellsOf 9) (List.drop 2 [v3, v4, v5])) = ys[2]? := hg 2 _ rfl
   rw [ci] at g0 g1
   rw [cw] at g2
   rw [List.getElem?_eq_getElem (by omega)] at g0 g1 g2
   obtain ⟨y3, e3, _, w3⟩ := DataW.trod_int Tryz.underlying3 g0
   obtain ⟨y4, e4, _, w4⟩ := DataW.trod_int Tryz.underlying3 g1
   obtain ⟨y5, e5, _, w5⟩ := DataW.trod_string Tryz.underlying9 g2
   obtain ⟨zs, m6, _, _, _, hzl, hk⟩ := DataW.trod_struct Tryz.underlying24 f6'
   have hz2 : zs.length = 2 := hzl
   have k0 : DataW.trod enc Tryz.prog W base sp held m6 22 (List.take (Tryz.prog.cellsOf 22) (List.drop 0 [v8, v9])) = zs[0]? := hk 0 _ rfl
   have k1 : DataW.trod enc Tryz.prog W base sp held m6 3 (List.take (Tryz.prog.cellsOf 3) (List.drop 1 [v8, v9])) = zs[1]? := hk 1 _ rfl
   rw [cu] at k0
   rw [ci] at k1
   rw [List.getElem?_eq_getElem (by omega)] at k0 k1
   obtain ⟨y8, e8, _, w8⟩ := DataW.trod_int Tryz.underlying22 k0
   obtain ⟨y9, e9, _, w9⟩ := DataW.trod_int Tryz.underlying3 k1
   obtain ⟨tr, htr⟩ := tr_trod _ _ (Nat.le_refl _) _ _ _ f7 (by rfl)
   obtain rfl : v0 = .int .i64 y0 := (List.cons.inj e0).1
   obtain rfl : v1 = .int .i64 y1 := (List.cons.inj e1).1
   obtain rfl : v2 = .int .i64 y2 := (List.cons.inj e2).1
   obtain rfl : v3 = .int .i64 y3 := (List.cons.inj e3).1
   obtain rfl : v4 = .int .i64 y4 := (List.cons.inj e4).1
   obtain rfl : v5 = .string y5 := (List.cons.inj e5).1
   obtain rfl : v6 = .int .i64 y6 := (List.cons.inj e6).1
   obtain rfl : v7 = .int .i64 y7 := (List.cons.inj e7).1
   obtain rfl : v8 = .int .u64 y8 := (List.cons.inj e8).1
   obtain rfl : v9 = .int .i64 y9 := (List.cons.inj e9).1
   have h2 := Bool.and_eq_true_iff.1 (show (decide (IntKind.u64.min ≤ y8) && decide (y8 ≤ IntKind.u64.max)) = true from w8)
   have h3 : (0 : Int) ≤ y8 := of_decide_eq_true h2.1
   have h4 : y8 ≤ 18446744073709551615 := of_decide_eq_true h2.2
   refine ⟨⟨y0, y1, y2, y3, y4, y5, y6, y7, y8.toNat, y9, tr⟩, #[q0, q1, q2, q3, q4], rfl, htr, fun j u hu => ?_, by show y8.toNat < _; omega, inr_wf w1, inr_wf w2, inr_wf w3, inr_wf w4, inr_wf w6, inr_wf w7, w5⟩
   have hu' : [Value.int .i64 y0, .int .i64 y1, .int .i64 y2, .int .i64 y3, .int .i64 y4, .string y5, .int .i64 y6, .int .i64 y7, .int .u64 y8, .int .i64 y9, q0, q1, q2, q3, q4][j]? = some u := by
    rw [← hu]
    simp only [op11C, Int.toNat_of_nonneg h3]
    rfl
   have hj : j < 15 := by have := (List.getElem?_eq_some_iff.1 hu').1; simpa using this
   rw [hat j hj]
   exact hu'
 exact ⟨l, a, cap, b, o, h1, h2, h3, h4⟩
end Go.Proofs.YtpodmgihlomglaaGreatDoor
namespace Go.Proofs.YtpodmgihlomglaaGreatDoor
open Go.RowKit
set_option maxRecDepth 1000000
set_option linter.unusedSimpArgs false
def trueT : Tr := .nd 1 1 ⟨#[]⟩ [] []
def pairT : Tr := .nd 4 0 ⟨#[]⟩ [] [nullT, trueT]
theorem key_trueT : keyT trueT = [2, 1] := by
 unfold trueT
 rw [keyT, if_pos (by decide)]
 decide
theorem key_nullT : keyT nullT = [1] := by
 unfold nullT
 rw [keyT, if_pos (by decide)]
 decide
theorem kB_pair : kB pairT = ⟨#[5, 1, 2, 1, 0]⟩ := by
 unfold kB pairT
 rw [keyT, if_neg (by decide), keyL, keyL, keyL, key_nullT, key_trueT]
 rfl
theorem dep_pair : depT pairT = 2 := by
 unfold pairT nullT trueT
 simp [depT, depL]
theorem nod_pair : nodT pairT = 3 := by
 unfold pairT nullT trueT
 simp [nodT, nodL]
theorem can_null : canT nullT = nullT := by
 unfold nullT
 rw [canT, if_neg (by decide), if_neg (by decide), canL]
theorem can_true : canT trueT = trueT := by
 unfold trueT
 rw [canT, if_neg (by decide), if_neg (by decide), canL]
theorem can_pair : canT pairT = pairT := by
 unfold pairT
 rw [canT, if_neg (by decide), if_neg (by decide), canL, canL, canL, can_null, can_true]
theorem ok_true : OkT trueT := by
 unfold trueT
 rw [OkT, OkL]
 exact ⟨own_ok.2 (.inl ⟨by decide, by decide, by decide, rfl, rfl⟩), trivial, fun h => absurd h (by decide)⟩
theorem ok_null : OkT nullT := by
 unfold nullT
 rw [OkT, OkL]
 exact ⟨own_ok.2 (.inl ⟨by decide, by decide, by decide, rfl, rfl⟩), trivial, fun h => absurd h (by decide)⟩
theorem ok_pair : OkT pairT := by
 unfold pairT
 rw [OkT, OkL, OkL, OkL]
 exact ⟨own_ok.2 (.inr ⟨rfl, rfl, .inl ⟨rfl, rfl⟩⟩), ⟨ok_null, ok_true, trivial⟩, fun h => absurd h (by decide)⟩
theorem chk_pair : chkT pairT = 0 := chkT_ok.2 ⟨ok_pair, by rw [dep_pair]; decide, by rw [nod_pair]; decide⟩
theorem rng_pair : RngT pairT := by
 unfold pairT nullT trueT
 rw [RngT, RngL, RngL, RngL, RngT, RngT, RngL]
 exact ⟨by decide, ⟨by decide, trivial⟩, ⟨by decide, trivial⟩, trivial⟩
theorem txt_pair (B : Nat) : TxtT B pairT := by
 unfold pairT nullT trueT
 rw [TxtT, TxtL, TxtL, TxtL, TxtT, TxtT, TxtL]
 exact ⟨Nat.zero_le _, by simp, ⟨Nat.zero_le _, by simp, trivial⟩, ⟨Nat.zero_le _, by simp, trivial⟩, trivial⟩
theorem few_pair (B : Nat) : FewT B pairT := by
 unfold pairT nullT trueT
 rw [FewT, FewL, FewL, FewL, FewT, FewT, FewL]
 exact ⟨Nat.zero_le _, ⟨Nat.zero_le _, trivial⟩, ⟨Nat.zero_le _, trivial⟩, trivial⟩
theorem val_pair : ValB pairT := by
 refine ⟨⟨?_, by rw [dep_pair]; decide, by rw [nod_pair]; decide⟩, txt_pair _⟩
 have h := can_good pairT ok_pair rng_pair
 rw [can_pair] at h
 exact h
theorem get_pair : getT pairT 0 1 ⟨#[]⟩ = (trueT, 0) := by
 unfold getT fitT atT pairT
 simp [Tr.k, Tr.xs]
theorem short_txt (a : Tr) : ShortT a → TxtT 200 a := by
 induction a using tr_ind with
 | h k n t ks xs ih =>
  intro h
  rw [ShortT, shortL_iff] at h
  exact txtT_iff.2 ⟨h.1, h.2.1, fun x hx => ih x hx (h.2.2 x hx)⟩
theorem txt_more {B C : Nat} (hBC : B ≤ C) (a : Tr) : TxtT B a → TxtT C a := by
 induction a using tr_ind with
 | h k n t ks xs ih =>
  intro h
  obtain ⟨h1, h2, h3⟩ := txtT_iff.1 h
  exact txtT_iff.2 ⟨Nat.le_trans h1 hBC, fun y hy => Nat.le_trans (h2 y hy) hBC, fun x hx => ih x hx (h3 x hx)⟩
theorem sm_few (M : Nat) (a : Tr) : ∀ d l, (smT a d l).2 = true → l + 50 ≤ M → FewT M a := by
 induction a using tr_ind with
 | h k n t ks xs ih =>
  intro d l h hM
  rw [smT] at h
  split at h
  ·cases h
  split at h
  ·cases h
  rename_i hc _
  have hL : ∀ (ys : List Tr), (∀ x ∈ ys, ∀ d l, (smT x d l).2 = true → l + 50 ≤ M → FewT M x) → ∀ d l, (smL ys d l).2 = true → l + 50 ≤ M → ∀ x ∈ ys, FewT M x := by
   intro ys
   induction ys with
   | nil => intro _ _ _ _ _ x hx; cases hx
   | cons y ys ihy =>
    intro hy d l h hM
    rw [smL] at h
    split at h
    ·rename_i h1
     have h2 := sm_true y d l h1
     intro x hx
     rcases List.mem_cons.1 hx with rfl | hx
     ·exact hy _ (List.mem_cons_self ..) d l h1 hM
     ·exact ihy (fun z hz => hy z (List.mem_cons_of_mem _ hz)) d _ h (by omega) x hx
    ·cases h
  refine fewT_iff.2 ⟨?_, hL xs (fun x hx => ih x hx) (d + 1) (l - 1) h (by omega)⟩
  show ks.length ≤ M
  omega
theorem txV_nil (w : World) : TxV w (.slice none 0 0) [] := ⟨none, 0, 0, 0, rfl, fun h => absurd h (by decide), fun j h => absurd h (by simp), by decide⟩
theorem trV_leaf (w : World) {k n : Int} (hk : InR k) (hn : InR n) : TrV w (.nd k n ⟨#[]⟩ [] []) (.agg (trC k n ⟨#[]⟩ (.slice none 0 0) (.slice none 0 0))) := by
 rw [TrV]
 exact ⟨_, _, rfl, by decide, hk, hn, txV_nil w, none, 0, 0, 0, rfl, fun h => absurd h (by decide), by decide, by rw [TrL]; trivial⟩
theorem tr_size9 : (Tryz.prog.info? 28).map (·.size) = some 5 := by kernel_rfl
set_option maxHeartbeats 8000000 in
theorem lw_pair (w : World) : Calls Tryz.prog 39 #[] w fun e w' => ∃ c, e = .returned (.agg c) ∧ TrV w' pairT (.agg c) ∧ Below w.heap.size w w' := by
 obtain ⟨w1, hw1⟩ : ∃ w1, w.alloc (.cells #[.int .i64 0, .int .i64 0, .string ⟨#[]⟩, .slice none 0 0, .slice none 0 0] 28) = w1 := ⟨_, rfl⟩
 obtain ⟨hb1, hr1, hs1⟩ := new_below hw1
 have HR1 := Lib.hid hr1
 have HB1 := Lib.hid hb1
 have HS1 := Lib.hid hs1
 clear hr1 hb1 hs1
 go_enter Tryz.func39, Tryz.ntmps39
 go_upto_region 1 with fail
 clear hw1
 have hb2 : Below w1.heap.size w1 (w1.alloc (.cells #[.int .i64 0, .int .i64 0, .string ⟨#[]⟩, .slice none 0 0, .slice none 0 0, .int .i64 1, .int .i64 1, .string ⟨#[]⟩, .slice none 0 0, .slice none 0 0] 28)) := Below.newly' _ _
 have HRA := Lib.hid (kW hb2 HR1.out)
 have HX2 := Lib.hid (heap_alloc_last w1 (.cells #[.int .i64 0, .int .i64 0, .string ⟨#[]⟩, .slice none 0 0, .slice none 0 0, .int .i64 1, .int .i64 1, .string ⟨#[]⟩, .slice none 0 0, .slice none 0 0] 28))
 have HB2 := Lib.hid hb2
 clear hb2
 go_wp2_with (first
  | (refine st_agg rfl 28 _ _ rfl w.heap.size (trC 4 0 ⟨#[]⟩ (.slice none 0 0) (.slice (some ⟨w1.heap.size, 0, none⟩) 2 2)) rfl rfl 28 _ HRA.out tr_size9 rfl (by simp [Value.oneCell']) ?_; intro w9 h9 k9))
 have hs1 := HS1.out
 have hx9 := k9.other HX2.out (by omega)
 refine bodyPost_ret (results_cell_row rfl _ _ (w.heap.size) 28 _ (0, 0) _ rfl h9 Tryz.underlying28 rfl tr_size9) rfl ⟨_, rfl, ?_, (tW HB1.out HB2.out).trans (k9.below (by omega))⟩
 unfold pairT
 rw [TrV]
 refine ⟨_, _, rfl, by decide, by decide, by decide, txV_nil _, some ⟨w1.heap.size, 0, none⟩, 2, w1.heap.size, 0, rfl, fun _ => rfl, by simp; decide, ?_⟩
 rw [TrL, TrL, TrL]
 refine ⟨⟨_, rfl, ?_, trV_leaf _ (k := 0) (n := 0) (by decide) (by decide)⟩, ⟨_, rfl, ?_, trV_leaf _ (k := 1) (n := 1) (by decide) (by decide)⟩, trivial⟩
 ·intro j u hu
  refine cell_in hx9 ?_
  match j, hu with
  | 0, hu => exact hu
  | 1, hu => exact hu
  | 2, hu => exact hu
  | 3, hu => exact hu
  | 4, hu => exact hu
  | j + 5, hu => simp at hu
 ·intro j u hu
  refine cell_in hx9 ?_
  match j, hu with
  | 0, hu => exact hu
  | 1, hu => exact hu
  | 2, hu => exact hu
  | 3, hu => exact hu
  | 4, hu => exact hu
  | j + 5, hu => simp at hu
end Go.Proofs.YtpodmgihlomglaaGreatDoor
namespace Go.Proofs.YtpodmgihlomglaaGreatDoor
open Go.ChangeShapes Go.WideShapes Go.ChangeAt Go.RowKit
open Go.ChangeMaps (open_string)
section
variable {H : Type} {enc : TypeId × Value → H} {P : Program}
theorem trodAll_after (hl : laidOutB P = true) {W W' : World} (hb : Below W.heap.size W W') : ∀ {ts : List TypeId} {vs : List Value} {ds : List (DataW H)} {ps : List MemPlace},
  (ts.all fun t => P.readableRec t && decide (t < P.types.size)) = true → DataW.TrodAll enc P W 0 (fun _ => true) true ts vs ds ps → (∀ x ∈ ps, x.block < W.heap.size) →
  DataW.TrodAll enc P W' 0 (fun b => decide (b < W.heap.size)) true ts vs ds ps
 | [], _, _, _, _, h, _ => by
  obtain ⟨rfl, rfl, rfl⟩ := trodAll_nil h
  exact trodAll_mk0
 | t :: ts, _, _, _, ht, h, hlt => by
  obtain ⟨v, vs, d, ds, p, q, rfl, rfl, rfl, h1, h2⟩ := trodAll_cons h
  simp only [List.all_cons, Bool.and_eq_true, decide_eq_true_eq] at ht
  refine trodAll_cons_mk (Below.trod hl ht.1.1 ht.1.2 h1 hb fun x hx => hlt x (List.mem_append_left _ hx)) (trodAll_after hl hb ?_ h2 fun x hx => hlt x (List.mem_append_right _ hx))
  simpa using ht.2
theorem law_post {f : Func} {s : ChangeSpec} {W W' : World} {args : Array Value} {ds : List (DataW H)} {before : List MemPlace} {T : TypeId} (hl : laidOutB P = true)
  (hrows : (f.params.toList.all fun t => P.readableRec t && decide (t < P.types.size)) = true) (hv : s.vars = []) (hfn : s.fn H (ds ++ []) = { results := [.lit (.bool true)], args := ds })
  (hr : f.resultTypes = #[T]) (hT : P.underlying T = some .bool) (hW : DataW.Whole enc P f.params.toList s.vars false W args.toList ds [] before) (hb : Below W.heap.size W W') :
  s.post enc P f false true false false W args (.bool true) W' := by
 have hlt := hW.lt
 have hW' := hW
 obtain ⟨p, q, hA, hV, rfl, _, _⟩ := hW'
 rw [hv] at hV
 obtain ⟨_, rfl⟩ := trodVars_none hV
 simp only [List.append_nil] at hlt
 refine ⟨ds, [], p ++ [], [], p, [], hW, ?_, ?_, ?_, hb.frame _, fun h => by cases h⟩
 ·rw [hfn, hr]; exact trodAll_mk1 (shut_bool hT _)
 ·rw [hfn]; exact trodAll_after hl hb hrows hA hlt
 ·rw [hfn, hv]; rfl
end
theorem own : ownKnob Tryz.prog.godebug = none := by kernel_rfl
theorem laid_out : laidOutB Tryz.prog = true := by kernel_rfl
theorem laid_drop {P : Program} {W : World} : ∀ (i : Nat) {l : List (String × DataW Unit)}, laidMet P l W → laidMet P (l.drop i) W
 | 0, _, h => by rw [List.drop_zero]; exact h
 | _ + 1, [], h => h
 | i + 1, _ :: _, h => laid_drop i h.tail
end Go.Proofs.YtpodmgihlomglaaGreatDoor
namespace Go.Proofs.YtpodmgihlomglaaGreatDoor
open Go.RowKit Go.Shelf
set_option maxRecDepth 1000000
set_option linter.unusedSimpArgs false
theorem two_below (w : World) (c d : Array Value) (T U : TypeId) : Below w.heap.size w ((w.alloc (.cells c T)).alloc (.cells d U)) := (Below.newly' _ _).trans ((Below.newly' _ _).mono (by simp))
theorem sameL_drop {xs ys : List Tr} {j : Nat} (hx : j < xs.length) (hy : j < ys.length) : sameL (xs.drop j) (ys.drop j) = (sameT xs[j] ys[j] && sameL (xs.drop (j + 1)) (ys.drop (j + 1))) := by
 rw [List.drop_eq_getElem_cons hx, List.drop_eq_getElem_cons hy, sameL]
theorem all_eq_take {ks ks' : List ByteArray} (hl : ks'.length = ks.length) (h : ∀ j (h1 : j < ks.length), ks[j] = ks'[j]'(by omega)) : ks = ks' := List.ext_getElem hl.symm fun j h1 _ => h j h1
set_option maxHeartbeats 8000000 in
theorem rf_Same (a : Tr) : ∀ (b : Tr) (v v' : Value) (w : World), TrV w a v → TrV w b v' → Calls Tryz.prog 20 #[v, v'] w fun e w' => e = .returned (.bool (sameT a b)) ∧ Below w.heap.size w w' := by
 induction a using tr_ind with
 | h k n t ks xs ih =>
  intro b v v' w hv hv'
  obtain ⟨k', n', t', ks', xs'⟩ := b
  obtain ⟨kv, xv, rfl, ht, _, _, ⟨kd, kcap, kb1, ko, rfl, k1, k2, k3⟩, ad, cap, bb, oo, rfl, h1, hmax, h2⟩ := hv.open'
  obtain ⟨kv', xv', rfl, ht', _, _, ⟨kd', kcap', kb2, ko', rfl, k1', k2', k3'⟩, ad', cap', bb', oo', rfl, h1', hmax', h2'⟩ := hv'.open'
  have hn := trivial
  obtain ⟨R, hR⟩ : ∃ R, R = sameT (.nd k n t ks xs) (.nd k' n' t' ks' xs') := ⟨_, rfl⟩
  have hneq : (Tr.nd k n t ks xs ≠ .nd k' n' t' ks' xs') → R = false := fun h => by rw [hR]; exact Bool.eq_false_iff.2 fun h' => h ((same_iff _ _).1 h')
  rw [← hR]
  by_cases c1 : k = k'
  case neg =>
   obtain rfl := hneq fun h => c1 (by rw [Tr.nd.injEq] at h; exact h.1)
   clear ih hv hv' k1 k2 h1 h2 k1' k2' h1' h2' hn hneq hR
   go_enter Tryz.func20, Tryz.ntmps20
   go_wp2_with fail
   go_ret
   exact ⟨rfl, two_below w _ _ _ _⟩
  subst c1
  by_cases c2 : n = n'
  case neg =>
   obtain rfl := hneq fun h => c2 (by rw [Tr.nd.injEq] at h; exact h.2.1)
   clear ih hv hv' k1 k2 h1 h2 k1' k2' h1' h2' hn hneq hR
   go_enter Tryz.func20, Tryz.ntmps20
   go_wp2_with fail
   go_ret
   exact ⟨rfl, two_below w _ _ _ _⟩
  subst c2
  have qt : (t.toList == t.toList) = true := beq_self_eq_true _
  by_cases c3 : t = t'
  case neg =>
   obtain rfl := hneq fun h => c3 (by rw [Tr.nd.injEq] at h; exact h.2.2.1)
   have c3' : ¬ t.toList = t'.toList := fun h => c3 (by rw [ByteArray.toList_eq, ByteArray.toList_eq] at h; exact ByteArray.ext (Array.toList_inj.1 h))
   clear ih hv hv' k1 k2 h1 h2 k1' k2' h1' h2' hn hneq hR
   go_enter Tryz.func20, Tryz.ntmps20
   go_wp2_with fail
   go_ret
   exact ⟨rfl, two_below w _ _ _ _⟩
  subst c3
  by_cases c4 : ks'.length = ks.length
  case neg =>
   obtain rfl := hneq fun h => c4 (by rw [Tr.nd.injEq] at h; rw [h.2.2.2.1])
   have c4' : ¬ (ks.length : Int) = (ks'.length : Int) := by omega
   clear ih hv hv' k1 k2 h1 h2 k1' k2' h1' h2' hn hneq hR
   go_enter Tryz.func20, Tryz.ntmps20
   go_wp2_with fail
   go_ret
   exact ⟨rfl, two_below w _ _ _ _⟩
  by_cases c5 : xs'.length = xs.length
  case neg =>
   obtain rfl := hneq fun h => c5 (by rw [Tr.nd.injEq] at h; rw [h.2.2.2.2])
   have c5' : ¬ (xs.length : Int) = (xs'.length : Int) := by omega
   rw [c4]
   clear ih hv hv' k1 k2 h1 h2 k1' k2' h1' h2' hn hneq hR
   go_enter Tryz.func20, Tryz.ntmps20
   go_wp2_with fail
   go_ret
   exact ⟨rfl, two_below w _ _ _ _⟩
  obtain ⟨w1, hw1⟩ : ∃ w1, (w.alloc (.cells (trC k n t (.slice kd ks.length kcap) (.slice ad xs.length cap)) 28)).alloc (.cells (trC k n t (.slice kd' ks.length kcap') (.slice ad' xs.length cap')) 28) = w1 := ⟨_, rfl⟩
  rw [c4, c5]
  obtain ⟨hb1, hx1, hy1, hs1⟩ := two_new hw1
  have hm63 : (xs.length : Int) ≤ 9223372036854775807 := by unfold maxLen at hmax; omega
  have km63 : (ks.length : Int) ≤ 9223372036854775807 := by unfold maxLen at k3; omega
  have HB1 := Lib.hid hb1
  have HX1 := Lib.hid hx1
  have HY1 := Lib.hid hy1
  have HIH := Lib.hid ih
  have HLO := Lib.hid h1
  have HLC := Lib.hid h2
  have HLO' := Lib.hid h1'
  have HLC' := Lib.hid h2'
  have HKO := Lib.hid k1
  have HKC := Lib.hid k2
  have HKO' := Lib.hid k1'
  have HKC' := Lib.hid k2'
  have HL4 := Lib.hid c4
  have HL5 := Lib.hid c5
  have hR2 : (ks = ks' → R = sameL xs xs') ∧ (ks ≠ ks' → R = false) := by
   refine ⟨fun h => ?_, fun h => hneq fun h' => h (by rw [Tr.nd.injEq] at h'; exact h'.2.2.2.1)⟩
   subst h
   rw [hR, sameT]
   simp [Tr.k, Tr.n, Tr.t, Tr.ks, Tr.xs]
  clear hneq
  have HR := Lib.hid hR2
  have cx3 : w1.cell? ⟨w.heap.size, 3, none⟩ = some (.slice kd ks.length kcap) := cell_in hx1 rfl
  have cx0 : w1.cell? ⟨w.heap.size, 0, none⟩ = some (.int .i64 k) := cell_in hx1 rfl
  have cx1 : w1.cell? ⟨w.heap.size, 1, none⟩ = some (.int .i64 n) := cell_in hx1 rfl
  have cx2 : w1.cell? ⟨w.heap.size, 2, none⟩ = some (.string t) := cell_in hx1 rfl
  have cx4 : w1.cell? ⟨w.heap.size, 4, none⟩ = some (.slice ad xs.length cap) := cell_in hx1 rfl
  have cy3 : w1.cell? ⟨w.heap.size + 1, 3, none⟩ = some (.slice kd' ks.length kcap') := cell_in hy1 rfl
  have cy0 : w1.cell? ⟨w.heap.size + 1, 0, none⟩ = some (.int .i64 k) := cell_in hy1 rfl
  have cy1 : w1.cell? ⟨w.heap.size + 1, 1, none⟩ = some (.int .i64 n) := cell_in hy1 rfl
  have cy2 : w1.cell? ⟨w.heap.size + 1, 2, none⟩ = some (.string t) := cell_in hy1 rfl
  have cy4 : w1.cell? ⟨w.heap.size + 1, 4, none⟩ = some (.slice ad' xs.length cap') := cell_in hy1 rfl
  clear ih hv hv' h1 h2 k1 k2 h1' h2' k1' k2' hn hR hR2 hx1 hy1 hb1 hs1 c4 c5
  go_enter Tryz.func20, Tryz.ntmps20
  go_upto_region 1 with fail
  clear hw1
  go_wp2_with fail
  clear cx0 cx1 cx2 cx3 cx4 cy0 cy1 cy2 cy3 cy4
  go_loopw [5, 47] (fun c i wl => ∃ j : Nat, j ≤ ks.length ∧ i = .int .i64 (j : Int) ∧ (∃ c' : Value, c' = c) ∧ Hid (∀ (q : Nat) (h1 : q < j) (h2 : q < ks.length) (h3 : q < ks'.length), ks[q] = ks'[q]) ∧ Below w1.heap.size w1 wl) (fun _ i _ => ks.length - (intOf i).toNat)
  case atStart => exact ⟨0, Nat.zero_le _, rfl, ⟨_, rfl⟩, (fun q h => absurd h (Nat.not_lt_zero q)), Below.refl _ _⟩
  case round =>
   obtain ⟨j, hj, rfl, _, HT, hb⟩ := hrel
   have HB := Lib.hid hb
   clear hb
   have cx3 : wr.cell? ⟨w.heap.size, 3, none⟩ = some (.slice kd ks.length kcap) := cell_in (kW HB.out HX1.out) rfl
   have cy3 : wr.cell? ⟨w.heap.size + 1, 3, none⟩ = some (.slice kd' ks.length kcap') := cell_in (kW HB.out HY1.out) rfl
   by_cases hlt : j < ks.length
   ·have hlt' : (j : Int) < (ks.length : Int) := by omega
    have i0 : (0 : Int) ≤ (j : Int) := by omega
    have hlt2 : j < ks'.length := by rw [HL4.out]; exact hlt
    have had : kd = some ⟨kb1, ko, none⟩ := HKO.out (by omega)
    have had' : kd' = some ⟨kb2, ko', none⟩ := HKO'.out (by omega)
    subst had had'
    have hc := HKC.out j hlt
    have hc' := HKC'.out j hlt2
    have hbw := tW HB1.out HB.out
    replace hc := (hbw.cell (World.block_lt_of_cell? w _ hc)).trans hc
    replace hc' := (hbw.cell (World.block_lt_of_cell? w _ hc')).trans hc'
    obtain ⟨y, hy⟩ : ∃ y, y = ks[j] := ⟨_, rfl⟩
    obtain ⟨y', hy'⟩ : ∃ y', y' = ks'[j] := ⟨_, rfl⟩
    rw [← hy] at hc
    rw [← hy'] at hc'
    have HYY := Lib.hid (And.intro hy hy')
    clear hbw hy hy'
    by_cases e : y = y'
    ·subst e
     have qy : (y.toList == y.toList) = true := beq_self_eq_true _
     go_wp2_with (go_quiet (fail))
     go_roundw
     case rel =>
      refine ⟨j + 1, by omega, by go_num, ⟨_, rfl⟩, ?_, HB.out.trans ((Below.drewMany (Below.refl _ _) _).mono HB.out.size)⟩
      show ∀ (q : Nat) (h1 : q < j + 1) (h2 : q < ks.length) (h3 : q < ks'.length), ks[q] = ks'[q]
      intro q h1 h2 h3
      rcases Nat.lt_or_ge q j with h | h
      ·exact HT.out q h h2 h3
      ·obtain rfl : q = j := by omega
       rw [← HYY.out.1, ← HYY.out.2]
     case measure => simp [intOf]; omega
    ·have hne : (y.toList == y'.toList) = false := beq_eq_false_iff_ne.2 fun h => e (by rw [ByteArray.toList_eq, ByteArray.toList_eq] at h; exact ByteArray.ext (Array.toList_inj.1 h))
     have hf : ¬ ks = ks' := fun h => e (by rw [HYY.out.1, HYY.out.2]; simp [h])
     obtain rfl : R = false := HR.out.2 hf
     clear hf e
     go_wp2_with (go_quiet (fail))
     go_ret
     exact ⟨rfl, HB1.out.trans ((HB.out.trans ((Below.drewMany (Below.refl _ _) _).mono HB.out.size)).mono HB1.out.size)⟩
   ·obtain rfl : j = ks.length := by omega
    have hks : ks = ks' := all_eq_take HL4.out fun q h1 => HT.out q h1 h1 (by have := HL4.out; omega)
    have HR2 : Hid (R = sameL xs xs') := HR.out.1 hks
    clear hks HT HR cx3 cy3
    have cx4 : wr.cell? ⟨w.heap.size, 4, none⟩ = some (.slice ad xs.length cap) := cell_in (kW HB.out HX1.out) rfl
    go_wp2_with fail
    clear cx4
    have HB2 := HB
    clear HB
    go_loopw [6, 65] (fun c i wl => ∃ j : Nat, j ≤ xs.length ∧ i = .int .i64 (j : Int) ∧ (∃ c' : Value, c' = c) ∧ Hid (R = sameL (xs.drop j) (xs'.drop j)) ∧ Below w1.heap.size w1 wl) (fun _ i _ => xs.length - (intOf i).toNat)
    case atStart => exact ⟨0, Nat.zero_le _, rfl, ⟨_, rfl⟩, HR2.out, HB2.out⟩
    case round =>
     obtain ⟨j, hj, rfl, _, HT, hb⟩ := hrel
     have HB := Lib.hid hb
     clear hb HR2
     by_cases hlt : j < xs.length
     ·have hlt' : (j : Int) < (xs.length : Int) := by omega
      have i0 : (0 : Int) ≤ (j : Int) := by omega
      have hlt2 : j < xs'.length := by rw [HL5.out]; exact hlt
      have had : ad = some ⟨bb, oo, none⟩ := HLO.out (by omega)
      have had' : ad' = some ⟨bb', oo', none⟩ := HLO'.out (by omega)
      subst had had'
      obtain ⟨cs, q1, q2, q3⟩ := HLC.out j hlt
      obtain ⟨cs', q1', q2', q3'⟩ := HLC'.out j hlt2
      have hR2 := HT.out
      rw [sameL_drop hlt hlt2] at hR2
      have HMEM := Lib.hid (List.getElem_mem hlt)
      obtain ⟨y, hy⟩ : ∃ y, y = xs[j] := ⟨_, rfl⟩
      obtain ⟨y', hy'⟩ : ∃ y', y' = xs'[j] := ⟨_, rfl⟩
      rw [← hy] at q3 HMEM hR2
      rw [← hy'] at q3' hR2
      obtain ⟨k1', n1', t1', pa, pl, pc, qa, ql, qc, rfl⟩ := q3.cells
      obtain ⟨k2', n2', t2', ra, rl, rc, sa, sl, sc, rfl⟩ := q3'.cells
      have hbw := tW HB1.out HB.out
      obtain ⟨z, hz⟩ : ∃ z, sameT y y' = z := ⟨_, rfl⟩
      have HCL : Hid (∀ V, Below wr.heap.size wr V → Calls Tryz.prog 20 #[.agg (trC k1' n1' t1' (.slice pa pl pc) (.slice qa ql qc)), .agg (trC k2' n2' t2' (.slice ra rl rc) (.slice sa sl sc))] V fun e w' => e = .returned (.bool z) ∧ Below V.heap.size V w') := fun V hV => by
       have := HIH.out y HMEM.out y' _ _ V (q3.later (tW hbw hV)) (q3'.later (tW hbw hV))
       rw [hz] at this
       exact this
      rw [hz] at hR2
      have HR3 := Lib.hid hR2
      have HKS : Hid (∀ V, Below wr.heap.size wr V → (V.cell? ⟨w.heap.size, 4, none⟩ = some (.slice (some ⟨bb, oo, none⟩) xs.length cap) ∧ V.cell? ⟨w.heap.size + 1, 4, none⟩ = some (.slice (some ⟨bb', oo', none⟩) xs.length cap') ∧ V.rangeAt bb (oo + j * 5) (trC k1' n1' t1' (.slice pa pl pc) (.slice qa ql qc)).toList ∧ V.rangeAt bb' (oo' + j * 5) (trC k2' n2' t2' (.slice ra rl rc) (.slice sa sl sc)).toList)) := fun V hV => ⟨cell_in (((tW HB.out hV).block _ (Array.getElem?_eq_some_iff.1 HX1.out).1).trans HX1.out) rfl, cell_in (((tW HB.out hV).block _ (Array.getElem?_eq_some_iff.1 HY1.out).1).trans HY1.out) rfl,
       fun i u hu => ((tW hbw hV).cell (World.block_lt_of_cell? w _ (q2 i u hu))).trans (q2 i u hu), fun i u hu => ((tW hbw hV).cell (World.block_lt_of_cell? w _ (q2' i u hu))).trans (q2' i u hu)⟩
      have HW : Hid (Below wr.heap.size wr wr.drew) := drawn_below wr
      have HBW := Lib.hid hbw
      clear q1 q2 q3 q1' q2' q3' hy hy' hR2 HT hz hbw hlt2
      cases z with
      | false =>
       obtain rfl : R = false := by rw [HR3.out, Bool.false_and]
       go_wp2_with fail
       refine wp_region_T (S := (fun V => V.cell? ⟨w.heap.size, 4, none⟩ = some (.slice (some ⟨bb, oo, none⟩) xs.length cap) ∧ V.cell? ⟨w.heap.size + 1, 4, none⟩ = some (.slice (some ⟨bb', oo', none⟩) xs.length cap') ∧ V.rangeAt bb (oo + j * 5) (trC k1' n1' t1' (.slice pa pl pc) (.slice qa ql qc)).toList ∧ V.rangeAt bb' (oo' + j * 5) (trC k2' n2' t2' (.slice ra rl rc) (.slice sa sl sc)).toList)) [11] (by kernel_rfl) (by exact HKS.out _ HW.out) (fun hHeld => ?_)
       refine tkA 0 68 (h := ?_)
       refine tkA 1 69 (h := ?_)
       (try simp only [pq])
       refine tkA 2 70 (h := ?_)
       refine tkA 3 71 (h := ?_)
       (try simp only [pq])
       refine tyA 4 72 (hy := yieldsIf_arr (by rfl) 28 _ rfl bb (oo + j * 5) rfl (trC k1' n1' t1' (.slice pa pl pc) (.slice qa ql qc)) _ (fun w hw => hw.2.2.1) Tryz.underlying28 rfl (by exact tr_size)) (h := ?_)
       refine tkA 5 73 (h := ?_)
       (try simp only [pq])
       refine tkA 6 74 (h := ?_)
       refine tkA 7 75 (h := ?_)
       (try simp only [pq])
       refine tkA 8 76 (h := ?_)
       refine tyA 9 77 (hy := yieldsIf_arr (by rfl) 28 _ rfl bb' (oo' + j * 5) rfl (trC k2' n2' t2' (.slice ra rl rc) (.slice sa sl sc)) _ (fun w hw => hw.2.2.2) Tryz.underlying28 rfl (by exact tr_size)) (h := ?_)
       (try simp only [pq])
       refine tkO 10 (some 78) (h := fun K hK => ?_)
       go_simp
       go_at_call 20
       (with_reducible refine (HCL.out _ HW.out).mono ?_)
       rintro r w5 ⟨rfl, hb⟩
       replace HW := Lib.hid (tW HW.out hb)
       clear hb
       dsimp only
       refine hK.out _ _ (by exact HKS.out _ HW.out) (fun hHeld => ?_)
       clear hK K
       (try simp only [pq])
       refine tkU 11 (some 79) (h := fun K hK => ?_)
       go_simp
       refine hK.out _ _ ?_
       clear hK K
       (try simp only [pq])
       refine wpAnyT_done (by kernel_rfl) ?_ _
       clear hHeld
       go_wp2_with fail
       go_ret
       exact ⟨rfl, tW HBW.out HW.out⟩
      | true =>
       go_wp2_with fail
       refine wp_region_T (S := (fun V => V.cell? ⟨w.heap.size, 4, none⟩ = some (.slice (some ⟨bb, oo, none⟩) xs.length cap) ∧ V.cell? ⟨w.heap.size + 1, 4, none⟩ = some (.slice (some ⟨bb', oo', none⟩) xs.length cap') ∧ V.rangeAt bb (oo + j * 5) (trC k1' n1' t1' (.slice pa pl pc) (.slice qa ql qc)).toList ∧ V.rangeAt bb' (oo' + j * 5) (trC k2' n2' t2' (.slice ra rl rc) (.slice sa sl sc)).toList)) [11] (by kernel_rfl) (by exact HKS.out _ HW.out) (fun hHeld => ?_)
       refine tkA 0 68 (h := ?_)
       refine tkA 1 69 (h := ?_)
       (try simp only [pq])
       refine tkA 2 70 (h := ?_)
       refine tkA 3 71 (h := ?_)
       (try simp only [pq])
       refine tyA 4 72 (hy := yieldsIf_arr (by rfl) 28 _ rfl bb (oo + j * 5) rfl (trC k1' n1' t1' (.slice pa pl pc) (.slice qa ql qc)) _ (fun w hw => hw.2.2.1) Tryz.underlying28 rfl (by exact tr_size)) (h := ?_)
       refine tkA 5 73 (h := ?_)
       (try simp only [pq])
       refine tkA 6 74 (h := ?_)
       refine tkA 7 75 (h := ?_)
       (try simp only [pq])
       refine tkA 8 76 (h := ?_)
       refine tyA 9 77 (hy := yieldsIf_arr (by rfl) 28 _ rfl bb' (oo' + j * 5) rfl (trC k2' n2' t2' (.slice ra rl rc) (.slice sa sl sc)) _ (fun w hw => hw.2.2.2) Tryz.underlying28 rfl (by exact tr_size)) (h := ?_)
       (try simp only [pq])
       refine tkO 10 (some 78) (h := fun K hK => ?_)
       go_simp
       go_at_call 20
       (with_reducible refine (HCL.out _ HW.out).mono ?_)
       rintro r w5 ⟨rfl, hb⟩
       replace HW := Lib.hid (tW HW.out hb)
       clear hb
       dsimp only
       refine hK.out _ _ (by exact HKS.out _ HW.out) (fun hHeld => ?_)
       clear hK K
       (try simp only [pq])
       refine tkU 11 (some 79) (h := fun K hK => ?_)
       go_simp
       refine hK.out _ _ ?_
       clear hK K
       (try simp only [pq])
       refine wpAnyT_done (by kernel_rfl) ?_ _
       clear hHeld
       go_wp2_with fail
       go_roundw
       case rel => exact ⟨j + 1, by omega, by go_num, ⟨_, rfl⟩, by have h := HR3.out; rw [Bool.true_and] at h; exact h, tW HB.out HW.out⟩
       case measure => simp [intOf]; omega
     ·obtain rfl : j = xs.length := by omega
      have hR2 := HT.out
      rw [List.drop_length, List.drop_of_length_le (Nat.le_of_eq HL5.out), sameL] at hR2
      subst hR2
      go_wp2_with fail
      go_ret
      exact ⟨rfl, tW HB1.out HB.out⟩
attribute [local go_sem] Oper.semAt_some
theorem rows_make {ops : Array Oper} {rest : List Oper} {o : Oper} {a : Act} {Q : Exit → Act → World → Prop} {w : World} (hgd : o.guard = none) (t e : TypeId) (l c : Operand) (hop : o.op = .makeSlice t l c)
  {B s by_ : Nat} {z : Value} (hu : Tryz.prog.underlying t = some (.slice e)) (hi : (Tryz.prog.info? e).map (fun i => (i.zero, i.size, i.bytes)) = some (some z, s, by_)) (kl kc : IntKind) (C : Int) (n : Nat) (hl : a.eval l = .int kl 0) (hc : a.eval c = .int kc C) (hC : C = (n : Int)) (hn : n ≤ 10000000) (hby : by_ ≤ 1000000) (hB : B ≤ w.heap.size)
  (h : ∀ w', RowsOwn B e s (.slice (some ⟨w.heap.size, 0, none⟩) 0 n) [] w' → Below w.heap.size w w' → wpList Tryz.prog ops Q rest (a.put o.dst (.slice (some ⟨w.heap.size, 0, none⟩) 0 n)) w') : wpList Tryz.prog ops Q (o :: rest) a w :=
 wpList_plain hgd fun _ hK => by
  obtain ⟨i, hi0, hz, h1, h2⟩ := info_parts hi
  have hb1 : by_ * n ≤ 1000000 * 10000000 := Nat.mul_le_mul hby hn
  obtain ⟨w', hrun, r1, r2⟩ := run_make_own (P := Tryz.prog) w B t e i z s hu hi0 hz h1 kl kc n (by rw [h2]; omega) (by unfold maxLen; omega) hB
  subst hC
  unfold Oper.wp
  simp [execOp, hop, hl, hc, hrun, Result.andThen]
  have hb : Below w.heap.size w w' := (Below.refl _ _).grown r2 (Nat.le_refl _) (fun k hk => by cases hk)
  exact hK _ _ (h w' ⟨World.ownsRowF_of r1, Nat.le_trans hB hb.size, fun c hc => by cases hc⟩ hb)
theorem RowsOwn.shape {B : Nat} {e : TypeId} {s : Nat} {v : Value} {cs : List (Array Value)} {w : World} (h : RowsOwn B e s v cs w) : ∃ a c, v = .slice a cs.length c := by
 rcases h.1.2 with ⟨rfl, h2⟩ | ⟨g, cap, cur, fz, rfl, _⟩
 ·exact ⟨none, 0, by rw [h2]⟩
 ·exact ⟨_, cap, rfl⟩
theorem RowsOwn.ikw {Ts : TypeId → Prop} {Y B : Nat} {e : TypeId} {s : Nat} {v : Value} {cs : List (Array Value)} {w w' : World} (h : RowsOwn B e s v cs w) (k : IKW Ts Y w w') (he : Ts e) : RowsOwn B e s v cs w' := by
 obtain ⟨⟨h1, h2⟩, h3, h4⟩ := h
 refine ⟨⟨h1, h2.imp_right ?_⟩, Nat.le_trans h3 k.1, h4⟩
 rintro ⟨g, cap, cur, fz, a1, a2, a3, a4⟩
 exact ⟨g, cap, cur, fz, a1, a2, k.2.2 _ _ _ _ a3 he, a4⟩
theorem RowsOwn.kw {Ts : TypeId → Prop} {B n₀ Y : Nat} {e : TypeId} {s : Nat} {v : Value} {cs : List (Array Value)} {w w' : World} (h : RowsOwn B e s v cs w) (hg : w.grownBy w' v.ownBlock) (hn : n₀ ≤ B) (hw : n₀ ≤ w.heap.size) (he : Ts e) : KW Ts n₀ Y w w' := by
 rcases h.own with h1 | ⟨g, cur, fz, h1, h2, h3⟩
 ·rw [h1] at hg
  exact KW.below ⟨hg.os, hg.tape, hg.output, hg.size, fun k hk => hg.block k hk (by simp)⟩ hw
 ·rw [h1] at hg
  exact KW.grown hg (Nat.le_trans hn h2) (Array.getElem?_eq_some_iff.1 h3).1 h3 he
theorem RowsOwn.ne_box {B X : Nat} {e T : TypeId} {s : Nat} {v u : Value} {cs : List (Array Value)} {w : World} (h : RowsOwn B e s v cs w) (hb : Boxed w X T u) (hT : e ≠ T) : v.ownBlock = none ∨ v.ownBlock ≠ some X := by
 rcases h.own with h1 | ⟨g, cur, fz, h1, h2, h3⟩
 ·exact .inl h1
 ·refine .inr fun h' => ?_
  rw [h1] at h'
  obtain rfl := Option.some.inj h'
  rw [show w.heap[g]? = _ from hb] at h3
  simp only [Option.some.injEq, Obj.cells.injEq] at h3
  exact hT h3.2.1.symm
abbrev TsSteps (T : TypeId) : Prop := T = 45 ∨ T = 44
theorem ts_steps : ApartT TsSteps := ⟨by decide, by decide, by decide, by decide, by decide⟩
theorem stp_info : (Tryz.prog.info? 44).map (fun i => (i.zero, i.size, i.bytes)) = some (some (.agg #[.int .i64 0, .int .i64 0, .string ⟨#[]⟩]), 3, 32) := by kernel_rfl
theorem stp_info2 : (Tryz.prog.info? 44).map (fun i => (i.size, i.zero)) = some (3, some (.agg #[.int .i64 0, .int .i64 0, .string ⟨#[]⟩])) := by kernel_rfl
set_option maxHeartbeats 8000000 in
theorem va_Steps (w : World) (a : Tr) (x : Cel) (ha : ValB a) (hv : VAt (fun _ => True) w a x) (hT : Tab6 w) :
  Calls Tryz.prog 18 #[.agg (celC x)] w fun r w' => ∃ v, r = .returned v ∧ RowsOwn w.heap.size 44 3 v ((stepsT a).map stpC) w' ∧ Below w.heap.size w w' := by
 obtain ⟨w1, hw1⟩ : ∃ w1, w.alloc (.cells (celC x) 35) = w1 := ⟨_, rfl⟩
 obtain ⟨hb1, hx1, hs1⟩ := new_below hw1
 have hv' : VAt (fun g => g < w.heap.size) w a x := hv.old.weak fun _ h => h.2
 have HLEN := Lib.hid (fun W (hb : Below w.heap.size w W) => va_Len W a x ha (hv.later hb))
 have HPA := Lib.hid (fun W => callsIn_wide.1 (va_parts_in 5 x W))
 have HX1 := Lib.hid hx1
 have HB1 := Lib.hid hb1
 have HS1 := Lib.hid hs1
 obtain ⟨N, hN⟩ : ∃ N, N = a.xs.length := ⟨_, rfl⟩
 rw [← hN] at HLEN
 have hN6 : N ≤ 16383 := by rw [hN]; exact ha.len
 have HN := Lib.hid hN
 clear hx1 hb1 hs1 hN hv
 refine (callsIn_wide (n := 5)).1 ?_
 refine callsIn_of_wp_marks Tryz.func18 rfl trivial ?_ rfl
 refine wpIn_wide.2 ?_
 simp only [Tryz.ntmps18, List.size_toArray, List.length_cons, List.length_nil, Nat.reduceAdd, Nat.reduceSub, Array.replicate_succ, Array.replicate_zero, List.push_toArray, List.append_toArray, List.nil_append, List.cons_append]
 go_upto_region 1 with fail
 clear hw1
 go_upto_region 2 with (first
  | (refine ld_if rfl 35 _ rfl w.heap.size rfl 35 _ _ _ HX1.out Tryz.underlying35 rfl val_size ?_)
  | (go_at_call 32; (with_reducible refine (HLEN.out _ HB1.out).mono ?_); rintro r w2 ⟨rfl, hb2⟩; have HB2 := Lib.hid (tW HB1.out hb2); have HX2 := Lib.hid (kW hb2 HX1.out); clear hb2)
  | (refine rows_make (B := w.heap.size) (by_ := 32) (z := .agg #[.int .i64 0, .int .i64 0, .string ⟨#[]⟩]) rfl 45 44 _ _ rfl Tryz.underlying45 stp_info .i64 .i64 _ N rfl rfl rfl (by omega) (by decide) HB2.out.size ?_; intro w3 h3 hb3; have HRO := Lib.hid h3; have HB3 := Lib.hid (tW HB2.out hb3); have HX3 := Lib.hid (kW hb3 HX2.out); clear h3 hb3))
 obtain ⟨w4, hw4⟩ : ∃ w4, w4 = w3.alloc (.cells #[.slice (some ⟨w2.heap.size, 0, none⟩) 0 N] 45) := ⟨_, rfl⟩
 obtain ⟨X, hX⟩ : ∃ X, X = w3.heap.size := ⟨_, rfl⟩
 obtain ⟨sv, hsv⟩ : ∃ sv, sv = Value.slice (some ⟨w2.heap.size, 0, none⟩) 0 N := ⟨_, rfl⟩
 have hb4 : Below w3.heap.size w3 w4 := by rw [hw4]; exact Below.newly' _ _
 have hXB : Boxed w4 X 45 sv := by rw [hw4, hX, hsv]; exact heap_alloc_last _ _
 have hro4 : RowsOwn w.heap.size 44 3 sv [] w4 := by rw [hsv]; exact HRO.out.later hb4
 have HX4 := Lib.hid (kW hb4 HX3.out)
 have hs4 : w4.heap.size = X + 1 := by rw [hw4, hX]; simp
 have hb04 : Below w.heap.size w w4 := tW HB3.out hb4
 have hwX : w.heap.size < X := by have := (Array.getElem?_eq_some_iff.1 HX3.out).1; omega
 rw [← hw4, ← hX]
 clear hw4 hX hsv hb4 HX1 HX2 HX3 HB2 HRO
 go_wp2_with (first
  | (refine ld_if rfl 35 _ rfl w.heap.size rfl 35 _ _ _ HX4.out Tryz.underlying35 rfl val_size ?_)
  | (go_at_call 50; (with_reducible refine (HPA.out _).mono ?_); rintro r w5 ⟨rfl, rfl⟩))
 obtain ⟨w5, hw5⟩ : ∃ w5, w5 = w4.alloc (.cells (celC x) 35) := ⟨_, rfl⟩
 have hb5 : Below w4.heap.size w4 w5 := by rw [hw5]; exact Below.newly' _ _
 have hx5 : w5.heap[X + 1]? = some (.cells (celC x) 35 (0, 0)) := by rw [hw5, ← hs4]; exact heap_alloc_last _ _
 have hs5 : w5.heap.size = X + 2 := by rw [hw5]; simp; omega
 have hb05 : Below w.heap.size w w5 := hb04.trans (hb5.mono (by omega))
 have hXB5 : Boxed w5 X 45 sv := (hb5.block _ hXB.lt).trans hXB
 have hro5 := hro4.later hb5
 obtain ⟨l, hl, hseq⟩ := va_parts1 ts_steps (X + 1) w.heap.size a x ha w5 (by omega) hx5 (hv'.low hb05) (hT.below hb05)
 have hll := vAtL_len hl
 rw [← hw5]
 clear hw5 hb5 hro4 hXB hx5 hl hb04 HX4
 refine (wpIn_wide (n := 5)).1 ?_
 refine wpIn_rangeN (n₀ := w.heap.size) (by omega) (kw_ok TsSteps w.heap.size) (gf := 85) (lb := #[.pointer (some ⟨X + 1, 0, none⟩)]) rfl (enters_of Tryz.func85 (by kernel_rfl) rfl)
  hseq (fun _ => rfl)
  (fun (pre : List (Stp × Cel)) V => (∃ sv, Boxed V X 45 sv ∧ RowsOwn w.heap.size 44 3 sv (pre.map fun e => stpC e.1) V) ∧ Below w.heap.size w V)
  (fun s A B row hs hg hr => by
   obtain ⟨⟨sv, h1, h2⟩, h3⟩ := hs
   have hI : IKW TsSteps w.heap.size A B := ikw_own hg h3.size (by rw [hs5]; omega) hr
   exact ⟨⟨sv, hI.2.2 _ _ _ _ h1 (.inl rfl), h2.ikw hI (.inr rfl)⟩, h3.trans hI.2.1⟩)
  (fun s A B h hb => by
   obtain ⟨⟨sv, h1, h2⟩, h3⟩ := h
   exact ⟨⟨sv, hb.2.2 _ _ _ _ h1 (.inl rfl), h2.ikw hb (.inr rfl)⟩, h3.trans (hb.2.1.mono (by omega))⟩)
  (fun s A B h hb => by
   obtain ⟨⟨sv, h1, h2⟩, h3⟩ := h
   exact ⟨⟨sv, (hb.block _ h1.lt).trans h1, h2.later hb⟩, tW h3 hb⟩)
  ⟨⟨sv, hXB5, hro5⟩, hb05⟩
  (fun x b V => V.heap[b]? = some (.cells (stpC x.1) 44 (0, 0)))
  (fun x b A l o o' h1 h2 h => by rw [World.putObj_heap_other (fun e => by rw [e, h1] at h; cases h; cases h2)]; exact h)
  (fun h hn => KW.below h hn)
  (fun x' b' => { tmps := #[.agg (celC x), .pointer (some ⟨w.heap.size, 0, none⟩), .slice none 0 0, .pointer (some ⟨X, 0, none⟩), .pointer (some ⟨b', 0, none⟩), .agg (celC x), .int .i64 (N : Int), .slice (some ⟨w2.heap.size, 0, none⟩) 0 N, .agg (celC x), .func (.func 85) #[] #[.pointer (some ⟨X + 1, 0, none⟩)], .agg (stpC x'.1), .agg (celC x'.2), undef, undef, undef, undef, undef], defers := [] }) ?assign ?body ?done
 case assign =>
  intro k x' V K hK
  gi_wp2
  exact hK _ _ (Below.newly' _ _) (heap_alloc_last _ _)
 case body =>
  rintro k pre x' b' V hVs ⟨⟨sv, hXV, hrV⟩, hbV⟩ hst hpl
  have cX := hXV.cell
  have hlen : pre.length ≤ 100000 := by
   have h1 := hpl.length_le
   have h2 := steps_len ha.1.1
   rw [List.length_append] at h1
   unfold partsP at h1
   rw [List.length_zip, h2] at h1
   have := ha.len
   simp at h1
   omega
  obtain ⟨rs, hrs⟩ : ∃ rs, rs = pre.map fun (e : Stp × Cel) => stpC e.1 := ⟨_, rfl⟩
  have hrl : rs.length ≤ 100000 := by rw [hrs, List.length_map]; exact hlen
  rw [← hrs] at hrV
  have HST := Lib.hid hst
  have HXV := Lib.hid hXV
  have HRV := Lib.hid hrV
  have HBV := Lib.hid hbV
  have HVS := Lib.hid hVs
  have HRS := Lib.hid hrs
  have HWX := Lib.hid (And.intro hwX hs5)
  have HRL := Lib.hid hrl
  clear hst hpl hbV hVs hXV hrV hrs hwX hs5 hrl hlen hXB5 hro5 hb05 hseq
  obtain ⟨⟨s1, s2, s3⟩, xc⟩ := x'
  gi_wp2_with (first
   | (refine ld_in rfl 44 _ rfl b' rfl 44 _ _ _ HST.out Tryz.underlying44 rfl step_size ?_)
   | (refine list_in rfl (fun c' hc => by cases hc) fun K hK => ?_; refine bs_wp 45 44 _ rfl (stpC (s1, s2, s3)) 3 (.agg #[.int .i64 0, .int .i64 0, .string ⟨#[]⟩]) rfl rfl (by decide) (by decide) Tryz.underlying45 stp_info2 ?_; intro V1 h1 hb1 hz1; refine hK _ _ ?_; have HB1' := Lib.hid hb1; have HL1 := Lib.hid h1; have HR1 := Lib.hid (HRV.out.later hb1); clear h1 hb1 hz1 hK K)
   | (refine list_in rfl (fun c' hc => by cases hc) fun K hK => ?_; refine rows_wp 45 44 _ _ rfl (B := w.heap.size) (s := 3) (by_ := 32) (z := .agg #[.int .i64 0, .int .i64 0, .string ⟨#[]⟩]) rfl HR1.out V.heap.size rfl HL1.out rfl (by simp [Value.oneCell']) Tryz.underlying45 stp_info rfl (by decide) HRL.out (by decide) ?_; intro v2 V2 h2 hg2; refine hK _ _ ?_; obtain ⟨a2, c2, rfl⟩ := h2.shape; have HR2 := Lib.hid h2; have hX2 : Boxed V2 X 45 sv := HR1.out.keepsT hg2 (by decide) ((HB1'.out.block _ HXV.out.lt).trans HXV.out); have cX2 := hX2.cell; have fX2 := hX2.frozen; have HX2 := Lib.hid hX2; have HB2' := Lib.hid (And.intro hg2.size (HR1.out.below hg2 (Nat.le_refl _) (Nat.le_trans HBV.out.size HB1'.out.size))); have HG2 := Lib.hid hg2; clear h2 hg2 hX2 hK K))
  have hxv := HXV.out
  have hrv := HR1.out
  have hbv := HBV.out
  have hvs := HVS.out
  have hwx := HWX.out
  have hb1 := HB1'.out
  have hn1 := Nat.le_trans hbv.size hb1.size
  obtain ⟨V3, hV3⟩ : ∃ V3, V3 = V2.setCell ⟨X, 0, none⟩ (.slice a2 (rs.length + 1) c2) := ⟨_, rfl⟩
  rw [← hV3]
  have hg3 : V2.grownBy V3 (some X) := by rw [hV3]; exact grownBy_setCell' V2 X _
  have hX3 : Boxed V3 X 45 (.slice a2 (rs.length + 1) c2) := by rw [hV3]; exact HX2.out.set _
  have hr3 : RowsOwn w.heap.size 44 3 (.slice a2 (rs.length + 1) c2) (rs ++ [stpC (s1, s2, s3)]) V3 := by
   have h := HR2.out.grown hg3 (HR2.out.ne_box HX2.out (by decide))
   simpa using h
  have hkw : ∀ Y, KW TsSteps w.heap.size Y V V3 := fun Y => ((KW.below hb1 hbv.size).trans (hrv.kw HG2.out (Nat.le_refl _) hn1 (.inr rfl))).trans (KW.grown hg3 (by omega) HX2.out.lt HX2.out (.inl rfl))
  refine ⟨⟨(hkw 0).2.1, fun g o hg ho hc => (hkw w5.heap.size).2.2.2 g o hg ho hc⟩, hkw _, ⟨_, hX3, ?_⟩, hbv.trans (hkw 0).1⟩
  rw [List.map_append, ← HRS.out]
  exact hr3
 case done =>
  rintro ys V rfl ⟨⟨sv, hXV, hrV⟩, hbV⟩ hD
  have cX := hXV.cell
  have HRV := Lib.hid hrV
  have HBV := Lib.hid hbV
  have HD := Lib.hid hD
  clear hrV hbV hD hXV hseq hXB5 hro5
  go_wp2_with fail
  have hgp := grownBy_putObj' V w5.heap.size (.deferred none)
  have hs := HBV.out.size
  have hI : IKW TsSteps w.heap.size V (V.putObj w5.heap.size (.deferred none)) := ikw_own hgp hs (Z := w5.heap.size) (by omega) (fun r e => by cases e; exact ⟨Nat.le_refl _, _, HD.out, rfl⟩)
  have hm : (partsP a l).map (fun e => stpC e.1) = (stepsT a).map stpC := by
   unfold partsP
   have h1 := zip_fst (stepsT a) l (by rw [steps_len ha.1.1]; omega)
   conv => rhs; rw [← h1]
   rw [List.map_map]
   rfl
  have hr := HRV.out.ikw hI (.inr rfl)
  rw [hm] at hr
  exact ⟨by simp [Act.put], .inl ⟨_, _, rfl, run_takeDeferred HD.out, sv, by simp [results, Tryz.f18, go_sem], sv, rfl, hr, HBV.out.trans hI.2.1⟩⟩
end Go.Proofs.YtpodmgihlomglaaGreatDoor
