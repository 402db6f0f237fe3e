/- What a row of layer 13 hands on, opened: a list of tokens. -/
import Derived.Test.YtgdlkaoadlipmaaGreatDoorLawKit0
import Derived.Test.YtgdlkaoadlipmaaGreatDoorLawKitI
import Derived.Test.YtgdlkaoadlipmaaGreatDoorLaw13W
import Derived.Deep.Slices
import Derived.OpenShut
import Derived.ChangeSlices
namespace Go.Proofs.YtgdlkaoadlipmaaGreatDoor
open Go.RowKit Go.ChangeShapes Go.WideShapes Go.ChangeAt
set_option maxRecDepth 1000000

section
variable {H : Type} {enc : TypeId × Value → H} {W : World} {sp : Nat → Bool} {held : Bool} {r : Reach} {b0 base : Nat} {v : Value} {d : DataW H} {ps : List MemPlace}
/-- A list that a row hands on, opened: what is known of each place. -/
theorem list_openT {α : Type} (z : α) {T e : TypeId} {c : Nat} (hc0 : 0 < c) {R : α → Addr → Prop} (ht : Tryz.prog.underlying T = some (.slice e)) (hc : Tryz.prog.cellsOf e = c)
    (hval : Value.okWide Tryz.prog W r b0 T v) (hd : DataW.Trod enc Tryz.prog W base sp held T v d ps)
    (hel : ∀ (n : Nat) (cs : List Value) (x : DataW H × List MemPlace) (a : Addr), W.cells? base a c = some cs → DataW.trod enc Tryz.prog W base sp held n e cs = some x → ∃ y, R y a) :
    ∃ (l : List α) (a : Option Addr) (cap b o : Nat), v = .slice a l.length cap ∧ (0 < l.length → a = some ⟨b, o, none⟩) ∧ (∀ j (hj : j < l.length), R l[j] ⟨b, o + j * c, none⟩) ∧ l.length ≤ maxLen := by
  obtain ⟨a0, len, cap, rfl⟩ := okWide_slice ht hval
  obtain ⟨fuel, hf⟩ := hd
  rcases Go.Deep.open_slice ht hf with ⟨hcs, _⟩ | ⟨a, len', cap', m, n, D, Pl, hcs, _, hl, hm, hmm, _, hi⟩
  · simp [Value.cells] at hcs
    obtain ⟨rfl, rfl, rfl⟩ := hcs
    exact ⟨[], none, 0, 0, 0, rfl, fun h => absurd h (by simp), fun j h => absurd h (by simp), by simp⟩
  · simp [Value.cells] at hcs
    obtain ⟨rfl, rfl, rfl⟩ := hcs
    have hml : len ≤ m := by rw [hmm]; split <;> omega
    have hel' : ∀ i, i < len → ∃ y : α, R y (a.add (i * c)) := fun i hlt => by
      obtain ⟨cs', h1, h2⟩ := hi i (by omega)
      rw [hc] at h1
      exact hel _ _ _ _ h1 h2
    classical
    let f : Nat → α := fun i => if h : i < len then (hel' i h).choose else z
    have hspot : 0 < len → a.spot = none := fun h0 => by
      obtain ⟨cs', h1, _⟩ := hi 0 (by omega)
      rw [hc] at h1
      obtain ⟨_, hl', hat⟩ := World.cells?_some h1
      have h2 := hat 0 hc0
      have h3 : cs'[0]? = some cs'[0] := List.getElem?_eq_getElem (by omega)
      rw [h3] at h2
      have := World.cell?_spot h2
      simpa [Addr.add] using this
    refine ⟨(List.range len).map f, some a, cap, a.block, a.off, by simp, fun h0 => ?_, fun j hj => ?_, by simp; omega⟩
    · have := hspot (by simpa using h0)
      obtain ⟨b, off, spot⟩ := a
      simp only at this
      subst this
      rfl
    · have hj' : j < len := by simpa using hj
      have hs := hspot (by omega)
      have hf' : ((List.range len).map f)[j] = (hel' j hj').choose := by simp [f, hj']
      rw [hf']
      have := (hel' j hj').choose_spec
      obtain ⟨y, hy⟩ : ∃ y, y = (hel' j hj').choose := ⟨_, rfl⟩
      rw [← hy] at this ⊢
      obtain ⟨b, off, spot⟩ := a
      simp only at hs
      subst hs
      rw [show (⟨b, off, none⟩ : Addr).add (j * c) = ⟨b, off + j * c, none⟩ by unfold Addr.add; split <;> simp_all] at this
      exact this
end
theorem toks_open {H : Type} {enc : TypeId × Value → H} {W : World} {sp : Nat → Bool} {held : Bool} {r : Reach} {b0 base : Nat} {v : Value} {d : DataW H} {ps : List MemPlace}
    (hval : Value.okWide Tryz.prog W r b0 22 v) (hd : DataW.Trod enc Tryz.prog W base sp held 22 v d ps) : ∃ l, TiG W v l := by
  obtain ⟨l, a, cap, b, o, h1, h2, h3, h4⟩ := list_openT (c := 5) (⟨0, 0, 0, 0, ⟨#[]⟩⟩ : TokI) (by decide) (R := fun y p => (∀ k u, (tiC y).toList[k]? = some u → W.cell? (p.add k) = some u) ∧ InR y.n) Tryz.underlying22 (by kernel_rfl) hval hd fun n cs x a h1 h2 => by
    obtain ⟨_, hl, hat⟩ := World.cells?_some h1
    obtain ⟨xs, m, _, _, _, hxl, hf⟩ := DataW.trod_struct Tryz.underlying25 h2
    have hl : cs.length = 5 := hl
    have ci : Tryz.prog.cellsOf 3 = 1 := by kernel_rfl
    have cj : Tryz.prog.cellsOf 2 = 1 := by kernel_rfl
    have cw : Tryz.prog.cellsOf 9 = 1 := by kernel_rfl
    match cs, hl with
    | [v0, v1, v2, v3, v4], _ =>
      have hx5 : xs.length = 5 := hxl
      have f0 : DataW.trod enc Tryz.prog W base sp held m 3 (List.take (Tryz.prog.cellsOf 3) (List.drop 0 [v0, v1, v2, v3, v4])) = xs[0]? := hf 0 _ rfl
      have f1 : DataW.trod enc Tryz.prog W base sp held m 3 (List.take (Tryz.prog.cellsOf 3) (List.drop 1 [v0, v1, v2, v3, v4])) = xs[1]? := hf 1 _ rfl
      have f2 : DataW.trod enc Tryz.prog W base sp held m 3 (List.take (Tryz.prog.cellsOf 3) (List.drop 2 [v0, v1, v2, v3, v4])) = xs[2]? := hf 2 _ rfl
      have f3 : DataW.trod enc Tryz.prog W base sp held m 2 (List.take (Tryz.prog.cellsOf 2) (List.drop 3 [v0, v1, v2, v3, v4])) = xs[3]? := hf 3 _ rfl
      have f4 : DataW.trod enc Tryz.prog W base sp held m 9 (List.take (Tryz.prog.cellsOf 9) (List.drop 4 [v0, v1, v2, v3, v4])) = xs[4]? := hf 4 _ rfl
      rw [ci] at f0 f1 f2
      rw [cj] at f3
      rw [cw] at f4
      rw [List.getElem?_eq_getElem (by omega)] at f0 f1 f2 f3 f4
      obtain ⟨y0, e0, _, _⟩ := DataW.trod_int Tryz.underlying3 f0
      obtain ⟨y1, e1, _, _⟩ := DataW.trod_int Tryz.underlying3 f1
      obtain ⟨y2, e2, _, _⟩ := DataW.trod_int Tryz.underlying3 f2
      obtain ⟨y3, e3, _, w3⟩ := DataW.trod_int Tryz.underlying2 f3
      obtain ⟨y4, e4, _, _⟩ := DataW.trod_string Tryz.underlying9 f4
      obtain rfl : v0 = .int .i64 y0 := (List.cons.inj e0).1
      obtain rfl : v1 = .int .i64 y1 := (List.cons.inj e1).1
      obtain rfl : v2 = .int .i64 y2 := (List.cons.inj e2).1
      obtain rfl : v3 = .int .i64 y3 := (List.cons.inj e3).1
      obtain rfl : v4 = .string y4 := (List.cons.inj e4).1
      refine ⟨⟨y0, y1, y2, y3, y4⟩, fun k u hu => ?_, bounds_i64 w3⟩
      have hk : k < 5 := by have := (List.getElem?_eq_some_iff.1 hu).1; simpa [tiC] using this
      exact (hat k hk).trans hu
  refine ⟨l, ⟨a, cap, b, o, h1, h4, h2, fun j hj k u hu => ?_⟩, fun x hx => ?_⟩
  · have h5 := (h3 j hj).1 k u hu
    rw [show (⟨b, o + j * 5, none⟩ : Addr).add k = ⟨b, o + j * 5 + k, none⟩ by unfold Addr.add; split <;> simp_all] at h5
    exact h5
  · obtain ⟨j, hj, rfl⟩ := List.getElem_of_mem hx
    exact (h3 j hj).2
end Go.Proofs.YtgdlkaoadlipmaaGreatDoor
