/- Layer 9's laws: variables that hold maps. -/
import Derived.Test.YtnnlfgfgfegjkaaDoorLaw09Live
import Derived.Test.YtnnlfgfgfegjkaaDoorPkB
namespace Go.Proofs.YtnnlfgfgfegjkaaDoor
open Go.RowKit
set_option maxRecDepth 1000000
set_option linter.unusedSimpArgs false

/-- Block X holds a map of these keys; the document's. -/
def MB (V : World) (s : Nat) (n : Int) (L : List Ent) (X : Nat) : Prop := ∃ c, V.heap[X]? = some (.cells c 36 (0, 0)) ∧ ML V s n L c
def RB (V : World) (L : List Ent) (X : Nat) : Prop := ∃ c, V.heap[X]? = some (.cells c 40 (0, 0)) ∧ RefM V c L
section
variable {V V' : World} {s : Nat} {n : Int} {L : List Ent} {X Z : Nat} {cs : Array Value} {T : TypeId} {fr : Nat × Nat}
theorem MB.later (h : MB V s n L X) (hb : Below V.heap.size V V') : MB V' s n L X := by
  obtain ⟨c, h1, h2⟩ := h
  exact ⟨c, (hb.block _ (Array.getElem?_eq_some_iff.1 h1).1).trans h1, h2.later hb⟩
theorem RB.later (h : RB V L X) (hb : Below V.heap.size V V') : RB V' L X := by
  obtain ⟨c, h1, h2⟩ := h
  exact ⟨c, (hb.block _ (Array.getElem?_eq_some_iff.1 h1).1).trans h1, h2.later hb⟩
theorem MB.only (h : MB V s n L X) (k : Only Z V V') (hZ : V.heap[Z]? = some (.cells cs T fr)) (hne : X ≠ Z) (hT : ¬ (T = 110 ∨ T = 34 ∨ T = 117 ∨ T = 106)) : MB V' s n L X := by
  obtain ⟨c, h1, h2⟩ := h
  exact ⟨c, k.other h1 hne, h2.but k hZ hT⟩
theorem RB.only (h : RB V L X) (k : Only Z V V') (hZ : V.heap[Z]? = some (.cells cs T fr)) (hne : X ≠ Z) (h1 : T ≠ 9) (h2 : T ≠ 3) : RB V' L X := by
  obtain ⟨c, h3, h4⟩ := h
  exact ⟨c, k.other h3 hne, h4.but k hZ h1 h2⟩
theorem MB.lt (h : MB V s n L X) : X < V.heap.size := by
  obtain ⟨c, h1, _⟩ := h
  exact (Array.getElem?_eq_some_iff.1 h1).1
theorem RB.lt (h : RB V L X) : X < V.heap.size := by
  obtain ⟨c, h1, _⟩ := h
  exact (Array.getElem?_eq_some_iff.1 h1).1
theorem MB.wrote {c c0 : Array Value} (h : V'.heap[X]? = some (.cells c 36 (0, 0))) (k : Only X V V') (hX : V.heap[X]? = some (.cells c0 36 fr)) (hm : ML V s n L c) : MB V' s n L X := ⟨c, h, hm.but k hX (by decide)⟩
theorem RB.wrote {c c0 : Array Value} (h : V'.heap[X]? = some (.cells c 40 (0, 0))) (k : Only X V V') (hX : V.heap[X]? = some (.cells c0 40 fr)) (hm : RefM V c L) : RB V' L X := ⟨c, h, hm.but k hX (by decide) (by decide)⟩
theorem RB.new (w : World) : RB (w.alloc (.cells #[.slice none 0 0, .slice none 0 0] 40)) [] w.heap.size := ⟨_, heap_alloc_last w _, RefM.zero _⟩
end
theorem Tabs.six {w : World} (h : Tabs w) : Tab6 w := h.1
theorem Tabs.pow {w : World} (h : Tabs w) : Tab w := h.2
/-- v is a list that reads as these texts. -/
def StrsAt (w : World) (v : Value) (l : List ByteArray) : Prop :=
  ∃ (a : Option Addr) (cap b o : Nat), v = .slice a l.length cap ∧ (0 < l.length → a = some ⟨b, o, none⟩) ∧ (∀ j (h : j < l.length), w.cell? ⟨b, o + j, none⟩ = some (.string l[j])) ∧ l.length ≤ maxLen
theorem StrsAt.later {w w' : World} {v : Value} {l : List ByteArray} (h : StrsAt w v l) (hb : Below w.heap.size w w') : StrsAt w' v l := by
  obtain ⟨a, cap, b, o, h1, h2, h3, h4⟩ := h
  exact ⟨a, cap, b, o, h1, h2, fun j hj => (hb.cell (World.block_lt_of_cell? w _ (h3 j hj))).trans (h3 j hj), h4⟩
theorem StrsAt.shape {w : World} {v : Value} {l : List ByteArray} (h : StrsAt w v l) : ∃ a c, v = .slice a l.length c ∧ l.length ≤ maxLen := by
  obtain ⟨a, cap, b, o, h1, _, _, h4⟩ := h
  exact ⟨a, cap, h1, h4⟩
theorem StrsAt.cell {w : World} {v : Value} {l : List ByteArray} (h : StrsAt w v l) {j : Nat} (hj : j < l.length) : ∃ g o c, v = .slice (some ⟨g, o, none⟩) l.length c ∧ True ∧ w.cell? ⟨g, o + j, none⟩ = some (.string l[j]) := by
  obtain ⟨a, cap, b, o, h1, h2, h3, _⟩ := h
  rw [h2 (by omega)] at h1
  exact ⟨b, o, cap, h1, trivial, h3 j hj⟩
theorem ml_Keys (w : World) (s : Nat) (n : Int) (L : List Ent) (c : Array Value) (h : ML w s n L c) (hL : Rise L) (hN : L.length ≤ 50000) (hT : Tab6 w) :
    Calls Tryd.prog 45 #[.agg c] w fun e W' => ∃ v, e = .returned v ∧ Strs w.heap.size v (keysE L) W' ∧ Below w.heap.size w W' := hm_Keys w s n L c h hL hN hT
theorem ml_Set (w : World) (s : Nat) (hss : s < 18446744073709551616) (n : Int) (L : List Ent) (c : Array Value) (k : ByteArray) (x : Int) (hk : k.size ≤ 9223372036854775800) (h : ML w s n L c) (hL : Rise L) (hn : L.length ≤ 50000) (hT : Tab6 w) :
    Calls Tryd.prog 49 #[.agg c, .string k, .int .i64 x] w fun r w' => ∃ c', r = .returned (.agg c') ∧ ML w' s n (insE L k x) c' ∧ Below w.heap.size w w' :=
  (hm_Set w s hss n L c k x hk h hL hn hT).mono fun _ _ ⟨c', e, h, hb⟩ => ⟨c', e, h.ml, hb⟩
theorem ml_Cut (w : World) (s : Nat) (hss : s < 18446744073709551616) (n : Int) (L : List Ent) (c : Array Value) (k : ByteArray) (hk : k.size ≤ 9223372036854775800) (h : ML w s n L c) (hL : Rise L) (hn : L.length ≤ 50000) (hT : Tab6 w) :
    Calls Tryd.prog 66 #[.agg c, .string k] w fun r w' => ∃ c', r = .returned (.agg c') ∧ ML w' s n (delE L k) c' ∧ Below w.heap.size w w' :=
  (hm_Cut w s hss n L c k hk h hL hn hT).mono fun _ _ ⟨c', e, h, hb⟩ => ⟨c', e, h.ml, hb⟩
theorem ml_Get (w : World) (s : Nat) (hss : s < 18446744073709551616) (n : Int) (L : List Ent) (c : Array Value) (k : ByteArray) (hk : k.size ≤ 9223372036854775800) (h : ML w s n L c) (hL : Rise L) (hn : L.length ≤ 50000) :
    Calls Tryd.prog 46 #[.agg c, .string k] w fun r w' => r = .returned (.tuple #[.int .i64 ((getE L k).getD 0), .bool (getE L k).isSome]) ∧ Below w.heap.size w w' := hm_Get w s hss n L c k hk h hL hn
theorem ml_Len (w : World) (s : Nat) (n : Int) (L : List Ent) (c : Array Value) (h : ML w s n L c) (W : World) :
    Calls Tryd.prog 47 #[.agg c] W fun r w' => r = .returned (.int .i64 (L.length : Int)) ∧ Below W.heap.size W w' := by
  obtain ⟨bb, p1, q1, r1, p2, q2, r2, e, _⟩ := h
  rw [e]
  exact hm_Len W s n L.length bb p1 q1 r1 p2 q2 r2
/-- What a call hands back: a map. -/
def GotM (V : World) (v : Value) (x : Nat × Int × List Ent) : Prop := ∃ c, v = .agg c ∧ ML V x.1 x.2.1 x.2.2 c
theorem gotM_later {A B : World} {v : Value} {x : Nat × Int × List Ent} (h : GotM A v x) (hb : Below A.heap.size A B) : GotM B v x := by
  obtain ⟨c, h1, h2⟩ := h
  exact ⟨c, h1, h2.later hb⟩
/-- What a script comes to is told step by step. -/
theorem run_take (l : List Op9) {j : Nat} (hj : j < l.length) : runE [] (l.take (j + 1)) = doE (runE [] (l.take j)) l[j] := by
  rw [List.take_succ_eq_append_getElem hj, runE_snoc]
theorem run_rise (l : List Op9) (j : Nat) : Rise (runE [] (l.take j)) := runE_rise Rise.nil _
theorem run_len (l : List Op9) (j : Nat) : (runE [] (l.take j)).length ≤ l.length := by
  have h := runE_len Rise.nil (l.take j)
  rw [List.length_take, List.length_nil] at h
  omega
theorem run_short (l : List Op9) (h : ∀ o ∈ l, o.1.size ≤ 200) (j : Nat) : Short (runE [] (l.take j)) := runE_keys (p := fun k => k.size ≤ 200) (fun e he => by cases he) fun o ho => h o (List.mem_of_mem_take ho)
/-- .. from a map on. -/
theorem run_takeL (L : List Ent) (l : List Op9) {j : Nat} (hj : j < l.length) : runE L (l.take (j + 1)) = doE (runE L (l.take j)) l[j] := by
  rw [List.take_succ_eq_append_getElem hj, runE_snoc]
theorem run_lenL {L : List Ent} (hL : Rise L) (l : List Op9) (j : Nat) : (runE L (l.take j)).length ≤ L.length + l.length := by
  have h := runE_len hL (l.take j)
  rw [List.length_take] at h
  omega
theorem run_shortL {L : List Ent} (hL : Short L) (l : List Op9) (h : ∀ o ∈ l, o.1.size ≤ 200) (j : Nat) : Short (runE L (l.take j)) := runE_keys (p := fun k => k.size ≤ 200) hL fun o ho => h o (List.mem_of_mem_take ho)
end Go.Proofs.YtnnlfgfgfegjkaaDoor
