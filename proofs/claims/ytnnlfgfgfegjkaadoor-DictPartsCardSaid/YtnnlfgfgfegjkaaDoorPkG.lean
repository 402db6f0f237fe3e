/- Texts put together: Hm1 Hm2 Hm3 Hm4. -/
import Derived.Test.YtnnlfgfgfegjkaaDoorPkF
import Derived.Test.YtnnlfgfgfegjkaaDoorPkC
import Derived.Test.YtnnlfgfgfegjkaaDoorSort
import Derived.Test.YtnnlfgfgfegjkaaDoorPkD

/- Package hamt: what keys, places and nodes are in memory. -/
namespace Go.Proofs.YtnnlfgfgfegjkaaDoor
open Go.RowKit
set_option maxRecDepth 1000000
set_option linter.unusedSimpArgs false

/-- v is a list at the head of a block of the kind S, no part of which is frozen: nil, if there is none. -/
def HeadZ (S : Nat → Prop) (W : World) (T : TypeId) (s : Nat) (v : Value) (cs : List Value) (n : Nat) : Prop :=
  cs.length = n * s ∧ ((n = 0 ∧ v = .slice none 0 0) ∨ (0 < n ∧ ∃ (g c : Nat) (cur : Array Value), v = .slice (some ⟨g, 0, none⟩) n c ∧ n ≤ c ∧ S g ∧ W.heap[g]? = some (.cells cur T (0, 0)) ∧ ∀ (j : Nat) (u : Value), cs[j]? = some u → cur[j]? = some u))
theorem HeadZ.head {S : Nat → Prop} {W : World} {T : TypeId} {s n : Nat} {v : Value} {cs : List Value} (h : HeadZ S W T s v cs n) : HeadAt S W T s v cs n := by
  obtain ⟨h0, h⟩ := h
  refine ⟨h0, h.imp_right ?_⟩
  rintro ⟨h1, g, c, cur, h2, h3, hS, h4, h5⟩
  exact ⟨h1, g, c, cur, (0, 0), h2, h3, hS, h4, h5⟩
theorem ownsRow_headZ {n : Nat} {v : Value} {cs : List Value} {s : Nat} {w : World} {base : Nat} {e : TypeId} (h : w.ownsRow base e s v n cs) (h0 : 0 < n) : HeadZ (fun g => base ≤ g) w e s v cs n := by
  obtain ⟨hl, ⟨rfl, rfl⟩ | ⟨g, cap, cur, rfl, hb, hg, hc, h3, h4, h5⟩⟩ := h
  · omega
  · refine ⟨hl, .inr ⟨h0, g, cap, cur, rfl, hc, hb, hg, fun j u hu => ?_⟩⟩
    have hj := (List.getElem?_eq_some_iff.1 hu).1
    rw [hl] at hj
    rw [← h5, List.getElem?_take_of_lt hj, Array.getElem?_toList] at hu
    exact hu
/-- A key's cells: the key, its sum, its thing. -/
def entC (hs : ByteArray → Nat) (e : Ent) : Array Value := #[.string e.1, .int .u64 (hs e.1 : Nat), .int .i64 e.2]
/-- A key lies whole in block b. -/
def EntAt (hs : ByteArray → Nat) (S : Nat → Prop) (w : World) (b : Nat) (e : Ent) : Prop := S b ∧ ∃ fr, w.heap[b]? = some (.cells (entC hs e) 110 fr)
/-- What a place has of some keys: nothing, the one key, or the node of them. -/
def PlAt (hs : ByteArray → Nat) (S : Nat → Prop) (w : World) (ND : List Ent → Array Value → Prop) (L : List Ent) (p : Option Pl) : Prop :=
  match L with
  | [] => p = none
  | [e] => ∃ b, p = some (some b, none) ∧ EntAt hs S w b e
  | _ :: _ :: _ => ∃ b c fr, p = some (none, some b) ∧ S b ∧ w.heap[b]? = some (.cells c 34 fr) ∧ ND L c
/-- These cells are the node of these keys, f levels above the lists. -/
def NodeAt (hs : ByteArray → Nat) (S : Nat → Prop) : Nat → World → List Ent → Array Value → Prop
  | 0, w, L, c => ∃ (v : Value) (qs : List (Nat × Ent)), c = #[.int .u32 0, .slice none 0 0, v] ∧ HeadZ S w 106 1 v (en enE (qs.map (·.1))) L.length ∧ L = qs.map (·.2) ∧ ∀ q ∈ qs, EntAt hs S w q.1 q.2
  | f + 1, w, L, c => ∃ (v : Value) (R : Rg Pl), c = #[.int .u32 (bitsG R 32 : Nat), v, .slice none 0 0] ∧ HeadAt S w 117 2 v (en enPl (lisG R)) (cntG R 32) ∧
      ∀ i, i < 32 → PlAt hs S w (NodeAt hs S f w) (chE hs (12 - f) i L) (R i)
/-- One of the blocks that maps are made of. -/
def HmO (o : Obj) : Prop := ∃ cs T fr, o = .cells cs T fr ∧ (T = 110 ∨ T = 34 ∨ T = 117 ∨ T = 106)
/-- All of these in blocks of the kind S are kept. -/
def Kp (S : Nat → Prop) (w w' : World) : Prop := ∀ g o, S g → HmO o → w.heap[g]? = some o → w'.heap[g]? = some o
section
variable {hs : ByteArray → Nat} {S S' : Nat → Prop} {w w' w'' : World}
theorem HeadAt.weak' {T : TypeId} {s n : Nat} {v : Value} {cs : List Value} (h : HeadAt S w T s v cs n) (hS : ∀ g c, v = .slice (some ⟨g, 0, none⟩) n c → S g → S' g) : HeadAt S' w T s v cs n := by
  obtain ⟨h0, h⟩ := h
  refine ⟨h0, h.imp_right ?_⟩
  rintro ⟨h1, g, c, cur, fr, h2, h3, hg, h4⟩
  exact ⟨h1, g, c, cur, fr, h2, h3, hS g c h2 hg, h4⟩
theorem Kp.later (hb : Below w.heap.size w w') : Kp S w w' := fun g _ _ _ h => (hb.block g (Array.getElem?_eq_some_iff.1 h).1).trans h
theorem Kp.low {n₀ : Nat} (hb : Below n₀ w w') (hS : ∀ g, S g → g < n₀) : Kp S w w' := fun g _ hg _ h => (hb.block g (hS g hg)).trans h
theorem Kp.only {X : Nat} (k : Only X w w') (hX : ¬ S X) : Kp S w w' := fun _ _ hg _ h => k.other h (fun e => hX (e ▸ hg))
theorem Kp.grown {row : Option Nat} (hg : w.grownBy w' row) (hX : ∀ X, row = some X → ¬ S X) : Kp S w w' := fun g _ hS _ h => (hg.block g (Array.getElem?_eq_some_iff.1 h).1 (fun e => hX g e.symm hS)).trans h
/-- What is written is a block of another type. -/
theorem Kp.grownT {row : Option Nat} {T : TypeId} (hg : w.grownBy w' row) (hX : ∀ X, row = some X → ∃ cs fr, w.heap[X]? = some (.cells cs T fr))
    (hT : ¬ (T = 110 ∨ T = 34 ∨ T = 117 ∨ T = 106)) : Kp S w w' := fun g _ _ ho h => (hg.block g (Array.getElem?_eq_some_iff.1 h).1 (fun e => by
    obtain ⟨cs, fr, hX⟩ := hX g e.symm
    rw [h] at hX
    obtain ⟨cs', T', fr', rfl, hT'⟩ := ho
    cases hX
    exact hT hT')).trans h
theorem Kp.onlyT {X : Nat} {cs : Array Value} {T : TypeId} {fr : Nat × Nat} (k : Only X w w') (hX : w.heap[X]? = some (.cells cs T fr))
    (hT : ¬ (T = 110 ∨ T = 34 ∨ T = 117 ∨ T = 106)) : Kp S w w' :=
  Kp.grownT k.by_ (fun Y e => by cases e; exact ⟨cs, fr, hX⟩) hT
theorem Kp.trans (h : Kp S w w') (k : Kp S w' w'') : Kp S w w'' := fun g o hg ho e => k g o hg ho (h g o hg ho e)
theorem HeadAt.kp {T : TypeId} {s n : Nat} {v : Value} {cs : List Value} (h : HeadAt S w T s v cs n) (k : Kp S w w') (hT : T = 117 ∨ T = 106) : HeadAt S w' T s v cs n := by
  obtain ⟨h0, h⟩ := h
  refine ⟨h0, h.imp_right ?_⟩
  rintro ⟨h1, g, c, cur, fr, h2, h3, hS, h4, h5⟩
  exact ⟨h1, g, c, cur, fr, h2, h3, hS, k g _ hS ⟨_, _, _, rfl, by rcases hT with h | h <;> simp [h]⟩ h4, h5⟩
theorem HeadZ.imp {T : TypeId} {s n : Nat} {v : Value} {cs : List Value} (h : HeadZ S w T s v cs n) (k : Kp S w w') (hT : T = 117 ∨ T = 106) (hS : ∀ g, S g → g < w.heap.size → S' g) : HeadZ S' w' T s v cs n := by
  obtain ⟨h0, h⟩ := h
  refine ⟨h0, h.imp_right ?_⟩
  rintro ⟨h1, g, c, cur, h2, h3, hg, h4, h5⟩
  exact ⟨h1, g, c, cur, h2, h3, hS g hg (Array.getElem?_eq_some_iff.1 h4).1, k g _ hg ⟨_, _, _, rfl, by rcases hT with h | h <;> simp [h]⟩ h4, h5⟩
theorem EntAt.kp {b : Nat} {e : Ent} (h : EntAt hs S w b e) (k : Kp S w w') : EntAt hs S w' b e := by
  obtain ⟨h1, fr, h2⟩ := h
  exact ⟨h1, fr, k b _ h1 ⟨_, _, _, rfl, .inl rfl⟩ h2⟩
theorem EntAt.weak {b : Nat} {e : Ent} (h : EntAt hs S w b e) (hS : ∀ g, S g → S' g) : EntAt hs S' w b e := ⟨hS b h.1, h.2⟩
theorem EntAt.lt {b : Nat} {e : Ent} (h : EntAt hs S w b e) : b < w.heap.size := by
  obtain ⟨_, fr, h⟩ := h
  exact (Array.getElem?_eq_some_iff.1 h).1
theorem EntAt.old {b : Nat} {e : Ent} (h : EntAt hs S w b e) : EntAt hs (fun g => S g ∧ g < w.heap.size) w b e := ⟨⟨h.1, h.lt⟩, h.2⟩
theorem PlAt.imp {ND ND' : List Ent → Array Value → Prop} {L : List Ent} {p : Option Pl} (h : PlAt hs S w ND L p) (k : Kp S w w') (hS : ∀ g, S g → g < w.heap.size → S' g) (hN : ∀ L c, ND L c → ND' L c) : PlAt hs S' w' ND' L p := by
  match L, h with
  | [], h => exact h
  | [e], h =>
    obtain ⟨b, h1, h2⟩ := h
    have h3 := h2.kp k
    exact ⟨b, h1, hS b h2.1 h2.lt, h3.2⟩
  | a :: b :: r, h =>
    obtain ⟨g, c, fr, h1, h2, h3, h4⟩ := h
    exact ⟨g, c, fr, h1, hS g h2 (Array.getElem?_eq_some_iff.1 h3).1, k g _ h2 ⟨_, _, _, rfl, .inr (.inl rfl)⟩ h3, hN _ _ h4⟩
/-- A node is kept; its blocks may be said to be of another kind, too. -/
theorem NodeAt.imp (k : Kp S w w') (hS : ∀ g, S g → g < w.heap.size → S' g) : ∀ {f : Nat} {L : List Ent} {c : Array Value}, NodeAt hs S f w L c → NodeAt hs S' f w' L c
  | 0, L, c, h => by
    obtain ⟨v, qs, h1, h2, h3, h4⟩ := h
    exact ⟨v, qs, h1, h2.imp k (.inr rfl) hS, h3, fun q hq => ⟨hS _ (h4 q hq).1 (h4 q hq).lt, ((h4 q hq).kp k).2⟩⟩
  | f + 1, L, c, h => by
    obtain ⟨v, R, h1, h2, h3⟩ := h
    refine ⟨v, R, h1, ((h2.kp k (.inl rfl))).weak' ?_, fun i hi => (h3 i hi).imp k hS fun _ _ h => NodeAt.imp k hS h⟩
    intro g c e hg
    obtain ⟨_, ⟨_, e2⟩ | ⟨_, g', c', cur, fr, e2, _, _, e4, _⟩⟩ := h2
    · rw [e2] at e; cases e
    · rw [e2] at e
      simp only [Value.slice.injEq, Option.some.injEq, Addr.mk.injEq] at e
      rw [← e.1.1]
      exact hS g' (by rw [e.1.1]; exact hg) (Array.getElem?_eq_some_iff.1 e4).1
theorem NodeAt.kp {f : Nat} {L : List Ent} {c : Array Value} (h : NodeAt hs S f w L c) (k : Kp S w w') : NodeAt hs S f w' L c := h.imp k fun _ h _ => h
theorem NodeAt.weak {f : Nat} {L : List Ent} {c : Array Value} (h : NodeAt hs S f w L c) (hS : ∀ g, S g → S' g) : NodeAt hs S' f w L c := h.imp (fun _ _ _ _ e => e) fun g h _ => hS g h
theorem NodeAt.old {f : Nat} {L : List Ent} {c : Array Value} (h : NodeAt hs S f w L c) : NodeAt hs (fun g => S g ∧ g < w.heap.size) f w L c := h.imp (fun _ _ _ _ e => e) fun _ h h' => ⟨h, h'⟩
theorem NodeAt.later {f : Nat} {L : List Ent} {c : Array Value} (h : NodeAt hs S f w L c) (hb : Below w.heap.size w w') : NodeAt hs S f w' L c := h.kp (Kp.later hb)
theorem EntAt.later {b : Nat} {e : Ent} (h : EntAt hs S w b e) (hb : Below w.heap.size w w') : EntAt hs S w' b e := h.kp (Kp.later hb)
theorem PlAt.weak {f : Nat} {L : List Ent} {p : Option Pl} (h : PlAt hs S w (NodeAt hs S f w) L p) (hS : ∀ g, S g → S' g) : PlAt hs S' w (NodeAt hs S' f w) L p := h.imp (fun _ _ _ _ e => e) (fun g h _ => hS g h) fun _ _ h => h.weak hS
theorem PlAt.kp {f : Nat} {L : List Ent} {p : Option Pl} (h : PlAt hs S w (NodeAt hs S f w) L p) (k : Kp S w w') : PlAt hs S w' (NodeAt hs S f w') L p := h.imp k (fun _ h _ => h) fun _ _ h => h.kp k
theorem PlAt.later {f : Nat} {L : List Ent} {p : Option Pl} (h : PlAt hs S w (NodeAt hs S f w) L p) (hb : Below w.heap.size w w') : PlAt hs S w' (NodeAt hs S f w') L p := h.kp (Kp.later hb)
theorem PlAt.old {f : Nat} {L : List Ent} {p : Option Pl} (h : PlAt hs S w (NodeAt hs S f w) L p) : PlAt hs (fun g => S g ∧ g < w.heap.size) w (NodeAt hs (fun g => S g ∧ g < w.heap.size) f w) L p := h.imp (fun _ _ _ _ e => e) (fun _ h h' => ⟨h, h'⟩) fun _ _ h => h.old
/-- The node of no keys. -/
def zeroN : Array Value := #[.int .u32 0, .slice none 0 0, .slice none 0 0]
theorem NodeAt.zero (hs : ByteArray → Nat) (S : Nat → Prop) (w : World) : ∀ f, NodeAt hs S f w [] zeroN
  | 0 => ⟨_, [], rfl, ⟨rfl, .inl ⟨rfl, rfl⟩⟩, rfl, fun q hq => by cases hq⟩
  | f + 1 => ⟨_, noG, by rw [bits_noG]; rfl, by rw [lis_noG, cnt_noG]; exact ⟨rfl, .inl ⟨rfl, rfl⟩⟩, fun i _ => rfl⟩
/-- A node's three cells. -/
theorem NodeAt.three {f : Nat} {L : List Ent} {c : Array Value} (h : NodeAt hs S f w L c) : ∃ (b : Nat) (a1 : Option Addr) (n1 c1 : Nat) (a2 : Option Addr) (n2 c2 : Nat), c = #[.int .u32 (b : Int), .slice a1 n1 c1, .slice a2 n2 c2] := by
  cases f with
  | zero =>
    obtain ⟨v, qs, rfl, h2, _⟩ := h
    obtain ⟨a, n, rfl, _⟩ := h2.head.shape
    exact ⟨0, none, 0, 0, a, _, n, rfl⟩
  | succ f =>
    obtain ⟨v, R, rfl, h2, _⟩ := h
    obtain ⟨a, n, rfl, _⟩ := h2.shape
    exact ⟨_, a, _, n, none, 0, 0, rfl⟩
theorem NodeAt.size {f : Nat} {L : List Ent} {c : Array Value} (h : NodeAt hs S f w L c) : c.size = 3 := by
  obtain ⟨_, _, _, _, _, _, _, rfl⟩ := h.three
  rfl
theorem NodeAt.one {f : Nat} {L : List Ent} {c : Array Value} (h : NodeAt hs S f w L c) : c.all (·.oneCell') = true := by
  obtain ⟨_, _, _, _, _, _, _, rfl⟩ := h.three
  simp [Value.oneCell']
/-- A node above the lists: its row, and what its places have. -/
theorem NodeAt.row {f : Nat} {L : List Ent} {c : Array Value} (h : NodeAt hs S (f + 1) w L c) : ∃ (b v : Value) (R : Rg Pl), c = #[b, v, .slice none 0 0] ∧ AtR S w R #[b, v] ∧ ∀ i, i < 32 → PlAt hs S w (NodeAt hs S f w) (chE hs (12 - f) i L) (R i) := by
  obtain ⟨v, R, rfl, h2, h3⟩ := h
  exact ⟨_, v, R, rfl, ⟨v, rfl, h2⟩, h3⟩
theorem NodeAt.of_row {f : Nat} {L : List Ent} {R : Rg Pl} {c : Array Value} (h : AtR S w R c) (h3 : ∀ i, i < 32 → PlAt hs S w (NodeAt hs S f w) (chE hs (12 - f) i L) (R i)) : ∃ b v, c = #[b, v] ∧ NodeAt hs S (f + 1) w L #[b, v, .slice none 0 0] := by
  obtain ⟨v, rfl, h2⟩ := h
  exact ⟨_, v, rfl, v, R, rfl, h2, h3⟩
end
end Go.Proofs.YtnnlfgfgfegjkaaDoor

/- Package hamt: search (slices.BinarySearchFunc over a list of keys). -/
namespace Go.Proofs.YtnnlfgfgfegjkaaDoor
open Go.RowKit Go.Shelf Go.Lib Go.Sort
set_option maxRecDepth 1000000
set_option linter.unusedSimpArgs false

/-- What is not the row lies as it lay in a world of the sort's. -/
theorem sw_block {α : Type} [Inhabited α] (enc : α → Value) (w : World) (blk off m : Nat) (dk : Array α) (os : Array Obj) {b : Nat} (hb : b < w.heap.size) (hne : b ≠ blk) : (sortWorld enc w blk off m dk os).heap[b]? = w.heap[b]? := by
  unfold sortWorld grow putRow mapBlock
  simp only
  rw [Array.getElem?_append_left (by simp; exact hb), Array.getElem?_modify, if_neg (fun e => hne e.symm)]
  rfl
theorem sw_below {α : Type} [Inhabited α] (enc : α → Value) (w : World) (blk off m : Nat) (dk : Array α) (os : Array Obj) {B : Nat} (hB : B ≤ w.heap.size) (hblk : B ≤ blk) : Below B w (sortWorld enc w blk off m dk os) :=
  ⟨rfl, rfl, rfl, by simp [sortWorld, grow, putRow, mapBlock], fun k hk => sw_block enc w blk off m dk os (by omega) (by omega)⟩
theorem sw_same {α : Type} [Inhabited α] (enc : α → Value) (w : World) (blk off m : Nat) (d : Array α) (os : Array Obj) (hH : Holds enc w blk off d) : Below w.heap.size w (sortWorld enc w blk off m d os) := by
  unfold sortWorld
  rw [putRow_self enc (Sort.ahead w m) blk off d (fun j hj => hH j hj)]
  exact ⟨rfl, rfl, rfl, by simp [grow, Sort.ahead], fun k hk => by
    simp only [grow, Sort.ahead]
    rw [Array.getElem?_append_left hk]⟩
set_option maxHeartbeats 1000000 in
theorem hm_search1 (hs : ByteArray → Nat) (b : Nat) (e : Ent) (k : ByteArray) (w : World) {fr : Nat × Nat} (h : w.heap[b]? = some (.cells (entC hs e) 110 fr)) :
    Calls Tryd.prog 93 #[pv (some b), .string k] w fun r w' => r = .returned (.int .i64 (orderS (kb e.1) (kb k))) ∧ w' = w := by
  have c0 : w.cell? ⟨b, 0, none⟩ = some (.string e.1) := cell_in h rfl
  have HO := Lib.hid (fun w => q_Order e.1 k w)
  unfold pv
  clear h
  go_enter Tryd.func93, Tryd.ntmps93
  go_wp2_with (go_at_call 63; refine (HO.out _).mono ?_; rintro r w1 ⟨rfl, hw⟩; obtain rfl := hw)
  go_ret
  exact ⟨rfl, rfl⟩
/-- How a key of a node's list stands to k. -/
def cftK (k : ByteArray) (e : Ent) : Int := orderS (kb e.1) (kb k)
theorem cft_neg (k : ByteArray) (e : Ent) : decide (cftK k e < 0) = decide (kb e.1 < kb k) := by
  have h := orderS_less (kb e.1) (kb k)
  have hr := orderS_range (kb e.1) (kb k)
  unfold cftK
  rw [decide_eq_decide, ← h]
  omega
theorem cft_zero (k : ByteArray) (e : Ent) : cftK k e = 0 ↔ e.1 = k := by
  unfold cftK
  rw [orderS_zero, kb_iff]
theorem flat_ps (qs : List (Nat × Ent)) : ∀ (j : Nat), (en enE (qs.map (·.1)))[j]? = (qs[j]?).map fun q => pv (some q.1) := by
  induction qs with
  | nil => intro j; simp [en]
  | cons q qs ih =>
    intro j
    cases j with
    | zero => simp [en, enE]
    | succ j =>
      have := ih j
      unfold en enE at this ⊢
      simp only [List.map_cons, List.flatMap_cons, List.singleton_append, List.getElem?_cons_succ]
      exact this
set_option maxHeartbeats 2000000 in
theorem hm_search {hs : ByteArray → Nat} {S : Nat → Prop} (w : World) (L : List Ent) (c : Array Value) (k : ByteArray) (h : NodeAt hs S 0 w L c) (hL : Rise L) (hn : L.length ≤ 100000) :
    Calls Tryd.prog 78 #[.agg c, .string k] w fun r w' => r = .returned (.tuple #[.int .i64 ((belE L k).length : Nat), .bool (getE L k).isSome]) ∧ Below w.heap.size w w' := by
  obtain ⟨v, qs, rfl, h2, rfl, h4⟩ := h
  obtain ⟨w1, hw1⟩ : ∃ w1, w.alloc (.cells #[.int .u32 0, .slice none 0 0, v] 34) = w1 := ⟨_, rfl⟩
  have hb1 : Below w.heap.size w w1 := by rw [← hw1]; exact Below.newly' _ _
  have hx1 : w1.heap[w.heap.size]? = some (.cells #[.int .u32 0, .slice none 0 0, v] 34 (0, 0)) := by rw [← hw1]; exact heap_alloc_last _ _
  have ca2 : w1.cell? ⟨w.heap.size, 2, none⟩ = some v := cell_in hx1 rfl
  have HB1 := Lib.hid hb1
  obtain ⟨hl, h2⟩ := h2
  rw [List.length_map] at h2 hl
  rcases h2 with ⟨h0, rfl⟩ | ⟨h0, g, cp, cur, rfl, hcp, hS, hg, hc⟩
  · obtain rfl : qs = [] := List.eq_nil_of_length_eq_zero h0
    have HN := Lib.hid (fun W => Any.slices_BinarySearchFunc_none Tryd.searchL none 0 (.string k) (.func (.func 93) #[] #[]) W)
    clear h4 hL hb1 hx1 hl h0
    go_enter Tryd.func78, Tryd.ntmps78
    go_upto_region 1 with fail
    clear hw1
    go_wp2_with (go_at_call 92; refine (HN.out _).mono ?_; rintro r w2 ⟨rfl, hw⟩; obtain rfl := hw.symm)
    go_ret2
    exact ⟨rfl, HB1.out⟩
  · -- the list as an array of keys that lie there
    have hin : Inhabited { q : Nat × Ent // q ∈ qs } := ⟨⟨qs[0], List.getElem_mem h0⟩⟩
    obtain ⟨d, hd⟩ : ∃ d : Array { q : Nat × Ent // q ∈ qs }, d = qs.attach.toArray := ⟨_, rfl⟩
    have hds : d.size = qs.length := by rw [hd]; simp
    have hdl : d.toList.map Subtype.val = qs := by rw [hd, List.toList_toArray]; exact List.attach_map_subtype_val qs
    have hda : ∀ j, j < d.size → qs[j]? = some (d[j]!).1 := fun j hj => by
      have e : (d.toList.map Subtype.val)[j]? = qs[j]? := congrArg (fun l => l[j]?) hdl
      refine e.symm.trans ?_
      rw [List.getElem?_map, Array.getElem?_toList, Array.getElem?_eq_getElem hj, getElem!_pos d j hj]
      rfl
    have hrow : w1.heap[g]? = some (.cells cur 106 (0, 0)) := (hb1.block _ (Array.getElem?_eq_some_iff.1 hg).1).trans hg
    have hHo : Holds (fun q : { q : Nat × Ent // q ∈ qs } => pv (some q.1.1)) w1 g 0 d := fun j hj => by
      have hq := hc j (pv (some (d[j]!).1.1)) (by rw [flat_ps, hda j hj]; rfl)
      refine ⟨by rw [Nat.zero_add]; exact cell_in hrow hq, ?_⟩
      simp [World.frozen?, hrow]
    have hne : ∀ q ∈ qs, q.1 ≠ g := fun q hq e => by
      obtain ⟨_, fr, hx⟩ := h4 q hq
      rw [e, hg] at hx
      simp only [Option.some.injEq, Obj.cells.injEq] at hx
      exact absurd hx.2.1 (by decide)
    have hcmp : CmpLaysT Tryd.prog 93 #[] (fun q : { q : Nat × Ent // q ∈ qs } => pv (some q.1.1)) (.string k) (fun q => cftK k q.1.2) g 0 d.size w1 := fun m os dk _ x => by
      obtain ⟨_, fr, hx⟩ := h4 x.1 x.2
      have hlt := (Array.getElem?_eq_some_iff.1 hx).1
      have hx2 : (sortWorld (fun q : { q : Nat × Ent // q ∈ qs } => pv (some q.1.1)) w1 g 0 m dk os).heap[x.1.1]? = some (.cells (entC hs x.1.2) 110 fr) :=
        (sw_block _ w1 g 0 m dk os (Nat.lt_of_lt_of_le hlt hb1.size) (hne x.1 x.2)).trans ((hb1.block _ hlt).trans hx)
      refine (hm_search1 hs x.1.1 x.1.2 k _ hx2).mono ?_
      rintro r w' ⟨rfl, rfl⟩
      exact ⟨rfl, 0, #[], by rw [grow_empty]; rfl⟩
    have eg : ∀ args w, (callFunc 93 args).run Tryd.prog w = .ok (.enter 93 args) w := enters_of Tryd.func93 (by kernel_rfl) rfl
    have hmono : ∀ a b, a ≤ b → b < d.size → cftK k (d[b]!).1.2 < 0 → cftK k (d[a]!).1.2 < 0 := fun a b hab hb hlt => by
      have h1 : kb (d[b]!).1.2.1 < kb k := by have := cft_neg k (d[b]!).1.2; simpa [hlt] using this
      have h2 : kb (d[a]!).1.2.1 < kb k := by
        rcases Nat.lt_or_ge a b with hlt2 | hge
        · have hp := List.pairwise_iff_getElem.1 hL a b (by rw [List.length_map]; omega) (by rw [List.length_map]; omega) hlt2
          have ea := hda a (by omega)
          have eb := hda b hb
          rw [List.getElem?_eq_getElem (by omega)] at ea eb
          simp only [List.getElem_map, Option.some.inj ea, Option.some.inj eb] at hp
          exact List.lt_trans hp h1
        · obtain rfl : a = b := by omega
          exact h1
      have := cft_neg k (d[a]!).1.2
      simpa [h2] using this
    have hcon := Any.slices_BinarySearchFunc Tryd.searchL (fun q : { q : Nat × Ent // q ∈ qs } => pv (some q.1.1)) (fun _ => rfl) (.string k) (fun q => cftK k q.1.2) 93 #[] g 0 cp d w1 eg hcmp hHo (Array.getElem?_eq_some_iff.1 hrow).1 (by rw [hds]; rw [List.length_map] at hn; omega) hmono
    change Calls Tryd.prog 92 _ _ _ at hcon
    rw [hds] at hcon
    have hcnt : d.toList.countP (fun x => decide (cftK k x.1.2 < 0)) = (belE (qs.map (·.2)) k).length := by
      have e : d.toList.countP (fun x => decide (cftK k x.1.2 < 0)) = ((d.toList.map Subtype.val).map (·.2)).countP (fun e => decide (cftK k e < 0)) := by
        rw [List.countP_map, List.countP_map]
        rfl
      rw [e, hdl, List.countP_eq_length_filter]
      unfold belE
      congr 2
      funext e
      exact cft_neg k e
    rw [hcnt] at hcon
    obtain ⟨N, hN⟩ : ∃ N, N = (belE (qs.map (·.2)) k).length := ⟨_, rfl⟩
    have his : (decide (N < qs.length) && decide (cftK k (d[N]!).1.2 = 0)) = (getE (qs.map (·.2)) k).isSome := by
      obtain ⟨p1, p2⟩ := at_place hL k
      rw [← hN] at p1 p2
      by_cases hlt : N < qs.length
      · have ha := hda N (by omega)
        have hp := p1 (d[N]!).1.2 (by rw [List.getElem?_map, ha]; rfl)
        rw [decide_eq_true hlt, Bool.true_and]
        cases hg : (getE (qs.map (·.2)) k).isSome with
        | true => rw [decide_eq_true_eq]; exact (cft_zero k _).2 (hp.2 hg)
        | false =>
          rw [decide_eq_false_iff_not]
          intro h0
          have := hp.1 ((cft_zero k _).1 h0)
          rw [hg] at this
          cases this
      · rw [decide_eq_false hlt, Bool.false_and]
        cases hg : (getE (qs.map (·.2)) k).isSome with
        | false => rfl
        | true =>
          obtain ⟨e, he, _⟩ := p2 hg
          have := (List.getElem?_eq_some_iff.1 he).1
          rw [List.length_map] at this
          omega
    rw [← hN] at hcon ⊢
    rw [his] at hcon
    have HC := Lib.hid hcon
    have HHO := Lib.hid hHo
    obtain ⟨R, hR⟩ : ∃ R, R = (getE (qs.map (·.2)) k).isSome := ⟨_, rfl⟩
    rw [← hR] at HC ⊢
    clear hcon his hcnt hmono eg hcmp hne hHo hrow hda hdl hd h4 hL hb1 hx1 hl hc hg hS hcp hn hN hR
    go_enter Tryd.func78, Tryd.ntmps78
    go_upto_region 1 with fail
    clear hw1
    go_wp2_with (go_at_call 92; refine HC.out.mono ?_; rintro r w2 ⟨rfl, m, os, hw⟩; have HW2 := Lib.hid hw; clear hw)
    go_ret2
    exact ⟨rfl, by rw [HW2.out]; exact HB1.out.trans ((sw_same _ w1 g 0 m d os HHO.out).mono HB1.out.size)⟩
end Go.Proofs.YtnnlfgfgfegjkaaDoor

/- Package hamt: find. (written by tools/gen09/find9.py) -/
namespace Go.Proofs.YtnnlfgfgfegjkaaDoor
open Go.RowKit
set_option maxRecDepth 1000000
set_option linter.unusedSimpArgs false

/-- What is found of a key: nil, or where it lies. -/
def Found (hs : ByteArray → Nat) (S : Nat → Prop) (w : World) (L : List Ent) (k : ByteArray) (p : Option Nat) : Prop := match getE L k with
  | none => p = none
  | some x => ∃ b, p = some b ∧ EntAt hs S w b (k, x)
theorem Found.kp {hs : ByteArray → Nat} {S : Nat → Prop} {w w' : World} {L : List Ent} {k : ByteArray} {p : Option Nat} (h : Found hs S w L k p) (kk : Kp S w w') : Found hs S w' L k p := by
  unfold Found at h ⊢
  cases hg : getE L k with
  | none => rw [hg] at h; exact h
  | some x =>
    rw [hg] at h
    obtain ⟨b, h1, h2⟩ := h
    exact ⟨b, h1, h2.kp kk⟩
theorem Found.later {hs : ByteArray → Nat} {S : Nat → Prop} {w w' : World} {L : List Ent} {k : ByteArray} {p : Option Nat} (h : Found hs S w L k p) (hb : Below w.heap.size w w') : Found hs S w' L k p := h.kp (Kp.later hb)
theorem Found.isSome {hs : ByteArray → Nat} {S : Nat → Prop} {w : World} {L : List Ent} {k : ByteArray} {p : Option Nat} (h : Found hs S w L k p) : p.isSome = (getE L k).isSome := by
  unfold Found at h
  cases hg : getE L k with
  | none => rw [hg] at h; rw [h]; rfl
  | some x => rw [hg] at h; obtain ⟨b, h1, _⟩ := h; rw [h1]; rfl
theorem Found.congr {hs : ByteArray → Nat} {S : Nat → Prop} {w : World} {L M : List Ent} {k : ByteArray} {p : Option Nat} (h : Found hs S w L k p) (e : getE L k = getE M k) : Found hs S w M k p := by
  unfold Found at h ⊢
  rw [← e]
  exact h
theorem ret_pv (p : Option Nat) : ∀ v, v = pv p → Ending.returned v = .returned (pv p) := fun v h => by rw [h]
/-- What find gives of a node. -/
def FindOk (hs : ByteArray → Nat) (f : Nat) : Prop := ∀ (S : Nat → Prop) (w : World) (L : List Ent) (c : Array Value) (k : ByteArray), NodeAt hs S f w L c → Rise L → L.length ≤ 100000 →
    Calls Tryd.prog 68 #[.agg c, .int .i64 ((13 - f : Nat) : Int), .int .u64 (hs k : Nat), .string k] w fun r w' => ∃ p, r = .returned (pv p) ∧ Found hs S w' L k p ∧ Below w.heap.size w w'
set_option maxHeartbeats 2000000 in
theorem hm_find_0 (hs : ByteArray → Nat) : FindOk hs 0 := by
  intro S w L c k h hL hn
  obtain ⟨w1, hw1⟩ : ∃ w1, w.alloc (.cells c 34) = w1 := ⟨_, rfl⟩
  have hb1 : Below w.heap.size w w1 := by rw [← hw1]; exact Below.newly' _ _
  have hx1 : w1.heap[w.heap.size]? = some (.cells c 34 (0, 0)) := by rw [← hw1]; exact heap_alloc_last _ _
  have HX1 := Lib.hid hx1
  have HB1 := Lib.hid hb1
  have HS := Lib.hid (hm_search w1 L c k (h.later hb1) hL hn)
  have HSZ := Lib.hid h.size
  obtain ⟨v, qs, rfl, h2, hq, h4⟩ := h
  obtain ⟨p1, p2⟩ := at_place hL k
  rw [show (((13 - 0 : Nat) : Nat) : Int) = 13 from rfl]
  cases hg : getE L k with
  | none =>
    rw [hg] at HS
    clear h2 h4 p1 p2 hb1 hx1
    go_enter Tryd.func68, Tryd.ntmps68
    go_upto_region 1 with fail
    clear hw1
    go_wp2_with (first
      | (refine ld_if (by rfl) 34 _ rfl w.heap.size rfl 34 _ _ _ HX1.out Tryd.underlying34 rfl nd_size ?_)
      | (go_at_call 78; refine HS.out.mono ?_; rintro r w2 ⟨rfl, hb⟩; have HB2 := Lib.hid (HB1.out.trans (hb.mono HB1.out.size)); clear hb))
    go_ret
    exact ⟨none, rfl, by unfold Found; rw [hg], HB2.out⟩
  | some x =>
    rw [hg] at HS
    obtain ⟨e, he, hek, hex⟩ := p2 (by rw [hg]; rfl)
    obtain ⟨N, hN⟩ : ∃ N, N = (belE L k).length := ⟨_, rfl⟩
    rw [← hN] at HS he
    rw [hq, List.getElem?_map] at he
    obtain ⟨q, hqN, hqe⟩ := Option.map_eq_some_iff.1 he
    have hlt := (List.getElem?_eq_some_iff.1 hqN).1
    obtain ⟨hl, h2⟩ := h2
    rw [hq, List.length_map] at h2
    rcases h2 with ⟨h0, _⟩ | ⟨h0, g, cp, cur, rfl, hcp, hS, hgg, hc⟩
    · omega
    · have hcell : w.cell? ⟨g, N, none⟩ = some (pv (some q.1)) := cell_in hgg (hc N _ (by rw [flat_ps, hqN]; rfl))
      have hcell1 := (hb1.cell (p := ⟨g, N, none⟩) (Array.getElem?_eq_some_iff.1 hgg).1).trans hcell
      have HEN := Lib.hid (h4 q (List.mem_of_getElem? hqN))
      rw [hg] at hex
      have hqk : q.2 = (k, x) := by rw [hqe]; exact Prod.ext hek (Option.some.inj hex).symm
      rw [hqk] at HEN
      have HC1 := Lib.hid hcell1
      have hlt' : (N : Int) < (qs.length : Int) := by omega
      obtain ⟨b, hb⟩ : ∃ b, b = q.1 := ⟨_, rfl⟩
      rw [← hb] at HC1 HEN
      have HG1 := Lib.hid (Array.getElem?_eq_some_iff.1 hgg).1
      clear h4 p1 p2 hb1 hx1 hl hgg hc hcell hcell1 he hqe hqk hqN hlt hek hex hN hb
      go_enter Tryd.func68, Tryd.ntmps68
      go_upto_region 1 with fail
      clear hw1
      go_wp2_with (first
        | (refine ld_if (by rfl) 34 _ rfl w.heap.size rfl 34 _ _ _ HX1.out Tryd.underlying34 rfl nd_size ?_)
        | (go_at_call 78; refine HS.out.mono ?_; rintro r w2 ⟨rfl, hb⟩; have HB2 := Lib.hid (HB1.out.trans (hb.mono HB1.out.size)); have ca2 : w2.cell? ⟨w.heap.size, 2, none⟩ = some (.slice (some ⟨g, 0, none⟩) qs.length cp) := cell_in ((hb.block _ (Array.getElem?_eq_some_iff.1 HX1.out).1).trans HX1.out) rfl; have cg2 : w2.cell? ⟨g, N, none⟩ = some (pv (some b)) := (hb.cell (p := ⟨g, N, none⟩) (Nat.lt_of_lt_of_le HG1.out HB1.out.size)).trans HC1.out; clear hb))
      go_ret
      exact ⟨some b, rfl, by unfold Found; rw [hg]; exact ⟨b, rfl, HEN.out.later HB2.out⟩, HB2.out⟩
theorem row_range {V : World} {X : Nat} {a b d : Value} {T : TypeId} {fr : Nat × Nat} (h : V.heap[X]? = some (.cells #[a, b, d] T fr)) : V.rangeAt X 0 (#[a, b] : Array Value).toList := fun j u hu => by
  refine cell_in h ?_
  rcases j with _ | _ | j
  · simpa using hu
  · simpa using hu
  · simp at hu
set_option maxHeartbeats 4000000 in
theorem hm_find_s (hs : ByteArray → Nat) (hlt : ∀ k, hs k < 18446744073709551616) (f : Nat) (hf : f ≤ 12) (ih : FindOk hs f) : FindOk hs (f + 1) := by
  intro S w L c k h hL hn
  obtain ⟨w1, hw1⟩ : ∃ w1, w.alloc (.cells c 34) = w1 := ⟨_, rfl⟩
  have hb1 : Below w.heap.size w w1 := by rw [← hw1]; exact Below.newly' _ _
  have hx1 : w1.heap[w.heap.size]? = some (.cells c 34 (0, 0)) := by rw [← hw1]; exact heap_alloc_last _ _
  have hs1 : w1.heap.size = w.heap.size + 1 := by rw [← hw1]; simp
  obtain ⟨lv, hlv⟩ : ∃ lv : Nat, lv = 12 - f := ⟨_, rfl⟩
  have e13 : (13 - (f + 1) : Nat) = lv := by omega
  rw [e13]
  obtain ⟨b, v, R, rfl, hrow, hpl⟩ := h.row
  obtain ⟨i, hi⟩ : ∃ i, i = chunkN (hs k) (lv : Int) := ⟨_, rfl⟩
  have hi32 : i < 32 := by rw [hi]; exact chunkN_lt _ _
  have HCH := Lib.hid (fun W => mix_Chunk (hs k) (lv : Int) (hlt k) W)
  rw [← hi] at HCH
  have HGET := Lib.hid (fun W (hb : Below w.heap.size w W) => pr_Get W R #[b, v] i hi32 (hrow.later hb))
  have HPL := Lib.hid (hpl i hi32)
  have hch : getE (chE hs lv i L) k = getE L k := ch_get (by rw [hi])
  rw [← hlv] at HPL
  have HCE := Lib.hid hch
  have HRI := Lib.hid (hL.ch hs lv i)
  have HLE := Lib.hid (Nat.le_trans (ch_len_le (hs := hs) (lv := lv) (i := i) (L := L)) hn)
  have HIH := Lib.hid ih
  have HX1 := Lib.hid hx1
  have HB1 := Lib.hid hb1
  have HS1 := Lib.hid hs1
  have hn13 : ((lv : Int) == 13) = false := beq_eq_false_iff_ne.2 (by omega)
  have hlv12 : (lv : Int) ≤ 12 := by omega
  have HLV : Hid ((13 - f : Nat) = lv + 1) := by show _ = _; omega
  obtain ⟨M, hM⟩ : ∃ M, M = chE hs lv i L := ⟨_, rfl⟩
  rw [← hM] at HPL HCE HRI HLE
  obtain ⟨h1, u1⟩ : ∃ x : Nat, x = hs k := ⟨_, rfl⟩
  have HU1 := Lib.hid u1
  rw [← u1] at HCH ⊢
  obtain ⟨bb, rfl⟩ : ∃ bb : Nat, b = .int .u32 (bb : Int) := by obtain ⟨v', e, _⟩ := hrow; simp only [Array.mk.injEq, List.cons.injEq] at e; exact ⟨_, e.1⟩
  obtain ⟨va, vn, vc, rfl⟩ : ∃ a n c, v = .slice a n c := by obtain ⟨a, n, e⟩ := hrow.shape; simp only [Array.mk.injEq, List.cons.injEq] at e; exact ⟨_, _, _, e.2.1⟩
  clear h hrow hpl hch hx1 hb1 hs1 hi hM hL hn ih u1 hlv e13
  go_enter Tryd.func68, Tryd.ntmps68
  go_upto_region 6 with fail
  clear hw1
  have HKS : Hid (∀ V, Below w1.heap.size w1 V → (V.heap[w.heap.size]? = some (.cells #[.int .u32 (bb : Int), .slice va vn vc, .slice none 0 0] 34 (0, 0)))) := fun V hV => (hV.block _ (by have := HS1.out; omega)).trans HX1.out
  have HW : Hid (Below w1.heap.size w1 w1.drew) := drawn_below w1
  refine wp_region_T (S := (fun V => V.heap[w.heap.size]? = some (.cells #[.int .u32 (bb : Int), .slice va vn vc, .slice none 0 0] 34 (0, 0)))) [] (by kernel_rfl) (by exact HKS.out _ HW.out) (fun hHeld => ?_)
  refine wpAnyT_take (i := 0) (oi := ⟨some 29, _, _, _, _, _⟩) (v := ?vg1_0) rfl (by kernel_rfl) (by kernel_rfl) (by kernel_rfl) (by kernel_rfl) (fun _ _ _ h => h) (Or.inl ⟨by rfl, ?hg1_0⟩) (by assumption) ?rg1_0
  case hg1_0 => (intro w hSw; (try dsimp only at hSw); first | (go_simp; done) | (go_simp; with_reducible rfl))
  (try simp only [Act.put, List.setIfInBounds_toArray, List.set_cons_zero, List.set_cons_succ])
  refine wpAnyT_take (i := 1) (oi := ⟨some 30, _, _, _, _, _⟩) (v := _) rfl (by kernel_rfl) (by kernel_rfl) (by kernel_rfl) (by kernel_rfl) (fun _ _ _ h => h) (yieldsIf_arr (by rfl) 31 _ rfl w.heap.size 0 rfl #[.int .u32 (bb : Int), .slice va vn vc] _ (fun w hw => (row_range hw)) Tryd.underlying31 rfl (by exact row_size)) (by assumption) ?_
  (try simp only [Act.put, List.setIfInBounds_toArray, List.set_cons_zero, List.set_cons_succ])
  refine wpAnyT_take (i := 2) (oi := ⟨some 31, _, _, _, _, _⟩) (v := ?vg1_2) rfl (by kernel_rfl) (by kernel_rfl) (by kernel_rfl) (by kernel_rfl) (fun _ _ _ h => h) (Or.inl ⟨by rfl, ?hg1_2⟩) (by assumption) ?rg1_2
  case hg1_2 => (intro w hSw; (try dsimp only at hSw); first | (go_simp; done) | (go_simp; with_reducible rfl))
  (try simp only [Act.put, List.setIfInBounds_toArray, List.set_cons_zero, List.set_cons_succ])
  refine wpAnyT_take (i := 3) (oi := ⟨some 32, _, _, _, _, _⟩) (v := ?vg1_3) rfl (by kernel_rfl) (by kernel_rfl) (by kernel_rfl) (by kernel_rfl) (fun _ _ _ h => h) (Or.inl ⟨by rfl, ?hg1_3⟩) (by assumption) ?rg1_3
  case hg1_3 => (intro w hSw; (try dsimp only at hSw); first | (go_simp; done) | (go_simp; with_reducible rfl))
  (try simp only [Act.put, List.setIfInBounds_toArray, List.set_cons_zero, List.set_cons_succ])
  refine wpAnyT_takeC (i := 4) (oi := ⟨some 33, _, _, _, _, _⟩) (v := .int .i64 (i : Int)) rfl (by kernel_rfl) (by kernel_rfl) (by kernel_rfl) (by kernel_rfl) (fun _ _ _ h => h) ⟨by rfl, fun w hSw => ⟨80, #[.int .u64 (h1 : Int), .int .i64 (lv : Int)], ?hg1_4, (HCH.out w).mono fun _ _ h => ⟨h.1, h.2.symm⟩⟩⟩ (by assumption) ?rg1_4
  case hg1_4 => go_simp
  (try simp only [Act.put, List.setIfInBounds_toArray, List.set_cons_zero, List.set_cons_succ])
  refine wpAnyT_ready (rs := [5, 9]) (by kernel_rfl) (by simp) ?_
  refine AllT.cons (o := ⟨some 34, _, _, _, _, _⟩) rfl (fun K hK => ?_) (AllT.cons (o := ⟨some 11, _, _, _, _, _⟩) rfl (fun K hK => ?_) AllT.nil)
  · go_simp
    go_at_call 79
    refine (HGET.out _ (HB1.out.trans (HW.out.mono HB1.out.size))).mono ?_
    rintro r w5 ⟨rfl, hb⟩
    replace HW := Lib.hid (HW.out.trans (hb.mono HW.out.size))
    clear hb
    dsimp only
    refine hK.out _ _ (by exact HKS.out _ HW.out) (fun hHeld => ?_)
    clear hK K
    (try simp only [Act.put, List.setIfInBounds_toArray, List.set_cons_zero, List.set_cons_succ])
    refine wpAnyT_take (i := 6) (oi := ⟨some 28, _, _, _, _, _⟩) (v := ?vz2_) rfl (by kernel_rfl) (by kernel_rfl) (by kernel_rfl) (by kernel_rfl) (fun _ _ _ h => h) (Or.inl ⟨by rfl, ?hz2_⟩) (by assumption) ?rz2_
    case hz2_ => (intro w hSw; (try dsimp only at hSw); first | (go_simp; done) | (go_simp; with_reducible rfl))
    (try simp only [Act.put, List.setIfInBounds_toArray, List.set_cons_zero, List.set_cons_succ])
    refine wpAnyT_take (i := 7) (oi := ⟨some 35, _, _, _, _, _⟩) (v := ?vz3_) rfl (by kernel_rfl) (by kernel_rfl) (by kernel_rfl) (by kernel_rfl) (fun _ _ _ h => h) (Or.inl ⟨by rfl, ?hz3_⟩) (by assumption) ?rz3_
    case hz3_ => (intro w hSw; (try dsimp only at hSw); first | (go_simp; done) | (go_simp; with_reducible rfl))
    (try simp only [Act.put, List.setIfInBounds_toArray, List.set_cons_zero, List.set_cons_succ])
    refine wpAnyT_take (i := 8) (oi := ⟨some 36, _, _, _, _, _⟩) (v := ?vz4_) rfl (by kernel_rfl) (by kernel_rfl) (by kernel_rfl) (by kernel_rfl) (fun _ _ _ h => h) (Or.inl ⟨by rfl, ?hz4_⟩) (by assumption) ?rz4_
    case hz4_ => (intro w hSw; (try dsimp only at hSw); first | (go_simp; done) | (go_simp; with_reducible rfl))
    (try simp only [Act.put, List.setIfInBounds_toArray, List.set_cons_zero, List.set_cons_succ])
    refine wpAnyT_one (i := 9) (o := ⟨some 11, _, _, _, _, _⟩) (by kernel_rfl) rfl (fun K hK => ?_)
    go_simp
    have HPX : Hid (PBox (w5.alloc (.cells #[.pointer none, .pointer none] 117)) w5.heap.size (none, none)) := heap_alloc_last w5 _
    have HXL := Lib.hid HW.out.size
    replace HW := Lib.hid (HW.out.trans ((Below.newly' w5 (.cells #[.pointer none, .pointer none] 117)).mono HW.out.size))
    obtain ⟨X, hX⟩ : ∃ X, X = w5.heap.size := ⟨_, rfl⟩
    rw [← hX] at HPX HXL ⊢
    clear hX
    refine hK.out _ _ (by exact HKS.out _ HW.out) (fun hHeld => ?_)
    clear hK K
    (try simp only [Act.put, List.setIfInBounds_toArray, List.set_cons_zero, List.set_cons_succ])
    refine wpAnyT_one (i := 10) (o := ⟨none, _, _, _, _, _⟩) (by kernel_rfl) rfl (fun K hK => ?_)
    rw [if_pos (by rfl)]
    refine st_agg_wp 117 _ _ rfl X (plc ((R i).getD (none, none))) rfl rfl 117 (plc (none, none)) HPX.out pl_size rfl (plc_one _) ?_
    intro w6 h6 k6
    have HP6 := Lib.hid h6
    replace HW := Lib.hid (HW.out.trans (k6.below HXL.out))
    clear h6 k6 HPX
    refine hK.out _ _ (by exact HKS.out _ HW.out) (fun hHeld => ?_)
    clear hK K
    (try simp only [Act.put, List.setIfInBounds_toArray, List.set_cons_zero, List.set_cons_succ])
    refine wpAnyT_take (i := 11) (oi := ⟨some 12, _, _, _, _, _⟩) (v := ?vz5_) rfl (by kernel_rfl) (by kernel_rfl) (by kernel_rfl) (by kernel_rfl) (fun _ _ _ h => h) (Or.inl ⟨by rfl, ?hz5_⟩) (by assumption) ?rz5_
    case hz5_ => (intro w hSw; (try dsimp only at hSw); first | (go_simp; done) | (go_simp; with_reducible rfl))
    (try simp only [Act.put, List.setIfInBounds_toArray, List.set_cons_zero, List.set_cons_succ])
    refine wpAnyT_done (by kernel_rfl) ?_ _
    have HWW := Lib.hid (HB1.out.trans (HW.out.mono HB1.out.size))
    clear hHeld
    rcases M with _ | ⟨e, _ | ⟨e2, M2⟩⟩
    · have hr : R i = none := HPL.out
      rw [hr] at HP6 ⊢
      have cx0 : w6.cell? ⟨X, 0, none⟩ = some (.pointer none) := cell_in HP6.out rfl
      have cx1 : w6.cell? ⟨X, 1, none⟩ = some (.pointer none) := cell_in HP6.out rfl
      have HG : Hid (getE L k = none) := by show _ = _; rw [← HCE.out]; rfl
      clear hr
      go_wp2_with fail
      go_ret
      exact ⟨none, rfl, by unfold Found; rw [HG.out], HWW.out⟩
    · obtain ⟨b, hr, he⟩ := HPL.out
      rw [hr] at HP6 ⊢
      have HE6 := Lib.hid (he.later HWW.out)
      have cx0 : w6.cell? ⟨X, 0, none⟩ = some (.pointer (some ⟨b, 0, none⟩)) := cell_in HP6.out rfl
      have cx1 : w6.cell? ⟨X, 1, none⟩ = some (.pointer none) := cell_in HP6.out rfl
      have ce0 : w6.cell? ⟨b, 0, none⟩ = some (.string e.1) := by
        obtain ⟨_, fr, h⟩ := HE6.out
        exact cell_in h rfl
      have hge : getE [e] k = if e.1 = k then some e.2 else none := by
        unfold getE
        by_cases h : e.1 = k
        · simp [h]
        · simp [h]
      have HGE : Hid (getE L k = if e.1 = k then some e.2 else none) := by show _ = _; rw [← HCE.out]; exact hge
      clear hr he hge
      by_cases hk : e.1 = k
      · have hkk : (e.1.toList == k.toList) = true := by rw [hk]; simp
        have HKK := Lib.hid hk
        clear hk
        go_wp2_with fail
        go_ret
        refine ⟨some b, rfl, ?_, HWW.out⟩
        unfold Found
        rw [HGE.out, if_pos HKK.out]
        refine ⟨b, rfl, ?_⟩
        rw [← HKK.out]
        exact HE6.out
      · have hkk : (e.1.toList == k.toList) = false := beq_eq_false_iff_ne.2 fun h => hk (kb_inj (by rw [ByteArray.toList_eq, ByteArray.toList_eq] at h; exact h))
        have HKK := Lib.hid hk
        clear hk
        go_wp2_with fail
        go_ret
        exact ⟨none, rfl, by unfold Found; rw [HGE.out, if_neg HKK.out], HWW.out⟩
    · obtain ⟨b, c2, fr, hr, hSb, hbk, hN⟩ := HPL.out
      rw [hr] at HP6 ⊢
      have cx1 : w6.cell? ⟨X, 1, none⟩ = some (.pointer (some ⟨b, 0, none⟩)) := cell_in HP6.out rfl
      have HBK := Lib.hid ((HWW.out.block _ (Array.getElem?_eq_some_iff.1 hbk).1).trans hbk)
      have hih := HIH.out S w6 _ c2 k (hN.later HWW.out) HRI.out HLE.out
      rw [HLV.out, ← HU1.out, show (((lv + 1 : Nat) : Nat) : Int) = (lv : Int) + 1 by omega] at hih
      have HF := Lib.hid hih
      have HSZ2 := Lib.hid hN.size
      clear hr hSb hbk hN hih
      go_wp2_with (first
        | (refine ld_if (by rfl) 34 _ rfl b rfl 34 _ _ _ HBK.out Tryd.underlying34 rfl (by rw [HSZ2.out]; exact nd_size) ?_)
        | (go_at_call 68; refine HF.out.mono ?_; rintro r w7 ⟨p, rfl, hp, hb⟩; have HFO := Lib.hid hp; have HB7 := Lib.hid (HWW.out.trans (hb.mono HWW.out.size)); clear hp hb))
      go_ret
      exact ⟨p, rfl, (HFO.out.congr HCE.out), HB7.out⟩
  · go_simp
    obtain ⟨W2, hW2⟩ : ∃ W2, (w1.alloc (.cells #[.pointer none, .pointer none] 117)).drew = W2 := ⟨_, rfl⟩
    have HPX0 : Hid (PBox W2 w1.heap.size (none, none)) := by show _ = _; rw [← hW2]; exact heap_alloc_last w1 _
    have hb : Below w1.heap.size w1 W2 := by rw [← hW2]; exact Below.drewMany (Below.newly' w1 _) 1
    replace HW := Lib.hid hb
    have HXL : Hid (w1.heap.size ≤ w1.heap.size) := Nat.le_refl _
    have HXLT : Hid (w1.heap.size < W2.heap.size) := by show _ < _; rw [← hW2]; simp
    rw [hW2]
    clear hb hW2
    obtain ⟨X, hX⟩ : ∃ X, X = w1.heap.size := ⟨_, rfl⟩
    rw [← hX] at HPX0 HXLT ⊢
    replace HXL : Hid (w1.heap.size ≤ X) := by show _ ≤ _; rw [hX]; exact Nat.le_refl _
    clear hX
    refine hK.out _ _ (by exact HKS.out _ HW.out) (fun hHeld => ?_)
    clear hK K
    (try simp only [Act.put, List.setIfInBounds_toArray, List.set_cons_zero, List.set_cons_succ])
    refine wpAnyT_one (i := 5) (o := ⟨some 34, _, _, _, _, _⟩) (by kernel_rfl) rfl (fun K hK => ?_)
    go_simp
    go_at_call 79
    refine (HGET.out _ (HB1.out.trans (HW.out.mono HB1.out.size))).mono ?_
    rintro r w5 ⟨rfl, hb⟩
    have HPX := Lib.hid ((hb.block X HXLT.out).trans HPX0.out)
    replace HW := Lib.hid (HW.out.trans (hb.mono HW.out.size))
    clear hb
    dsimp only
    refine hK.out _ _ (by exact HKS.out _ HW.out) (fun hHeld => ?_)
    clear hK K
    (try simp only [Act.put, List.setIfInBounds_toArray, List.set_cons_zero, List.set_cons_succ])
    refine wpAnyT_take (i := 6) (oi := ⟨some 28, _, _, _, _, _⟩) (v := ?vz6_) rfl (by kernel_rfl) (by kernel_rfl) (by kernel_rfl) (by kernel_rfl) (fun _ _ _ h => h) (Or.inl ⟨by rfl, ?hz6_⟩) (by assumption) ?rz6_
    case hz6_ => (intro w hSw; (try dsimp only at hSw); first | (go_simp; done) | (go_simp; with_reducible rfl))
    (try simp only [Act.put, List.setIfInBounds_toArray, List.set_cons_zero, List.set_cons_succ])
    refine wpAnyT_take (i := 7) (oi := ⟨some 35, _, _, _, _, _⟩) (v := ?vz7_) rfl (by kernel_rfl) (by kernel_rfl) (by kernel_rfl) (by kernel_rfl) (fun _ _ _ h => h) (Or.inl ⟨by rfl, ?hz7_⟩) (by assumption) ?rz7_
    case hz7_ => (intro w hSw; (try dsimp only at hSw); first | (go_simp; done) | (go_simp; with_reducible rfl))
    (try simp only [Act.put, List.setIfInBounds_toArray, List.set_cons_zero, List.set_cons_succ])
    refine wpAnyT_take (i := 8) (oi := ⟨some 36, _, _, _, _, _⟩) (v := ?vz8_) rfl (by kernel_rfl) (by kernel_rfl) (by kernel_rfl) (by kernel_rfl) (fun _ _ _ h => h) (Or.inl ⟨by rfl, ?hz8_⟩) (by assumption) ?rz8_
    case hz8_ => (intro w hSw; (try dsimp only at hSw); first | (go_simp; done) | (go_simp; with_reducible rfl))
    (try simp only [Act.put, List.setIfInBounds_toArray, List.set_cons_zero, List.set_cons_succ])
    refine wpAnyT_one (i := 10) (o := ⟨none, _, _, _, _, _⟩) (by kernel_rfl) rfl (fun K hK => ?_)
    rw [if_pos (by rfl)]
    refine st_agg_wp 117 _ _ rfl X (plc ((R i).getD (none, none))) rfl rfl 117 (plc (none, none)) HPX.out pl_size rfl (plc_one _) ?_
    intro w6 h6 k6
    have HP6 := Lib.hid h6
    replace HW := Lib.hid (HW.out.trans (k6.below HXL.out))
    clear h6 k6 HPX
    refine hK.out _ _ (by exact HKS.out _ HW.out) (fun hHeld => ?_)
    clear hK K
    (try simp only [Act.put, List.setIfInBounds_toArray, List.set_cons_zero, List.set_cons_succ])
    refine wpAnyT_take (i := 11) (oi := ⟨some 12, _, _, _, _, _⟩) (v := ?vz9_) rfl (by kernel_rfl) (by kernel_rfl) (by kernel_rfl) (by kernel_rfl) (fun _ _ _ h => h) (Or.inl ⟨by rfl, ?hz9_⟩) (by assumption) ?rz9_
    case hz9_ => (intro w hSw; (try dsimp only at hSw); first | (go_simp; done) | (go_simp; with_reducible rfl))
    (try simp only [Act.put, List.setIfInBounds_toArray, List.set_cons_zero, List.set_cons_succ])
    refine wpAnyT_done (by kernel_rfl) ?_ _
    have HWW := Lib.hid (HB1.out.trans (HW.out.mono HB1.out.size))
    clear hHeld
    rcases M with _ | ⟨e, _ | ⟨e2, M2⟩⟩
    · have hr : R i = none := HPL.out
      rw [hr] at HP6 ⊢
      have cx0 : w6.cell? ⟨X, 0, none⟩ = some (.pointer none) := cell_in HP6.out rfl
      have cx1 : w6.cell? ⟨X, 1, none⟩ = some (.pointer none) := cell_in HP6.out rfl
      have HG : Hid (getE L k = none) := by show _ = _; rw [← HCE.out]; rfl
      clear hr
      go_wp2_with fail
      go_ret
      exact ⟨none, rfl, by unfold Found; rw [HG.out], HWW.out⟩
    · obtain ⟨b, hr, he⟩ := HPL.out
      rw [hr] at HP6 ⊢
      have HE6 := Lib.hid (he.later HWW.out)
      have cx0 : w6.cell? ⟨X, 0, none⟩ = some (.pointer (some ⟨b, 0, none⟩)) := cell_in HP6.out rfl
      have cx1 : w6.cell? ⟨X, 1, none⟩ = some (.pointer none) := cell_in HP6.out rfl
      have ce0 : w6.cell? ⟨b, 0, none⟩ = some (.string e.1) := by
        obtain ⟨_, fr, h⟩ := HE6.out
        exact cell_in h rfl
      have hge : getE [e] k = if e.1 = k then some e.2 else none := by
        unfold getE
        by_cases h : e.1 = k
        · simp [h]
        · simp [h]
      have HGE : Hid (getE L k = if e.1 = k then some e.2 else none) := by show _ = _; rw [← HCE.out]; exact hge
      clear hr he hge
      by_cases hk : e.1 = k
      · have hkk : (e.1.toList == k.toList) = true := by rw [hk]; simp
        have HKK := Lib.hid hk
        clear hk
        go_wp2_with fail
        go_ret
        refine ⟨some b, rfl, ?_, HWW.out⟩
        unfold Found
        rw [HGE.out, if_pos HKK.out]
        refine ⟨b, rfl, ?_⟩
        rw [← HKK.out]
        exact HE6.out
      · have hkk : (e.1.toList == k.toList) = false := beq_eq_false_iff_ne.2 fun h => hk (kb_inj (by rw [ByteArray.toList_eq, ByteArray.toList_eq] at h; exact h))
        have HKK := Lib.hid hk
        clear hk
        go_wp2_with fail
        go_ret
        exact ⟨none, rfl, by unfold Found; rw [HGE.out, if_neg HKK.out], HWW.out⟩
    · obtain ⟨b, c2, fr, hr, hSb, hbk, hN⟩ := HPL.out
      rw [hr] at HP6 ⊢
      have cx1 : w6.cell? ⟨X, 1, none⟩ = some (.pointer (some ⟨b, 0, none⟩)) := cell_in HP6.out rfl
      have HBK := Lib.hid ((HWW.out.block _ (Array.getElem?_eq_some_iff.1 hbk).1).trans hbk)
      have hih := HIH.out S w6 _ c2 k (hN.later HWW.out) HRI.out HLE.out
      rw [HLV.out, ← HU1.out, show (((lv + 1 : Nat) : Nat) : Int) = (lv : Int) + 1 by omega] at hih
      have HF := Lib.hid hih
      have HSZ2 := Lib.hid hN.size
      clear hr hSb hbk hN hih
      go_wp2_with (first
        | (refine ld_if (by rfl) 34 _ rfl b rfl 34 _ _ _ HBK.out Tryd.underlying34 rfl (by rw [HSZ2.out]; exact nd_size) ?_)
        | (go_at_call 68; refine HF.out.mono ?_; rintro r w7 ⟨p, rfl, hp, hb⟩; have HFO := Lib.hid hp; have HB7 := Lib.hid (HWW.out.trans (hb.mono HWW.out.size)); clear hp hb))
      go_ret
      exact ⟨p, rfl, (HFO.out.congr HCE.out), HB7.out⟩
theorem hm_find (hs : ByteArray → Nat) (hlt : ∀ k, hs k < 18446744073709551616) : ∀ f, f ≤ 13 → FindOk hs f
  | 0, _ => hm_find_0 hs
  | f + 1, h => hm_find_s hs hlt f (by omega) (hm_find hs hlt f (by omega))
end Go.Proofs.YtnnlfgfgfegjkaaDoor

/- Package hamt: place (what a node is in the row above). -/
namespace Go.Proofs.YtnnlfgfgfegjkaaDoor
open Go.RowKit
set_option maxRecDepth 1000000
set_option linter.unusedSimpArgs false

theorem all_ofG {α : Type} {R : Rg α} {i : Nat} (hi : i < 32) {x : α} (h : R i = some x) : (i, x) ∈ allG R := List.mem_of_getElem? (all_atG R hi h)
/-- Just one place has something. -/
theorem all_oneG {α : Type} {R : Rg α} {i : Nat} (hi : i < 32) {x : α} (h : R i = some x) (ho : ∀ j, j < 32 → j ≠ i → R j = none) : allG R = [(i, x)] := by
  unfold allG
  rw [range_at hi, List.filterMap_append, List.filterMap_append]
  have e1 : (List.range i).filterMap (fun j => (R j).map fun x => (j, x)) = [] := by
    rw [List.filterMap_eq_nil_iff]
    intro j hj
    rw [List.mem_range] at hj
    rw [ho j (by omega) (by omega)]
    rfl
  have e2 : ((List.range (31 - i)).map (i + 1 + ·)).filterMap (fun j => (R j).map fun x => (j, x)) = [] := by
    rw [List.filterMap_eq_nil_iff]
    intro j hj
    rw [List.mem_map] at hj
    obtain ⟨a, ha, rfl⟩ := hj
    rw [List.mem_range] at ha
    rw [ho _ (by omega) (by omega)]
    rfl
  rw [e1, e2]
  simp [h]
section
variable {hs : ByteArray → Nat} {S : Nat → Prop} {w : World} {f : Nat} {L : List Ent} {R : Rg Pl} {lv : Nat}
/-- A node of one key: its row's only place has that key. -/
theorem row_one {e : Ent} (h : ∀ i, i < 32 → PlAt hs S w (NodeAt hs S f w) (chE hs lv i [e]) (R i)) : ∃ b, EntAt hs S w b e ∧ allG R = [(chunkN (hs e.1) lv, (some b, none))] := by
  have hi := chunkN_lt (hs e.1) lv
  have h1 := h _ hi
  rw [show chE hs lv (chunkN (hs e.1) lv) [e] = [e] by simp [chE]] at h1
  obtain ⟨b, h2, h3⟩ := h1
  refine ⟨b, h3, all_oneG hi h2 fun j hj hne => ?_⟩
  have h4 := h j hj
  rw [show chE hs lv j [e] = [] by simp [chE, Ne.symm hne]] at h4
  exact h4
/-- A node of more keys, at whose row just one place has something: that has a node. -/
theorem row_more {a b : Ent} {M : List Ent} (hL : L = a :: b :: M) (h : ∀ i, i < 32 → PlAt hs S w (NodeAt hs S f w) (chE hs lv i L) (R i)) (h1 : cntG R 32 = 1) : (firstG R).2.1.1 = none := by
  have hl : (allG R).length = 1 := by rw [all_lenG, h1]
  obtain ⟨p, hp⟩ := List.length_eq_one_iff.1 hl
  have hm := all_memG (R := R) (p := p) (by rw [hp]; exact List.mem_singleton.2 rfl)
  have huniq : ∀ j, j < 32 → (R j).isSome = true → j = p.1 := fun j hj hs => by
    obtain ⟨x, hx⟩ := Option.isSome_iff_exists.1 hs
    have := all_ofG hj hx
    rw [hp, List.mem_singleton] at this
    rw [← this]
  have hall : chE hs lv p.1 L = L := by
    unfold chE
    rw [List.filter_eq_self]
    intro e he
    have hj := chunkN_lt (hs e.1) lv
    have hpl := h _ hj
    have hne : e ∈ chE hs lv (chunkN (hs e.1) lv) L := mem_ch.2 ⟨he, rfl⟩
    have hsome : (R (chunkN (hs e.1) lv)).isSome = true := by
      generalize chE hs lv (chunkN (hs e.1) lv) L = K at hpl hne
      match K, hpl, hne with
      | [], _, hne => cases hne
      | [x], hpl, _ => obtain ⟨b, h2, _⟩ := hpl; rw [h2]; rfl
      | x :: y :: r, hpl, _ => obtain ⟨b, c, fr, h2, _⟩ := hpl; rw [h2]; rfl
    rw [decide_eq_true_eq]
    exact huniq _ hj hsome
  have h2 := h p.1 hm.1
  rw [hall, hL] at h2
  obtain ⟨g, c, fr, h3, _⟩ := h2
  rw [hm.2] at h3
  unfold firstG
  rw [hp]
  simp only
  rw [Option.some.inj h3]
end
/-- What place gives of a node. -/
def PlaceOk (hs : ByteArray → Nat) (f : Nat) : Prop := ∀ (S : Nat → Prop) (w : World) (L : List Ent) (c : Array Value), NodeAt hs S f w L c → L ≠ [] → Tab6 w →
    Calls Tryd.prog 91 #[.agg c] w fun r w' => ∃ p, r = .returned (.agg (plc p)) ∧ PlAt hs (fun g => S g ∨ w.heap.size ≤ g) w' (NodeAt hs (fun g => S g ∨ w.heap.size ≤ g) f w') L (some p) ∧ Below w.heap.size w w'
/-- A node of more keys lies in its own variable. -/
theorem place_more {hs : ByteArray → Nat} {S : Nat → Prop} {w w' : World} {f : Nat} {a b : Ent} {M : List Ent} {c : Array Value} {fr : Nat × Nat} (h : NodeAt hs S f w (a :: b :: M) c) (hb : Below w.heap.size w w') (hx : w'.heap[w.heap.size]? = some (.cells c 34 fr)) :
    PlAt hs (fun g => S g ∨ w.heap.size ≤ g) w' (NodeAt hs (fun g => S g ∨ w.heap.size ≤ g) f w') (a :: b :: M) (some (none, some w.heap.size)) :=
  ⟨_, c, fr, rfl, .inr (Nat.le_refl _), hx, (h.later hb).weak fun _ h => .inl h⟩
set_option maxHeartbeats 4000000 in
theorem hm_place_0 (hs : ByteArray → Nat) : PlaceOk hs 0 := by
  intro S w L c h hne hT
  have hh := h
  obtain ⟨v, qs, rfl, h2, hq, h4⟩ := h
  obtain ⟨hl, h2⟩ := h2
  rcases h2 with ⟨h0, _⟩ | ⟨h0, g, cp, cur, rfl, hcp, hS, hgg, hc⟩
  · exact absurd (List.eq_nil_of_length_eq_zero h0) hne
  · match L, hne, hh, hq, h0 with
    | [e], _, hh, hq, _ =>
      obtain ⟨q, rfl⟩ : ∃ q, qs = [q] := List.length_eq_one_iff.1 (by have := congrArg List.length hq; simpa using this.symm)
      obtain rfl : e = q.2 := by simpa using hq
      have HE := Lib.hid (h4 q (List.mem_singleton.2 rfl))
      have hcell : w.cell? ⟨g, 0, none⟩ = some (pv (some q.1)) := cell_in hgg (hc 0 _ rfl)
      rw [show [q.2].length = 1 from rfl]
      obtain ⟨w1, hw1⟩ : ∃ w1, (w.alloc (.cells #[.int .u32 0, .slice none 0 0, .slice (some ⟨g, 0, none⟩) 1 cp] 34)).alloc (.cells #[.pointer none, .pointer none] 117) = w1 := ⟨_, rfl⟩
      obtain ⟨hb1, hx1, hy1, hs1⟩ := two_newG hw1
      have HX1 := Lib.hid hx1
      have HY1 := Lib.hid hy1
      have HB1 := Lib.hid hb1
      have HS1 := Lib.hid hs1
      have ca2 : w1.cell? ⟨w.heap.size, 2, none⟩ = some (.slice (some ⟨g, 0, none⟩) 1 cp) := cell_in hx1 rfl
      have hc1 : w1.cell? ⟨g, 0, none⟩ = some (.pointer (some ⟨q.1, 0, none⟩)) := (hb1.cell (p := ⟨g, 0, none⟩) (Array.getElem?_eq_some_iff.1 hgg).1).trans hcell
      clear hh hq hx1 hy1 hb1 hs1 h4 hl hc hgg hcell
      go_enter Tryd.func91, Tryd.ntmps91
      go_upto_region 1 with fail
      clear hw1
      go_wp2_with (first
        | (refine st_agg rfl 117 _ _ rfl (w.heap.size + 1) (plc (some q.1, none)) rfl rfl 117 _ HY1.out pl_size rfl (plc_one (some q.1, none)) ?_; intro w4 h4 k4))
      exact bodyPost_ret (results_cell_row rfl _ _ (w.heap.size + 1) 117 _ (0, 0) _ rfl h4 Tryd.underlying117 rfl pl_size) rfl ⟨(some q.1, none), rfl, ⟨q.1, rfl, (HE.out.later (HB1.out.trans (k4.below (by omega)))).weak fun _ h => .inl h⟩, HB1.out.trans (k4.below (by omega))⟩
    | a :: b :: M, _, hh, _, _ =>
      obtain ⟨N, hN⟩ : ∃ N, N = (a :: b :: M).length := ⟨_, rfl⟩
      have hN1 : ((N : Int) == 1) = false := beq_eq_false_iff_ne.2 (by rw [hN, List.length_cons, List.length_cons]; omega)
      have HH := Lib.hid hh
      rw [← hN] at HH ⊢
      obtain ⟨w1, hw1⟩ : ∃ w1, (w.alloc (.cells #[.int .u32 0, .slice none 0 0, .slice (some ⟨g, 0, none⟩) N cp] 34)).alloc (.cells #[.pointer none, .pointer none] 117) = w1 := ⟨_, rfl⟩
      obtain ⟨hb1, hx1, hy1, hs1⟩ := two_newG hw1
      have HX1 := Lib.hid hx1
      have HY1 := Lib.hid hy1
      have HB1 := Lib.hid hb1
      have HS1 := Lib.hid hs1
      have ca2 : w1.cell? ⟨w.heap.size, 2, none⟩ = some (.slice (some ⟨g, 0, none⟩) N cp) := cell_in hx1 rfl
      have HF := Lib.hid (fun W (hb : Below w.heap.size w W) => pr_First W noG _ (AtR.zero (fun _ => True) W) (hT.below hb))
      have hf0 : firstG (noG : Rg Pl) = (0, (none, none), false) := rfl
      rw [hf0] at HF
      have HLN := Lib.hid (fun W => pr_Len W noG _ (AtR.zero (fun _ => True) W))
      rw [cnt_noG] at HLN
      clear hh hx1 hy1 hb1 hs1 h4 hl hc hgg hq hN hcp h0 hf0
      go_enter Tryd.func91, Tryd.ntmps91
      go_upto_region 1 with fail
      clear hw1
      go_wp2_with (first
        | (refine wpList_load_mid rfl 31 _ rfl w.heap.size 0 rfl [.int .u32 0, .slice none 0 0] _ (row_range HX1.out) Tryd.underlying31 rfl row_size ?_)
        | (refine wpList_load_mid rfl 31 _ rfl w.heap.size 0 rfl [.int .u32 0, .slice none 0 0] _ (row_range HX4.out) Tryd.underlying31 rfl row_size ?_)
        | (go_at_call 105; refine (HF.out _ HB1.out).mono ?_; rintro r w2 ⟨rfl, hb⟩; have HX2 := Lib.hid ((hb.block _ (by have := HS1.out; omega)).trans HX1.out); have HY2 := Lib.hid ((hb.block _ (by have := HS1.out; omega)).trans HY1.out); have HB2 := Lib.hid (HB1.out.trans (hb.mono HB1.out.size)); have HS2 : Hid (w.heap.size + 2 ≤ w2.heap.size) := (by show _ ≤ _; have := hb.size; have := HS1.out; omega); clear hb)
        | (refine st_agg rfl 117 _ _ rfl w2.heap.size (plc (none, none)) rfl rfl 117 (plc (none, none)) (heap_alloc_last w2 _) pl_size rfl (plc_one _) ?_; intro w3 h3 k3; have HP3 := Lib.hid h3; have hbb : Below w2.heap.size w2 w3 := (Below.newly' w2 _).trans (k3.below (Nat.le_refl _)); have HX3 := Lib.hid ((hbb.block _ (by have := HS2.out; omega)).trans HX2.out); have HY3 := Lib.hid ((hbb.block _ (by have := HS2.out; omega)).trans HY2.out); have HB3 := Lib.hid (HB2.out.trans (hbb.mono HB2.out.size)); have HS3 : Hid (w2.heap.size < w3.heap.size) := (Array.getElem?_eq_some_iff.1 h3).1; have HX4 := HX3; obtain ⟨X, hX⟩ : ∃ X, X = w2.heap.size := ⟨_, rfl⟩; rw [← hX] at HP3 HS3 ⊢; have HXX : Hid (w.heap.size + 2 ≤ X) := (by show _ ≤ _; have := HS2.out; omega); clear h3 k3 hbb hX)
        | (go_at_call 106; refine (HLN.out _).mono ?_; rintro r w5 ⟨rfl, hb⟩; have HP5 := Lib.hid ((hb.block _ HS3.out).trans HP3.out); have HX5 := Lib.hid ((hb.block _ (by have := HS3.out; have := HXX.out; omega)).trans HX3.out); have HY5 := Lib.hid ((hb.block _ (by have := HS3.out; have := HXX.out; omega)).trans HY3.out); have HB5 := Lib.hid (HB3.out.trans (hb.mono HB3.out.size)); have cp5 : w5.cell? ⟨X, 0, none⟩ = some (.pointer none) := cell_in HP5.out rfl; clear hb)
        | (refine ld_if (by rfl) 117 _ rfl X rfl 117 _ _ _ HP5.out Tryd.underlying117 rfl pl_size ?_)
        | (refine st_agg rfl 117 _ _ rfl (w.heap.size + 1) (plc (none, some w.heap.size)) rfl rfl 117 _ HY5.out pl_size rfl (plc_one (none, some w.heap.size)) ?_; intro w6 h6 k6))
      exact bodyPost_ret (results_cell_row rfl _ _ (w.heap.size + 1) 117 _ (0, 0) _ rfl h6 Tryd.underlying117 rfl pl_size) rfl ⟨(none, some w.heap.size), rfl, place_more HH.out (HB5.out.trans (k6.below (by omega))) (k6.other HX5.out (by omega)), HB5.out.trans (k6.below (by omega))⟩
set_option maxHeartbeats 4000000 in
theorem hm_place_s (hs : ByteArray → Nat) (f : Nat) : PlaceOk hs (f + 1) := by
  intro S w L c h hne hT
  have hh := h
  obtain ⟨b0, v0, R, rfl, hrow, hpl⟩ := h.row
  obtain ⟨bb, rfl⟩ : ∃ bb : Nat, b0 = .int .u32 (bb : Int) := by obtain ⟨v', e, _⟩ := hrow; simp only [Array.mk.injEq, List.cons.injEq] at e; exact ⟨_, e.1⟩
  obtain ⟨va, vn, vc, rfl⟩ : ∃ a n c, v0 = .slice a n c := by obtain ⟨a, n, e⟩ := hrow.shape; simp only [Array.mk.injEq, List.cons.injEq] at e; exact ⟨_, _, _, e.2.1⟩
  have HF := Lib.hid (fun W (hb : Below w.heap.size w W) => pr_First W R _ (hrow.later hb) (hT.below hb))
  have HLN := Lib.hid (fun W (hb : Below w.heap.size w W) => pr_Len W R _ (hrow.later hb))
  obtain ⟨w1, hw1⟩ : ∃ w1, (w.alloc (.cells #[.int .u32 (bb : Int), .slice va vn vc, .slice none 0 0] 34)).alloc (.cells #[.pointer none, .pointer none] 117) = w1 := ⟨_, rfl⟩
  obtain ⟨hb1, hx1, hy1, hs1⟩ := two_newG hw1
  have HX1 := Lib.hid hx1
  have HY1 := Lib.hid hy1
  have HB1 := Lib.hid hb1
  have HS1 := Lib.hid hs1
  have ca2 : w1.cell? ⟨w.heap.size, 2, none⟩ = some (.slice none 0 0) := cell_in hx1 rfl
  match L, hne, hh, hpl with
  | [e], _, hh, hpl =>
    obtain ⟨b, he, hall⟩ := row_one hpl
    have hf0 : firstG R = ((chunkN (hs e.1) ((12 - f : Nat) : Int) : Int), (some b, none), true) := by unfold firstG; rw [hall]
    have hc0 : cntG R 32 = 1 := by rw [← all_lenG, hall]; rfl
    rw [hf0] at HF
    rw [hc0] at HLN
    have HE := Lib.hid he
    clear hh hpl hx1 hy1 hb1 hs1 hrow hall hf0 hc0 he h
    go_enter Tryd.func91, Tryd.ntmps91
    go_upto_region 1 with fail
    clear hw1
    go_wp2_with (first
      | (refine wpList_load_mid rfl 31 _ rfl w.heap.size 0 rfl [.int .u32 (bb : Int), .slice va vn vc] _ (row_range HX1.out) Tryd.underlying31 rfl row_size ?_)
      | (refine wpList_load_mid rfl 31 _ rfl w.heap.size 0 rfl [.int .u32 (bb : Int), .slice va vn vc] _ (row_range HX4.out) Tryd.underlying31 rfl row_size ?_)
      | (go_at_call 105; refine (HF.out _ HB1.out).mono ?_; rintro r w2 ⟨rfl, hb⟩; have HX2 := Lib.hid ((hb.block _ (by have := HS1.out; omega)).trans HX1.out); have HY2 := Lib.hid ((hb.block _ (by have := HS1.out; omega)).trans HY1.out); have HB2 := Lib.hid (HB1.out.trans (hb.mono HB1.out.size)); have HS2 : Hid (w.heap.size + 2 ≤ w2.heap.size) := (by show _ ≤ _; have := hb.size; have := HS1.out; omega); clear hb)
      | (refine st_agg rfl 117 _ _ rfl w2.heap.size (plc (some b, none)) rfl rfl 117 (plc (none, none)) (heap_alloc_last w2 _) pl_size rfl (plc_one _) ?_; intro w3 h3 k3; have HP3 := Lib.hid h3; have hbb : Below w2.heap.size w2 w3 := (Below.newly' w2 _).trans (k3.below (Nat.le_refl _)); have HX3 := Lib.hid ((hbb.block _ (by have := HS2.out; omega)).trans HX2.out); have HY3 := Lib.hid ((hbb.block _ (by have := HS2.out; omega)).trans HY2.out); have HB3 := Lib.hid (HB2.out.trans (hbb.mono HB2.out.size)); have HS3 : Hid (w2.heap.size < w3.heap.size) := (Array.getElem?_eq_some_iff.1 h3).1; have HX4 := HX3; obtain ⟨X, hX⟩ : ∃ X, X = w2.heap.size := ⟨_, rfl⟩; rw [← hX] at HP3 HS3 ⊢; have HXX : Hid (w.heap.size + 2 ≤ X) := (by show _ ≤ _; have := HS2.out; omega); clear h3 k3 hbb hX)
      | (go_at_call 106; refine (HLN.out _ (HB3.out)).mono ?_; rintro r w5 ⟨rfl, hb⟩; have HP5 := Lib.hid ((hb.block _ HS3.out).trans HP3.out); have HX5 := Lib.hid ((hb.block _ (by have := HS3.out; have := HXX.out; omega)).trans HX3.out); have HY5 := Lib.hid ((hb.block _ (by have := HS3.out; have := HXX.out; omega)).trans HY3.out); have HB5 := Lib.hid (HB3.out.trans (hb.mono HB3.out.size)); have cp5 : w5.cell? ⟨X, 0, none⟩ = some (.pointer (some ⟨b, 0, none⟩)) := cell_in HP5.out rfl; clear hb)
      | (refine ld_if (by rfl) 117 _ rfl X rfl 117 _ _ _ HP5.out Tryd.underlying117 rfl pl_size ?_)
      | (refine st_agg rfl 117 _ _ rfl (w.heap.size + 1) (plc (some b, none)) rfl rfl 117 _ HY5.out pl_size rfl (plc_one (some b, none)) ?_; intro w6 h6 k6))
    exact bodyPost_ret (results_cell_row rfl _ _ (w.heap.size + 1) 117 _ (0, 0) _ rfl h6 Tryd.underlying117 rfl pl_size) rfl ⟨(some b, none), rfl, ⟨b, rfl, (HE.out.later (HB5.out.trans (k6.below (by omega)))).weak fun _ h => .inl h⟩, HB5.out.trans (k6.below (by omega))⟩
  | x :: y :: M, _, hh, hpl =>
    have hmore := row_more rfl hpl
    have HH := Lib.hid hh
    obtain ⟨⟨fi, ⟨fo, fm⟩, fb⟩, hf0⟩ : ∃ z, z = firstG R := ⟨_, rfl⟩
    rw [← hf0] at HF hmore
    simp only at HF hmore
    obtain ⟨n, hn⟩ : ∃ n, n = cntG R 32 := ⟨_, rfl⟩
    rw [← hn] at HLN hmore
    clear hh hpl hx1 hy1 hb1 hs1 hrow hf0 hn h
    by_cases h1 : n = 1
    · obtain rfl := hmore h1
      subst h1
      clear hmore
      go_enter Tryd.func91, Tryd.ntmps91
      go_upto_region 1 with fail
      clear hw1
      go_wp2_with (first
        | (refine wpList_load_mid rfl 31 _ rfl w.heap.size 0 rfl [.int .u32 (bb : Int), .slice va vn vc] _ (row_range HX1.out) Tryd.underlying31 rfl row_size ?_)
        | (refine wpList_load_mid rfl 31 _ rfl w.heap.size 0 rfl [.int .u32 (bb : Int), .slice va vn vc] _ (row_range HX4.out) Tryd.underlying31 rfl row_size ?_)
        | (go_at_call 105; refine (HF.out _ HB1.out).mono ?_; rintro r w2 ⟨rfl, hb⟩; have HX2 := Lib.hid ((hb.block _ (by have := HS1.out; omega)).trans HX1.out); have HY2 := Lib.hid ((hb.block _ (by have := HS1.out; omega)).trans HY1.out); have HB2 := Lib.hid (HB1.out.trans (hb.mono HB1.out.size)); have HS2 : Hid (w.heap.size + 2 ≤ w2.heap.size) := (by show _ ≤ _; have := hb.size; have := HS1.out; omega); clear hb)
        | (refine st_agg rfl 117 _ _ rfl w2.heap.size (plc (none, fm)) rfl rfl 117 (plc (none, none)) (heap_alloc_last w2 _) pl_size rfl (plc_one _) ?_; intro w3 h3 k3; have HP3 := Lib.hid h3; have hbb : Below w2.heap.size w2 w3 := (Below.newly' w2 _).trans (k3.below (Nat.le_refl _)); have HX3 := Lib.hid ((hbb.block _ (by have := HS2.out; omega)).trans HX2.out); have HY3 := Lib.hid ((hbb.block _ (by have := HS2.out; omega)).trans HY2.out); have HB3 := Lib.hid (HB2.out.trans (hbb.mono HB2.out.size)); have HS3 : Hid (w2.heap.size < w3.heap.size) := (Array.getElem?_eq_some_iff.1 h3).1; have HX4 := HX3; obtain ⟨X, hX⟩ : ∃ X, X = w2.heap.size := ⟨_, rfl⟩; rw [← hX] at HP3 HS3 ⊢; have HXX : Hid (w.heap.size + 2 ≤ X) := (by show _ ≤ _; have := HS2.out; omega); clear h3 k3 hbb hX)
        | (go_at_call 106; refine (HLN.out _ (HB3.out)).mono ?_; rintro r w5 ⟨rfl, hb⟩; have HP5 := Lib.hid ((hb.block _ HS3.out).trans HP3.out); have HX5 := Lib.hid ((hb.block _ (by have := HS3.out; have := HXX.out; omega)).trans HX3.out); have HY5 := Lib.hid ((hb.block _ (by have := HS3.out; have := HXX.out; omega)).trans HY3.out); have HB5 := Lib.hid (HB3.out.trans (hb.mono HB3.out.size)); have cp5 : w5.cell? ⟨X, 0, none⟩ = some (.pointer none) := cell_in HP5.out rfl; clear hb)
        | (refine ld_if (by rfl) 117 _ rfl X rfl 117 _ _ _ HP5.out Tryd.underlying117 rfl pl_size ?_)
        | (refine st_agg rfl 117 _ _ rfl (w.heap.size + 1) (plc (none, some w.heap.size)) rfl rfl 117 _ HY5.out pl_size rfl (plc_one (none, some w.heap.size)) ?_; intro w6 h6 k6))
      exact bodyPost_ret (results_cell_row rfl _ _ (w.heap.size + 1) 117 _ (0, 0) _ rfl h6 Tryd.underlying117 rfl pl_size) rfl ⟨(none, some w.heap.size), rfl, place_more HH.out (HB5.out.trans (k6.below (by omega))) (k6.other HX5.out (by omega)), HB5.out.trans (k6.below (by omega))⟩
    · have hn1 : ((n : Int) == 1) = false := beq_eq_false_iff_ne.2 (by omega)
      clear hmore h1
      go_enter Tryd.func91, Tryd.ntmps91
      go_upto_region 1 with fail
      clear hw1
      go_wp2_with (first
        | (refine wpList_load_mid rfl 31 _ rfl w.heap.size 0 rfl [.int .u32 (bb : Int), .slice va vn vc] _ (row_range HX1.out) Tryd.underlying31 rfl row_size ?_)
        | (refine wpList_load_mid rfl 31 _ rfl w.heap.size 0 rfl [.int .u32 (bb : Int), .slice va vn vc] _ (row_range HX4.out) Tryd.underlying31 rfl row_size ?_)
        | (go_at_call 105; refine (HF.out _ HB1.out).mono ?_; rintro r w2 ⟨rfl, hb⟩; have HX2 := Lib.hid ((hb.block _ (by have := HS1.out; omega)).trans HX1.out); have HY2 := Lib.hid ((hb.block _ (by have := HS1.out; omega)).trans HY1.out); have HB2 := Lib.hid (HB1.out.trans (hb.mono HB1.out.size)); have HS2 : Hid (w.heap.size + 2 ≤ w2.heap.size) := (by show _ ≤ _; have := hb.size; have := HS1.out; omega); clear hb)
        | (refine st_agg rfl 117 _ _ rfl w2.heap.size (plc (fo, fm)) rfl rfl 117 (plc (none, none)) (heap_alloc_last w2 _) pl_size rfl (plc_one _) ?_; intro w3 h3 k3; have HP3 := Lib.hid h3; have hbb : Below w2.heap.size w2 w3 := (Below.newly' w2 _).trans (k3.below (Nat.le_refl _)); have HX3 := Lib.hid ((hbb.block _ (by have := HS2.out; omega)).trans HX2.out); have HY3 := Lib.hid ((hbb.block _ (by have := HS2.out; omega)).trans HY2.out); have HB3 := Lib.hid (HB2.out.trans (hbb.mono HB2.out.size)); have HS3 : Hid (w2.heap.size < w3.heap.size) := (Array.getElem?_eq_some_iff.1 h3).1; have HX4 := HX3; obtain ⟨X, hX⟩ : ∃ X, X = w2.heap.size := ⟨_, rfl⟩; rw [← hX] at HP3 HS3 ⊢; have HXX : Hid (w.heap.size + 2 ≤ X) := (by show _ ≤ _; have := HS2.out; omega); clear h3 k3 hbb hX)
        | (go_at_call 106; refine (HLN.out _ (HB3.out)).mono ?_; rintro r w5 ⟨rfl, hb⟩; have HP5 := Lib.hid ((hb.block _ HS3.out).trans HP3.out); have HX5 := Lib.hid ((hb.block _ (by have := HS3.out; have := HXX.out; omega)).trans HX3.out); have HY5 := Lib.hid ((hb.block _ (by have := HS3.out; have := HXX.out; omega)).trans HY3.out); have HB5 := Lib.hid (HB3.out.trans (hb.mono HB3.out.size)); have cp5 : w5.cell? ⟨X, 0, none⟩ = some (pv fo) := cell_in HP5.out rfl; clear hb)
        | (refine ld_if (by rfl) 117 _ rfl X rfl 117 _ _ _ HP5.out Tryd.underlying117 rfl pl_size ?_)
        | (refine st_agg rfl 117 _ _ rfl (w.heap.size + 1) (plc (none, some w.heap.size)) rfl rfl 117 _ HY5.out pl_size rfl (plc_one (none, some w.heap.size)) ?_; intro w6 h6 k6))
      exact bodyPost_ret (results_cell_row rfl _ _ (w.heap.size + 1) 117 _ (0, 0) _ rfl h6 Tryd.underlying117 rfl pl_size) rfl ⟨(none, some w.heap.size), rfl, place_more HH.out (HB5.out.trans (k6.below (by omega))) (k6.other HX5.out (by omega)), HB5.out.trans (k6.below (by omega))⟩
theorem hm_place (hs : ByteArray → Nat) : ∀ f, PlaceOk hs f
  | 0 => hm_place_0 hs
  | f + 1 => hm_place_s hs f
end Go.Proofs.YtnnlfgfgfegjkaaDoor
