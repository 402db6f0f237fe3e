/- Package pvec: tries of 32 ways with a tail, as what they hold, place by place. -/
import Derived.Test.YtpjbhdplginbaaaRuns
import Derived.Lib.BitFns
namespace Go.Proofs.Ytpjbhdplginbaaa
open Go.RowKit
set_option maxRecDepth 1000000
set_option linter.unusedSimpArgs false

/-- How many of n things are not in the tail. -/
def othN (n : Nat) : Nat := (n - 1) / 32 * 32
/-- How many levels a trie of m things has (of at most 32 to the power of 4). -/
def levN (m : Nat) : Nat := if m = 0 then 0 else if m ≤ 32 then 1 else if m ≤ 1024 then 2 else if m ≤ 32768 then 3 else 4
theorem oth_le (n : Nat) : othN n ≤ n := by unfold othN; omega
theorem oth_tail {n : Nat} (h : 0 < n) : othN n < n ∧ n ≤ othN n + 32 := by unfold othN; omega
theorem oth_mod (n : Nat) : othN n % 32 = 0 := by unfold othN; omega
theorem oth_zero : othN 0 = 0 := rfl
theorem bl_small : ∀ y : Fin 32, y.val ≠ 0 → 1 ≤ Lib.bitLen y.val ∧ Lib.bitLen y.val ≤ 5 := by decide +kernel
theorem bl_step {x : Nat} (h : 32 ≤ x) (hx : x < 18446744073709551616) : Lib.bitLen x = 5 + Lib.bitLen (x / 32) := Lib.bitLen_shift 5 x h hx
theorem bl_lev {m : Nat} (h0 : 0 < m) (h32 : m % 32 = 0) (hm : m ≤ 1048576) : (Lib.bitLen (m - 1) + 4) / 5 = levN m ∧ Lib.bitLen (m - 1) ≤ 20 := by
  have hs := fun (y : Nat) (h1 : y < 32) (h2 : y ≠ 0) => bl_small ⟨y, h1⟩ h2
  simp only at hs
  unfold levN
  rw [if_neg (by omega)]
  by_cases h1 : m ≤ 32
  · have := hs (m - 1) (by omega) (by omega)
    have e : m - 1 = 31 := by omega
    have b31 : Lib.bitLen 31 = 5 := by decide +kernel
    rw [if_pos h1, e, b31]
    exact ⟨rfl, by omega⟩
  · rw [if_neg h1, bl_step (by omega) (by omega)]
    by_cases h2 : m ≤ 1024
    · have := hs ((m - 1) / 32) (by omega) (by omega)
      rw [if_pos h2]
      omega
    · rw [if_neg h2, bl_step (by omega) (by omega)]
      by_cases h3 : m ≤ 32768
      · have := hs ((m - 1) / 32 / 32) (by omega) (by omega)
        rw [if_pos h3]
        omega
      · have := hs ((m - 1) / 32 / 32 / 32) (by omega) (by omega)
        rw [if_neg h3, bl_step (by omega) (by omega)]
        omega
theorem lev_le (m : Nat) : levN m ≤ 4 := by unfold levN; split <;> (try split) <;> (try split) <;> (try split) <;> omega
theorem lev_pos {m : Nat} (h : 0 < m) : 1 ≤ levN m := by unfold levN; rw [if_neg (by omega)]; split <;> (try split) <;> (try split) <;> omega
theorem lev_room {m : Nat} (hm : m ≤ 1048576) : m ≤ 32 ^ levN m := by
  unfold levN
  split
  · omega
  · split
    · simpa using (by omega : m ≤ 32)
    · split
      · simpa using (by omega : m ≤ 1024)
      · split
        · simpa using (by omega : m ≤ 32768)
        · simpa using hm
theorem lev_more {m : Nat} (h : 2 ≤ levN m) : 32 ^ (levN m - 1) < m := by
  unfold levN at h ⊢
  split at h
  · omega
  · split at h
    · omega
    · rename_i h1 h2
      rw [if_neg h1, if_neg h2]
      split
      · simpa using (by omega : 32 < m)
      · split
        · simpa using (by omega : 1024 < m)
        · simpa using (by omega : 32768 < m)
theorem lev_mono {m k : Nat} (h : m ≤ k) : levN m ≤ levN k := by
  unfold levN
  repeat' split
  all_goals omega
theorem lev_one {m : Nat} (h0 : 0 < m) (h : levN m = 1) : m ≤ 32 := by
  unfold levN at h
  repeat' split at h
  all_goals omega
theorem lev_zero {m : Nat} : levN m = 0 ↔ m = 0 := by
  unfold levN
  repeat' split
  all_goals omega
/-- One thing is another one. -/
def upd (f : Nat → Int) (i : Nat) (x : Int) : Nat → Int := fun j => if j = i then x else f j

/-- A node at that height: 32 things in a leaf, 32 ways else; what it holds is f, n things of it; its lists lie in blocks of the kind S. -/
def NodeAt (S : Nat → Prop) (W : World) : Nat → Value → Value → (Nat → Int) → Nat → Prop
  | 0, a, b, f, n => a = .slice none 0 0 ∧ n = 32 ∧ RunAt S W 3 1 b (fi f) 32
  | h + 1, a, b, f, n => b = .slice none 0 0 ∧ 0 < n ∧ n ≤ 32 ^ (h + 2) ∧ ∃ F, RunAt S W 28 2 a F ((n + 32 ^ (h + 1) - 1) / 32 ^ (h + 1)) ∧
      ∀ j, j * 32 ^ (h + 1) < n → NodeAt S W h (F (2 * j)) (F (2 * j + 1)) (fun i => f (j * 32 ^ (h + 1) + i)) (min (32 ^ (h + 1)) (n - j * 32 ^ (h + 1)))
section
variable {S S' : Nat → Prop} {W W' : World}
theorem NodeAt.weak (hs : ∀ g, S g → S' g) : ∀ {h : Nat} {a b : Value} {f : Nat → Int} {n : Nat}, NodeAt S W h a b f n → NodeAt S' W h a b f n
  | 0, _, _, _, _, ⟨h1, h2, h3⟩ => ⟨h1, h2, h3.weak hs⟩
  | _ + 1, _, _, _, _, ⟨h1, h2, h3, F, h4, h5⟩ => ⟨h1, h2, h3, F, h4.weak hs, fun j hj => (h5 j hj).weak hs⟩
theorem NodeAt.old : ∀ {h : Nat} {a b : Value} {f : Nat → Int} {n : Nat}, NodeAt S W h a b f n → NodeAt (fun g => S g ∧ g < W.heap.size) W h a b f n
  | 0, _, _, _, _, ⟨h1, h2, h3⟩ => ⟨h1, h2, h3.old⟩
  | _ + 1, _, _, _, _, ⟨h1, h2, h3, F, h4, h5⟩ => ⟨h1, h2, h3, F, h4.old, fun j hj => (h5 j hj).old⟩
theorem NodeAt.kept {row : Option Nat} (hg : W.grownBy W' row) (hr : ∀ X, row = some X → ¬ S X) : ∀ {h : Nat} {a b : Value} {f : Nat → Int} {n : Nat}, NodeAt S W h a b f n → NodeAt S W' h a b f n
  | 0, _, _, _, _, ⟨h1, h2, h3⟩ => ⟨h1, h2, h3.kept hg hr⟩
  | _ + 1, _, _, _, _, ⟨h1, h2, h3, F, h4, h5⟩ => ⟨h1, h2, h3, F, h4.kept hg hr, fun j hj => (h5 j hj).kept hg hr⟩
theorem NodeAt.keptT {row : Option Nat} (hg : W.grownBy W' row) (hT : ∀ X, row = some X → ∃ o : Obj, W.heap[X]? = some o ∧ ∀ cs fr, o ≠ .cells cs 3 fr ∧ o ≠ .cells cs 28 fr) : ∀ {h : Nat} {a b : Value} {f : Nat → Int} {n : Nat}, NodeAt S W h a b f n → NodeAt S W' h a b f n
  | 0, _, _, _, _, ⟨h1, h2, h3⟩ => ⟨h1, h2, h3.keptT hg fun X e => by obtain ⟨o, h1, h2⟩ := hT X e; exact ⟨o, h1, fun cs fr => (h2 cs fr).1⟩⟩
  | _ + 1, _, _, _, _, ⟨h1, h2, h3, F, h4, h5⟩ => ⟨h1, h2, h3, F, h4.keptT hg fun X e => by obtain ⟨o, h1, h2⟩ := hT X e; exact ⟨o, h1, fun cs fr => (h2 cs fr).2⟩, fun j hj => (h5 j hj).keptT hg hT⟩
theorem NodeAt.later {h : Nat} {a b : Value} {f : Nat → Int} {n : Nat} (hn : NodeAt S W h a b f n) (hb : Below W.heap.size W W') : NodeAt S W' h a b f n :=
  hn.kept (row := none) ⟨hb.os, hb.tape, hb.output, hb.size, fun k hk _ => hb.block k hk⟩ (fun _ e => by cases e)
theorem NodeAt.congr : ∀ {h : Nat} {a b : Value} {f g : Nat → Int} {n : Nat}, NodeAt S W h a b f n → (∀ j, j < n → f j = g j) → NodeAt S W h a b g n
  | 0, _, _, _, _, _, ⟨h1, h2, h3⟩, e => ⟨h1, h2, h3.congr fun j hj => by unfold fi; rw [e j (by omega)]⟩
  | h + 1, _, _, _, _, _, ⟨h1, h2, h3, F, h4, h5⟩, e => ⟨h1, h2, h3, F, h4, fun j hj => (h5 j hj).congr fun i hi => e _ (by have := Nat.lt_of_lt_of_le hi (Nat.min_le_right _ _); omega)⟩
theorem NodeAt.pos : ∀ {h : Nat} {a b : Value} {f : Nat → Int} {n : Nat}, NodeAt S W h a b f n → 0 < n
  | 0, _, _, _, _, ⟨_, h2, _⟩ => by omega
  | _ + 1, _, _, _, _, ⟨_, h2, _⟩ => h2
theorem NodeAt.le : ∀ {h : Nat} {a b : Value} {f : Nat → Int} {n : Nat}, NodeAt S W h a b f n → n ≤ 32 ^ (h + 1)
  | 0, _, _, _, _, ⟨_, h2, _⟩ => by simp; omega
  | _ + 1, _, _, _, _, ⟨_, _, h3, _⟩ => h3
theorem NodeAt.shape : ∀ {h : Nat} {a b : Value} {f : Nat → Int} {n : Nat}, NodeAt S W h a b f n → (∃ p k c, a = .slice p k c) ∧ ∃ p k c, b = .slice p k c
  | 0, _, _, _, _, ⟨h1, _, h3⟩ => by obtain ⟨p, c, e, _⟩ := h3.shape; exact ⟨⟨_, _, _, h1⟩, _, _, _, e⟩
  | _ + 1, _, _, _, _, ⟨h1, _, _, F, h4, _⟩ => by obtain ⟨p, c, e, _⟩ := h4.shape; exact ⟨⟨_, _, _, e⟩, _, _, _, h1⟩
theorem NodeAt.one {h : Nat} {a b : Value} {f : Nat → Int} {n : Nat} (hn : NodeAt S W h a b f n) : a.oneCell' = true ∧ b.oneCell' = true := by
  obtain ⟨⟨_, _, _, rfl⟩, _, _, _, rfl⟩ := hn.shape
  exact ⟨rfl, rfl⟩
end

/-- The trie of m things: nothing, or a node as high as need be. -/
def TrieAt (S : Nat → Prop) (W : World) (a b : Value) (f : Nat → Int) (m : Nat) : Prop :=
  (m = 0 ∧ a = .slice none 0 0 ∧ b = .slice none 0 0) ∨ (0 < m ∧ NodeAt S W (levN m - 1) a b f m)
/-- Four cells of a vector: n things, t of them in the tail. -/
def VecG (S : Nat → Prop) (W : World) (c : Array Value) (f : Nat → Int) (n t : Nat) : Prop :=
  t ≤ n ∧ t ≤ 32 ∧ (n - t) % 32 = 0 ∧ n ≤ 1000000 ∧ ∃ a b v, c = #[.int .i64 (n : Int), a, b, v] ∧ TrieAt S W a b f (n - t) ∧ RunAt S W 3 1 v (fi fun i => f (n - t + i)) t
section
variable {S S' : Nat → Prop} {W W' : World} {a b v : Value} {c : Array Value} {f g : Nat → Int} {m n t : Nat}
theorem TrieAt.weak (hs : ∀ g, S g → S' g) : TrieAt S W a b f m → TrieAt S' W a b f m
  | .inl h => .inl h
  | .inr ⟨h0, h⟩ => .inr ⟨h0, h.weak hs⟩
theorem TrieAt.old : TrieAt S W a b f m → TrieAt (fun g => S g ∧ g < W.heap.size) W a b f m
  | .inl h => .inl h
  | .inr ⟨h0, h⟩ => .inr ⟨h0, h.old⟩
theorem TrieAt.kept {row : Option Nat} (hg : W.grownBy W' row) (hr : ∀ X, row = some X → ¬ S X) : TrieAt S W a b f m → TrieAt S W' a b f m
  | .inl h => .inl h
  | .inr ⟨h0, h⟩ => .inr ⟨h0, h.kept hg hr⟩
theorem TrieAt.keptT {row : Option Nat} (hg : W.grownBy W' row) (hT : ∀ X, row = some X → ∃ o : Obj, W.heap[X]? = some o ∧ ∀ cs fr, o ≠ .cells cs 3 fr ∧ o ≠ .cells cs 28 fr) : TrieAt S W a b f m → TrieAt S W' a b f m
  | .inl h => .inl h
  | .inr ⟨h0, h⟩ => .inr ⟨h0, h.keptT hg hT⟩
theorem TrieAt.later (h : TrieAt S W a b f m) (hb : Below W.heap.size W W') : TrieAt S W' a b f m :=
  h.kept (row := none) ⟨hb.os, hb.tape, hb.output, hb.size, fun k hk _ => hb.block k hk⟩ (fun _ e => by cases e)
theorem TrieAt.congr (h : TrieAt S W a b f m) (e : ∀ j, j < m → f j = g j) : TrieAt S W a b g m := by
  rcases h with h | ⟨h0, h⟩
  · exact .inl h
  · exact .inr ⟨h0, h.congr e⟩
theorem TrieAt.shape (h : TrieAt S W a b f m) : (∃ p k c, a = .slice p k c) ∧ ∃ p k c, b = .slice p k c := by
  rcases h with ⟨_, rfl, rfl⟩ | ⟨_, h⟩
  · exact ⟨⟨_, _, _, rfl⟩, _, _, _, rfl⟩
  · exact h.shape
theorem VecG.weak (hs : ∀ g, S g → S' g) (h : VecG S W c f n t) : VecG S' W c f n t := by
  obtain ⟨h1, h2, h3, h4, a, b, v, h5, h6, h7⟩ := h
  exact ⟨h1, h2, h3, h4, a, b, v, h5, h6.weak hs, h7.weak hs⟩
theorem VecG.old (h : VecG S W c f n t) : VecG (fun g => S g ∧ g < W.heap.size) W c f n t := by
  obtain ⟨h1, h2, h3, h4, a, b, v, h5, h6, h7⟩ := h
  exact ⟨h1, h2, h3, h4, a, b, v, h5, h6.old, h7.old⟩
theorem VecG.kept {row : Option Nat} (hg : W.grownBy W' row) (hr : ∀ X, row = some X → ¬ S X) (h : VecG S W c f n t) : VecG S W' c f n t := by
  obtain ⟨h1, h2, h3, h4, a, b, v, h5, h6, h7⟩ := h
  exact ⟨h1, h2, h3, h4, a, b, v, h5, h6.kept hg hr, h7.kept hg hr⟩
theorem VecG.keptT {row : Option Nat} (hg : W.grownBy W' row) (hT : ∀ X, row = some X → ∃ o : Obj, W.heap[X]? = some o ∧ ∀ cs fr, o ≠ .cells cs 3 fr ∧ o ≠ .cells cs 28 fr) (h : VecG S W c f n t) : VecG S W' c f n t := by
  obtain ⟨h1, h2, h3, h4, a, b, v, h5, h6, h7⟩ := h
  exact ⟨h1, h2, h3, h4, a, b, v, h5, h6.keptT hg hT, h7.keptT hg fun X e => by obtain ⟨o, h1, h2⟩ := hT X e; exact ⟨o, h1, fun cs fr => (h2 cs fr).1⟩⟩
theorem VecG.later (h : VecG S W c f n t) (hb : Below W.heap.size W W') : VecG S W' c f n t :=
  h.kept (row := none) ⟨hb.os, hb.tape, hb.output, hb.size, fun k hk _ => hb.block k hk⟩ (fun _ e => by cases e)
theorem VecG.but {X : Nat} {cs : Array Value} {T : TypeId} {fr : Nat × Nat} (h : VecG S W c f n t) (k : Only X W W') (hX : W.heap[X]? = some (.cells cs T fr)) (h1 : T ≠ 3) (h2 : T ≠ 28) : VecG S W' c f n t :=
  h.keptT k.by_ fun Y e => by
    cases e
    exact ⟨_, hX, fun cs fr => ⟨fun e => (by simp only [Obj.cells.injEq] at e; exact h1 e.2.1), fun e => (by simp only [Obj.cells.injEq] at e; exact h2 e.2.1)⟩⟩
theorem VecG.congr (h : VecG S W c f n t) (e : ∀ j, j < n → f j = g j) : VecG S W c g n t := by
  obtain ⟨h1, h2, h3, h4, a, b, v, h5, h6, h7⟩ := h
  exact ⟨h1, h2, h3, h4, a, b, v, h5, h6.congr fun j hj => e j (by omega), h7.congr fun j hj => by show Value.int .i64 (f (n - t + j)) = Value.int .i64 (g (n - t + j)); rw [e _ (by omega)]⟩
theorem VecG.zero (S : Nat → Prop) (W : World) (f : Nat → Int) : VecG S W #[.int .i64 0, .slice none 0 0, .slice none 0 0, .slice none 0 0] f 0 0 :=
  ⟨by omega, by omega, by omega, by omega, _, _, _, rfl, .inl ⟨rfl, rfl, rfl⟩, .inl ⟨rfl, rfl⟩⟩
theorem VecG.size (h : VecG S W c f n t) : c.size = 4 := by
  obtain ⟨_, _, _, _, a, b, v, rfl, _⟩ := h
  rfl
theorem VecG.one (h : VecG S W c f n t) : c.all (·.oneCell') = true := by
  obtain ⟨_, _, _, _, a, b, v, rfl, h6, h7⟩ := h
  obtain ⟨⟨_, _, _, rfl⟩, _, _, _, rfl⟩ := h6.shape
  obtain ⟨_, _, rfl, _⟩ := h7.shape
  simp [Value.oneCell']
end
/-- Four cells of a vector of these things. -/
def VecAt (W : World) (c : Array Value) (f : Nat → Int) (n : Nat) : Prop := VecG (fun _ => True) W c f n (n - othN n)
end Go.Proofs.Ytpjbhdplginbaaa
