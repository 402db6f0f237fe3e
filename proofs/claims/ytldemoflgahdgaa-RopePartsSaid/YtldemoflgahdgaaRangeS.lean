/- A range over a function whose iterator keeps two boxes of its own (yield's, and a count) at the first two blocks that it lays: what such an iterator gives, and what the statement that ranges over it owes. -/
import Derived.Test.YtldemoflgahdgaaRoundIn
import Derived.Test.YtldemoflgahdgaaKeptIn
import Derived.Test.YtldemoflgahdgaaPv12w
namespace Go.Proofs.Ytldemoflgahdgaa
open Go.RowKit Go.Shelf
set_option linter.unusedSimpArgs false

/-- All blocks of cells of this type are kept. -/
def TK (T : TypeId) (A B : World) : Prop := ∀ (k : Nat) (cs : Array Value) (fr : Nat × Nat), A.heap[k]? = some (.cells cs T fr) → B.heap[k]? = some (.cells cs T fr)
theorem TK.refl (T : TypeId) (A : World) : TK T A A := fun _ _ _ h => h
theorem TK.trans {T : TypeId} {A B C : World} (h : TK T A B) (k : TK T B C) : TK T A C := fun i cs fr e => k i cs fr (h i cs fr e)
theorem TK.below {T : TypeId} {A B : World} (h : Below A.heap.size A B) : TK T A B := fun k _ _ e => (h.block k (Array.getElem?_eq_some_iff.1 e).1).trans e
theorem TK.grown {T : TypeId} {A B : World} {row : Option Nat} (h : A.grownBy B row) (hT : ∀ X, row = some X → ∀ cs fr, A.heap[X]? ≠ some (.cells cs T fr)) : TK T A B := fun k cs fr e => (h.block k (Array.getElem?_eq_some_iff.1 e).1 (fun e' => hT k e'.symm cs fr e)).trans e
/-- What a round keeps that goes on: what lay below n₀, the iterator's two boxes, and all blocks of cells of one type. -/
def KS (T : TypeId) (n₀ Y : Nat) (A B : World) : Prop := Below n₀ A B ∧ B.heap[Y]? = A.heap[Y]? ∧ B.heap[Y + 1]? = A.heap[Y + 1]? ∧ TK T A B
theorem KS.trans {T : TypeId} {n₀ Y : Nat} {A B C : World} (h : KS T n₀ Y A B) (k : KS T n₀ Y B C) : KS T n₀ Y A C := ⟨h.1.trans k.1, k.2.1.trans h.2.1, k.2.2.1.trans h.2.2.1, h.2.2.2.trans k.2.2.2⟩
theorem yield_any {m m' l : Nat} {P : Program} {args : Array Value} {W : World} {R : Ending → World → Prop} (h : YieldAt Fence.wide m P l args W R) : YieldAt Fence.wide m' P l args W R := by
  obtain ⟨fn, tmps, assign, body, hy, hR⟩ := h
  exact ⟨fn, tmps, assign, body, hy, hR.1, fun c cs _ => hR.2 c cs (fun d h => by cases h)⟩
/-- Goes through S's lists, or stops at one of Sp's; J: what the caller keeps between two rounds, whatever is written into the count's box. -/
def IterState {α : Type} (T : TypeId) (P : Program) (gf : Nat) (lb : Array Value) (encs : α → Array Value) (n₀ : Nat) (S Sp : List α → Prop) (N : Nat) (w0 : World) : Prop :=
  ∀ (l : Nat) (J Jx : List α → World → Prop) (W : World), Below w0.heap.size w0 W →
    (∀ s A B, J s A → Below A.heap.size A B → J s B) → (∀ s A v, J s A → W.heap.size + 1 < A.heap.size → J s (A.setCell ⟨W.heap.size + 1, 0, none⟩ v)) →
    (∀ m pre x V, J pre V → W.heap.size + 2 ≤ V.heap.size → pre.length < N → YieldAt Fence.wide m P l (encs x) V fun e V' =>
      (e = .returned (.bool true) ∧ J (pre ++ [x]) V' ∧ KS T n₀ W.heap.size V V') ∨ (e = .returned (.bool false) ∧ Jx (pre ++ [x]) V')) →
    J [] W → ∀ m, CallsIn Fence.wide m P gf (#[.func (.yield l) #[] #[]] ++ lb) W fun e W' => (∃ v, e = .returned v) ∧ ((∃ ys, S ys ∧ J ys W') ∨ (∃ pre, Sp pre ∧ Jx pre W'))
theorem ks_put {T : TypeId} {n₀ Y : Nat} {W : World} {l : Nat} {o o' : Obj} (h : W.heap[l]? = some o) (ho : o.isCells = false) (hn : n₀ ≤ l) (h1 : l < Y) : KS T n₀ Y W (W.putObj l o') :=
  ⟨(Below.refl n₀ W).grown (grownBy_putObj' W l o') (by have := (Array.getElem?_eq_some_iff.1 h).1; omega) (fun k e => by cases e; omega), World.putObj_heap_other (by omega), World.putObj_heap_other (by omega), TK.grown (grownBy_putObj' W l o') (fun X e cs fr h' => by cases e; rw [h] at h'; cases h'; cases ho)⟩

theorem range_resolves {P : Program} {g : Operand} {a : Act} {gf : Nat} {lb : Array Value} (hg : a.eval g = .func (.func gf) #[] lb) (l : Nat) (V : World) :
    (resolve a.eval (rangeCall g l) 0).run P V = .ok { target := .fn (.func gf) lb, args := #[.func (.yield l) #[] #[]] } V := by
  simp only [resolve, hg]
  simp [go_sem]
theorem range_enters {P : Program} {gf : Nat} {lb : Array Value} (eg : ∀ args w, (callFunc gf args).run P w = .ok (.enter gf args) w) (args : Array Value) (V : World) :
    (invoke (.fn (.func gf) lb) args).run P V = .ok (.enter gf (args ++ lb)) V := by
  simp [invoke, go_sem, eg]
set_option maxHeartbeats 400000 in
theorem wpIn_range_state {α : Type} {T : TypeId} {P : Program} {n n₀ : Nat} {g : Operand} {ps : Array Tmp} {assign body : Code} {Q : Exit → Act → World → Prop} {a : Act} {w : World} (hn₀ : n₀ ≤ w.heap.size)
    {gf : Nat} {lb : Array Value} (hg : a.eval g = .func (.func gf) #[] lb) (eg : ∀ args w, (callFunc gf args).run P w = .ok (.enter gf args) w)
    {encs : α → Array Value} {S Sp : List α → Prop} {N : Nat} (hseq : IterState T P gf lb encs n₀ S Sp N w) (hps : ∀ x, (encs x).size = ps.size)
    (I : List α → World → Prop) (Ix : Code → List α → World → Prop) (hI : OwnFrom w.heap.size I) (hIx : ∀ c, OwnFrom w.heap.size (Ix c))
    (hIS : ∀ s A v, I s A → w.heap.size + 3 < A.heap.size → I s (A.setCell ⟨w.heap.size + 3, 0, none⟩ v)) (h0 : I [] w) (a₁ : α → Act)
    (hassign : ∀ (l : Nat) (x : α) (W : World) (K : Act → World → Prop), K (a₁ x) W →
      assign.wpIn (Fence.wide.inRound l) n P (Exit.then K (fun _ _ _ => False)) { tmps := (ps.zip (encs x)).foldl (fun t (p, v) => t.setIfInBounds p v) a.tmps, defers := [] } W)
    (hbody : ∀ (l : Nat) (pre : List α) (x : α) (W : World), w.heap.size + 4 ≤ W.heap.size → I pre W → pre.length < N → body.wpIn (Fence.wide.inRound l) n P (ownPostG w.heap.size (KS T n₀ (w.heap.size + 2)) I Ix (pre ++ [x]) W) (a₁ x) W)
    (hdone : ∀ (xs : List α) (W : World), S xs → I xs W → W.heap[w.heap.size]? = some (.deferred (some [])) → Q .normal { a with defers := { target := .collected w.heap.size, args := #[] } :: a.defers } W)
    (hstop : ∀ (c : Code) (pre : List α) (W : World), Sp pre → Ix c pre W → W.heap[w.heap.size]? = some (.deferred (some [])) → c.wpIn Fence.wide n P Q { a with defers := { target := .collected w.heap.size, args := #[] } :: a.defers } W) :
    (Code.rangeFunc g ps assign body).wpIn Fence.wide n P Q a w := by
  refine wpIn_rangeFunc fun fn hfn => ?_
  rw [show Fence.wide.round = none from rfl]
  -- the loop's record, by its state and its pending jump
  obtain ⟨rec, hrec⟩ : ∃ rec : LoopState → Option Code → Loop, rec = fun st pe => { state := st, pending := pe, fn, tmps := a.tmps, params := ps, assign, body, defers := w.heap.size } := ⟨_, rfl⟩
  obtain ⟨V0, hV0⟩ : ∃ V0, V0 = (w.alloc (.deferred (some []))).alloc (.loop (rec .ready none)) := ⟨_, rfl⟩
  have hsz : V0.heap.size = w.heap.size + 2 := by rw [hV0]; simp
  have hrow : V0.heap[w.heap.size + 1]? = some (.loop (rec .ready none)) := by
    have h := World.alloc_heap_new (w.alloc (.deferred (some []))) (.loop (rec .ready none))
    rwa [World.size_alloc, ← hV0] at h
  have hdef : V0.heap[w.heap.size]? = some (.deferred (some [])) := by
    rw [hV0]; exact (Below.heap_alloc _ _ _ (by simp)).trans (World.alloc_heap_new w _)
  have hbl : Below w.heap.size w V0 := by rw [hV0]; exact Below.more (Below.newly' _ _) _
  have hI0 : I [] V0 := by rw [hV0]; exact hI.alloc _ (hI.alloc _ h0)
  -- what J says beside I
  obtain ⟨bk, hbk⟩ : ∃ bk : Loop → World → Prop, bk = fun r V => V.heap[w.heap.size + 1]? = some (.loop r) ∧ V.heap[w.heap.size]? = some (.deferred (some [])) := ⟨_, rfl⟩
  have bk_block : ∀ {r : Loop} {A B : World}, bk r A → B.heap[w.heap.size + 1]? = A.heap[w.heap.size + 1]? → B.heap[w.heap.size]? = A.heap[w.heap.size]? → bk r B := fun h h1 h2 => by
    rw [hbk] at h ⊢
    exact ⟨h1.trans h.1, h2.trans h.2⟩
  have bk_lt : ∀ {r : Loop} {A : World}, bk r A → w.heap.size + 1 < A.heap.size := fun h => by
    rw [hbk] at h
    exact (Array.getElem?_eq_some_iff.1 h.1).1
  have bk_put : ∀ {r r' : Loop} {A : World}, bk r A → bk r' (A.putObj (w.heap.size + 1) (.loop r')) := fun h => by
    have hlt := bk_lt h
    rw [hbk] at h ⊢
    exact ⟨World.putObj_heap_same hlt, (World.putObj_heap_other (by omega)).trans h.2⟩
  have bk_keep : ∀ {r : Loop} {A B : World}, bk r A → KeepsFrom w.heap.size A B → bk r B := fun h k => by
    rw [hbk] at h ⊢
    exact ⟨k.same _ _ (by omega) h.1 rfl, k.same _ _ (Nat.le_refl _) h.2 rfl⟩
  have hrun : CallsIn Fence.wide (n - 1) P gf (#[.func (.yield (w.heap.size + 1)) #[] #[]] ++ lb) V0
      (rangePost Fence.wide n P (w.heap.size + 1) Q { a with defers := [{ target := .collected w.heap.size, args := #[] }] ++ a.defers }) := by
    refine (hseq (w.heap.size + 1) (fun pre V => I pre V ∧ bk (rec .ready none) V) (fun pre V => ∃ c, Ix c pre V ∧ bk (rec .done (some c)) V) V0 hbl
      (fun s A B h hb => ⟨hI s A B none h.1 ⟨hb.os, hb.tape, hb.output, hb.size, fun k hk _ => hb.block k hk⟩ (fun r e => by cases e), bk_block h.2 (hb.block _ (bk_lt h.2)) (hb.block _ (Nat.lt_of_succ_lt (bk_lt h.2)))⟩)
      (fun s A v h hlt => by
        rw [hsz] at hlt ⊢
        exact ⟨hIS s A v h.1 hlt, bk_block h.2 (heap_setCell_other _ _ _ _ (by show ¬ _; simp)) (heap_setCell_other _ _ _ _ (by show ¬ (w.heap.size = w.heap.size + 2 + 1); omega))⟩)
      ?_ ⟨hI0, by rw [hbk]; exact ⟨hrow, hdef⟩⟩ (n - 1)).mono ?_
    · rintro m pre x V ⟨hi, hb⟩ hV hlen
      rw [hsz] at hV ⊢
      have hb1 := hb
      rw [hbk] at hb1
      have hy := run_yield (P := P) (args := encs x) hb1.1 (by rw [hrec]; exact hps x)
      have hround : YieldAt Fence.wide n P (w.heap.size + 1) (encs x) V fun e V' =>
          (e = .returned (.bool true) ∧ (I (pre ++ [x]) V' ∧ bk (rec .ready none) V') ∧ KS T n₀ (w.heap.size + 2) V V') ∨ (e = .returned (.bool false) ∧ ∃ c, Ix c (pre ++ [x]) V' ∧ bk (rec .done (some c)) V') := by
        rw [hrec] at hy
        refine ⟨fn, _, assign, body, hy, roundIn_of_wpIn hfn (hassign _ x V _ ⟨_, run_beginRound hb1.1 (by rw [hrec]), ?_⟩)⟩
        obtain ⟨Vb, hVb⟩ : ∃ Vb, Vb = V.putObj (w.heap.size + 1) (.loop { rec .ready none with state := .busy }) := ⟨_, rfl⟩
        have hks : KS T n₀ (w.heap.size + 2) V Vb := by rw [hVb]; exact ks_put hb1.1 rfl (by omega) (by omega)
        have hbb : bk { rec .ready none with state := .busy } Vb := by rw [hVb]; exact bk_put hb
        have hib : I pre Vb := by rw [hVb]; exact hI.putObj _ hi (by omega) hb1.1 rfl
        rw [← hVb]
        refine wpIn_mono (hbody _ pre x Vb (by rw [hVb]; simp; omega) hib hlen) ?_
        -- the round's end
        have fin : ∀ (jump : Option Code) (V3 : World), KeepsFrom w.heap.size Vb V3 →
            (Instr.endRound (w.heap.size + 1) jump).run P V3 = .ok (.bool jump.isNone) (V3.putObj (w.heap.size + 1) (.loop (rec (if jump.isNone then .ready else .done) jump))) ∧ bk { rec .ready none with state := .busy } V3 := fun jump V3 hk => by
          have h3 := bk_keep hbb hk
          have h4 := h3
          rw [hbk] at h4
          have h5 := run_endRound (P := P) jump h4.1
          rw [hrec] at h5 ⊢
          exact ⟨h5, by rw [hrec] at h3; exact h3⟩
        have leave : ∀ (c : Code) (V3 : World), KeepsFrom w.heap.size Vb V3 → Ix c (pre ++ [x]) V3 → ∃ v V4, (Instr.endRound (w.heap.size + 1) (some c)).run P V3 = .ok v V4 ∧
            ((Ending.returned v = .returned (.bool true) ∧ (I (pre ++ [x]) V4 ∧ bk (rec .ready none) V4) ∧ KS T n₀ (w.heap.size + 2) V V4) ∨ (Ending.returned v = .returned (.bool false) ∧ ∃ c, Ix c (pre ++ [x]) V4 ∧ bk (rec .done (some c)) V4)) := fun c V3 hk hx => by
          obtain ⟨hr, hb3⟩ := fin (some c) V3 hk
          have hb4 := hb3
          rw [hbk] at hb4
          exact ⟨_, _, hr, .inr ⟨rfl, c, (hIx c).putObj _ hx (by omega) hb4.1 rfl, bk_put hb3⟩⟩
        rintro e a3 V3 hp
        cases e with
        | normal =>
          obtain ⟨hk, hkp, hi3⟩ := hp
          obtain ⟨hr, hb3⟩ := fin none V3 hk
          have hb4 := hb3
          rw [hbk] at hb4
          exact ⟨_, _, hr, .inl ⟨rfl, ⟨hI.putObj _ hi3 (by omega) hb4.1 rfl, bk_put hb3⟩, (hks.trans hkp).trans (ks_put hb4.1 rfl (by omega) (by omega))⟩⟩
        | ret => exact leave _ _ hp.1 hp.2
        | exit id => exact leave _ _ hp.1 hp.2
        | goto t => exact leave _ _ hp.1 hp.2
        | panic ch => exact hp.elim
        | outgrown => exact hp.elim
      exact yield_any hround
    · rintro e V2 ⟨⟨v, rfl⟩, (⟨xs, hS, hi, hb⟩ | ⟨pre, hSp, c, hi, hb⟩)⟩
      · have hb1 := hb
        rw [hbk] at hb1
        refine ⟨none, _, by have h := run_endLoop (P := P) hb1.1 (by rw [hrec]; simp); rw [hrec] at h; exact h, hdone xs _ hS (hI.putObj _ hi (by omega) hb1.1 rfl) ((World.putObj_heap_other (by omega)).trans hb1.2)⟩
      · have hb1 := hb
        rw [hbk] at hb1
        refine ⟨some c, _, by have h := run_endLoop (P := P) hb1.1 (by rw [hrec]; simp); rw [hrec] at h; exact h, hstop c pre _ hSp ((hIx c).putObj _ hi (by omega) hb1.1 rfl) ((World.putObj_heap_other (by omega)).trans hb1.2)⟩
  have henter : (Instr.enterLoop fn a.tmps ps assign body none).run P w = .ok (w.heap.size + 1, [{ target := .collected w.heap.size, args := #[] }]) V0 := by
    rw [hV0, hrec]
    exact run_enterLoop_outer _ _ _ _ _
  refine ⟨w.heap.size + 1, [{ target := .collected w.heap.size, args := #[] }], V0, { target := .fn (.func gf) lb, args := #[.func (.yield (w.heap.size + 1)) #[] #[]] }, V0, gf, #[.func (.yield (w.heap.size + 1)) #[] #[]] ++ lb, V0, ?_, ?_, ?_, ?_, ?_, ?_⟩
  · exact henter
  · exact range_resolves hg _ _
  · intro f' _; exact trivial
  · exact range_enters eg _ _
  · intro h; exact absurd h (by simp [Fence.wide])
  · exact hrun
end Go.Proofs.Ytldemoflgahdgaa
