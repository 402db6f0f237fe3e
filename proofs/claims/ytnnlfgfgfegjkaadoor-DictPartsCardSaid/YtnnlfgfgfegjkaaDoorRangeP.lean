/- A range over a map's All, where a round is told what comes. (written by tools/gen10/rangep.py out of RangeS and Hm18) -/
import Derived.Test.YtnnlfgfgfegjkaaDoorPkB
import Derived.Test.YtnnlfgfgfegjkaaDoorHm18
namespace Go.Proofs.YtnnlfgfgfegjkaaDoor
open Go.RowKit Go.Shelf
set_option maxRecDepth 1000000
set_option linter.unusedSimpArgs false
attribute [local go_sem] Oper.semAt_some

/-- Goes through S's lists, or stops at one of Sp's; J: what the caller keeps between two rounds, whatever is written into the count's box. -/
def IterStateP {α : Type} (T : TypeId) (P : Program) (gf : Nat) (lb : Array Value) (encs : α → Array Value) (n₀ : Nat) (S Sp : List α → Prop) (Pr : List α → Prop) (w0 : World) : Prop :=
  ∀ (l : Nat) (J Jx : List α → World → Prop) (W : World), Below w0.heap.size w0 W →
    (∀ s A B, J s A → Below A.heap.size A B → J s B) → (∀ s A v, J s A → W.heap.size + 1 < A.heap.size → J s (A.setCell ⟨W.heap.size + 1, 0, none⟩ v)) →
    (∀ m pre x V, J pre V → W.heap.size + 2 ≤ V.heap.size → Pr (pre ++ [x]) → YieldAt Fence.wide m P l (encs x) V fun e V' =>
      (e = .returned (.bool true) ∧ J (pre ++ [x]) V' ∧ KS T n₀ W.heap.size V V') ∨ (e = .returned (.bool false) ∧ Jx (pre ++ [x]) V')) →
    J [] W → ∀ m, CallsIn Fence.wide m P gf (#[.func (.yield l) #[] #[]] ++ lb) W fun e W' => (∃ v, e = .returned v) ∧ ((∃ ys, S ys ∧ J ys W') ∨ (∃ pre, Sp pre ∧ Jx pre W'))
set_option maxHeartbeats 400000 in
theorem wpIn_range_stateP {α : Type} {T : TypeId} {P : Program} {n n₀ : Nat} {g : Operand} {ps : Array Tmp} {assign body : Code} {Q : Exit → Act → World → Prop} {a : Act} {w : World} (hn₀ : n₀ ≤ w.heap.size)
    {gf : Nat} {lb : Array Value} (hg : a.eval g = .func (.func gf) #[] lb) (eg : ∀ args w, (callFunc gf args).run P w = .ok (.enter gf args) w)
    {encs : α → Array Value} {S Sp : List α → Prop} {Pr : List α → Prop} (hseq : IterStateP T P gf lb encs n₀ S Sp Pr w) (hps : ∀ x, (encs x).size = ps.size)
    (I : List α → World → Prop) (Ix : Code → List α → World → Prop) (hI : OwnFrom w.heap.size I) (hIx : ∀ c, OwnFrom w.heap.size (Ix c))
    (hIS : ∀ s A v, I s A → w.heap.size + 3 < A.heap.size → I s (A.setCell ⟨w.heap.size + 3, 0, none⟩ v)) (h0 : I [] w) (a₁ : α → Act)
    (hassign : ∀ (l : Nat) (x : α) (W : World) (K : Act → World → Prop), K (a₁ x) W →
      assign.wpIn (Fence.wide.inRound l) n P (Exit.then K (fun _ _ _ => False)) { tmps := (ps.zip (encs x)).foldl (fun t (p, v) => t.setIfInBounds p v) a.tmps, defers := [] } W)
    (hbody : ∀ (l : Nat) (pre : List α) (x : α) (W : World), w.heap.size + 4 ≤ W.heap.size → I pre W → Pr (pre ++ [x]) → body.wpIn (Fence.wide.inRound l) n P (ownPostG w.heap.size (KS T n₀ (w.heap.size + 2)) I Ix (pre ++ [x]) W) (a₁ x) W)
    (hdone : ∀ (xs : List α) (W : World), S xs → I xs W → W.heap[w.heap.size]? = some (.deferred (some [])) → Q .normal { a with defers := { target := .collected w.heap.size, args := #[] } :: a.defers } W)
    (hstop : ∀ (c : Code) (pre : List α) (W : World), Sp pre → Ix c pre W → W.heap[w.heap.size]? = some (.deferred (some [])) → c.wpIn Fence.wide n P Q { a with defers := { target := .collected w.heap.size, args := #[] } :: a.defers } W) :
    (Code.rangeFunc g ps assign body).wpIn Fence.wide n P Q a w := by
  refine wpIn_rangeFunc fun fn hfn => ?_
  rw [show Fence.wide.round = none from rfl]
  -- the loop's record, by its state and its pending jump
  obtain ⟨rec, hrec⟩ : ∃ rec : LoopState → Option Code → Loop, rec = fun st pe => { state := st, pending := pe, fn, tmps := a.tmps, params := ps, assign, body, defers := w.heap.size } := ⟨_, rfl⟩
  obtain ⟨V0, hV0⟩ : ∃ V0, V0 = (w.alloc (.deferred (some []))).alloc (.loop (rec .ready none)) := ⟨_, rfl⟩
  have hsz : V0.heap.size = w.heap.size + 2 := by rw [hV0]; simp
  have hrow : V0.heap[w.heap.size + 1]? = some (.loop (rec .ready none)) := by
    have h := World.alloc_heap_new (w.alloc (.deferred (some []))) (.loop (rec .ready none))
    rwa [World.size_alloc, ← hV0] at h
  have hdef : V0.heap[w.heap.size]? = some (.deferred (some [])) := by
    rw [hV0]; exact (Below.heap_alloc _ _ _ (by simp)).trans (World.alloc_heap_new w _)
  have hbl : Below w.heap.size w V0 := by rw [hV0]; exact Below.more (Below.newly' _ _) _
  have hI0 : I [] V0 := by rw [hV0]; exact hI.alloc _ (hI.alloc _ h0)
  -- what J says beside I
  obtain ⟨bk, hbk⟩ : ∃ bk : Loop → World → Prop, bk = fun r V => V.heap[w.heap.size + 1]? = some (.loop r) ∧ V.heap[w.heap.size]? = some (.deferred (some [])) := ⟨_, rfl⟩
  have bk_block : ∀ {r : Loop} {A B : World}, bk r A → B.heap[w.heap.size + 1]? = A.heap[w.heap.size + 1]? → B.heap[w.heap.size]? = A.heap[w.heap.size]? → bk r B := fun h h1 h2 => by
    rw [hbk] at h ⊢
    exact ⟨h1.trans h.1, h2.trans h.2⟩
  have bk_lt : ∀ {r : Loop} {A : World}, bk r A → w.heap.size + 1 < A.heap.size := fun h => by
    rw [hbk] at h
    exact (Array.getElem?_eq_some_iff.1 h.1).1
  have bk_put : ∀ {r r' : Loop} {A : World}, bk r A → bk r' (A.putObj (w.heap.size + 1) (.loop r')) := fun h => by
    have hlt := bk_lt h
    rw [hbk] at h ⊢
    exact ⟨World.putObj_heap_same hlt, (World.putObj_heap_other (by omega)).trans h.2⟩
  have bk_keep : ∀ {r : Loop} {A B : World}, bk r A → KeepsFrom w.heap.size A B → bk r B := fun h k => by
    rw [hbk] at h ⊢
    exact ⟨k.same _ _ (by omega) h.1 rfl, k.same _ _ (Nat.le_refl _) h.2 rfl⟩
  have hrun : CallsIn Fence.wide (n - 1) P gf (#[.func (.yield (w.heap.size + 1)) #[] #[]] ++ lb) V0
      (rangePost Fence.wide n P (w.heap.size + 1) Q { a with defers := [{ target := .collected w.heap.size, args := #[] }] ++ a.defers }) := by
    refine (hseq (w.heap.size + 1) (fun pre V => I pre V ∧ bk (rec .ready none) V) (fun pre V => ∃ c, Ix c pre V ∧ bk (rec .done (some c)) V) V0 hbl
      (fun s A B h hb => ⟨hI s A B none h.1 ⟨hb.os, hb.tape, hb.output, hb.size, fun k hk _ => hb.block k hk⟩ (fun r e => by cases e), bk_block h.2 (hb.block _ (bk_lt h.2)) (hb.block _ (Nat.lt_of_succ_lt (bk_lt h.2)))⟩)
      (fun s A v h hlt => by
        rw [hsz] at hlt ⊢
        exact ⟨hIS s A v h.1 hlt, bk_block h.2 (heap_setCell_other _ _ _ _ (by show ¬ _; simp)) (heap_setCell_other _ _ _ _ (by show ¬ (w.heap.size = w.heap.size + 2 + 1); omega))⟩)
      ?_ ⟨hI0, by rw [hbk]; exact ⟨hrow, hdef⟩⟩ (n - 1)).mono ?_
    · rintro m pre x V ⟨hi, hb⟩ hV hlen
      rw [hsz] at hV ⊢
      have hb1 := hb
      rw [hbk] at hb1
      have hy := run_yield (P := P) (args := encs x) hb1.1 (by rw [hrec]; exact hps x)
      have hround : YieldAt Fence.wide n P (w.heap.size + 1) (encs x) V fun e V' =>
          (e = .returned (.bool true) ∧ (I (pre ++ [x]) V' ∧ bk (rec .ready none) V') ∧ KS T n₀ (w.heap.size + 2) V V') ∨ (e = .returned (.bool false) ∧ ∃ c, Ix c (pre ++ [x]) V' ∧ bk (rec .done (some c)) V') := by
        rw [hrec] at hy
        refine ⟨fn, _, assign, body, hy, roundIn_of_wpIn hfn (hassign _ x V _ ⟨_, run_beginRound hb1.1 (by rw [hrec]), ?_⟩)⟩
        obtain ⟨Vb, hVb⟩ : ∃ Vb, Vb = V.putObj (w.heap.size + 1) (.loop { rec .ready none with state := .busy }) := ⟨_, rfl⟩
        have hks : KS T n₀ (w.heap.size + 2) V Vb := by rw [hVb]; exact ks_put hb1.1 rfl (by omega) (by omega)
        have hbb : bk { rec .ready none with state := .busy } Vb := by rw [hVb]; exact bk_put hb
        have hib : I pre Vb := by rw [hVb]; exact hI.putObj _ hi (by omega) hb1.1 rfl
        rw [← hVb]
        refine wpIn_mono (hbody _ pre x Vb (by rw [hVb]; simp; omega) hib hlen) ?_
        -- the round's end
        have fin : ∀ (jump : Option Code) (V3 : World), KeepsFrom w.heap.size Vb V3 →
            (Instr.endRound (w.heap.size + 1) jump).run P V3 = .ok (.bool jump.isNone) (V3.putObj (w.heap.size + 1) (.loop (rec (if jump.isNone then .ready else .done) jump))) ∧ bk { rec .ready none with state := .busy } V3 := fun jump V3 hk => by
          have h3 := bk_keep hbb hk
          have h4 := h3
          rw [hbk] at h4
          have h5 := run_endRound (P := P) jump h4.1
          rw [hrec] at h5 ⊢
          exact ⟨h5, by rw [hrec] at h3; exact h3⟩
        have leave : ∀ (c : Code) (V3 : World), KeepsFrom w.heap.size Vb V3 → Ix c (pre ++ [x]) V3 → ∃ v V4, (Instr.endRound (w.heap.size + 1) (some c)).run P V3 = .ok v V4 ∧
            ((Ending.returned v = .returned (.bool true) ∧ (I (pre ++ [x]) V4 ∧ bk (rec .ready none) V4) ∧ KS T n₀ (w.heap.size + 2) V V4) ∨ (Ending.returned v = .returned (.bool false) ∧ ∃ c, Ix c (pre ++ [x]) V4 ∧ bk (rec .done (some c)) V4)) := fun c V3 hk hx => by
          obtain ⟨hr, hb3⟩ := fin (some c) V3 hk
          have hb4 := hb3
          rw [hbk] at hb4
          exact ⟨_, _, hr, .inr ⟨rfl, c, (hIx c).putObj _ hx (by omega) hb4.1 rfl, bk_put hb3⟩⟩
        rintro e a3 V3 hp
        cases e with
        | normal =>
          obtain ⟨hk, hkp, hi3⟩ := hp
          obtain ⟨hr, hb3⟩ := fin none V3 hk
          have hb4 := hb3
          rw [hbk] at hb4
          exact ⟨_, _, hr, .inl ⟨rfl, ⟨hI.putObj _ hi3 (by omega) hb4.1 rfl, bk_put hb3⟩, (hks.trans hkp).trans (ks_put hb4.1 rfl (by omega) (by omega))⟩⟩
        | ret => exact leave _ _ hp.1 hp.2
        | exit id => exact leave _ _ hp.1 hp.2
        | goto t => exact leave _ _ hp.1 hp.2
        | panic ch => exact hp.elim
        | outgrown => exact hp.elim
      exact yield_any hround
    · rintro e V2 ⟨⟨v, rfl⟩, (⟨xs, hS, hi, hb⟩ | ⟨pre, hSp, c, hi, hb⟩)⟩
      · have hb1 := hb
        rw [hbk] at hb1
        refine ⟨none, _, by have h := run_endLoop (P := P) hb1.1 (by rw [hrec]; simp); rw [hrec] at h; exact h, hdone xs _ hS (hI.putObj _ hi (by omega) hb1.1 rfl) ((World.putObj_heap_other (by omega)).trans hb1.2)⟩
      · have hb1 := hb
        rw [hbk] at hb1
        refine ⟨some c, _, by have h := run_endLoop (P := P) hb1.1 (by rw [hrec]; simp); rw [hrec] at h; exact h, hstop c pre _ hSp ((hIx c).putObj _ hi (by omega) hb1.1 rfl) ((World.putObj_heap_other (by omega)).trans hb1.2)⟩
  have henter : (Instr.enterLoop fn a.tmps ps assign body none).run P w = .ok (w.heap.size + 1, [{ target := .collected w.heap.size, args := #[] }]) V0 := by
    rw [hV0, hrec]
    exact run_enterLoop_outer _ _ _ _ _
  refine ⟨w.heap.size + 1, [{ target := .collected w.heap.size, args := #[] }], V0, { target := .fn (.func gf) lb, args := #[.func (.yield (w.heap.size + 1)) #[] #[]] }, V0, gf, #[.func (.yield (w.heap.size + 1)) #[] #[]] ++ lb, V0, ?_, ?_, ?_, ?_, ?_, ?_⟩
  · exact henter
  · exact range_resolves hg _ _
  · intro f' _; exact trivial
  · exact range_enters eg _ _
  · intro h; exact absurd h (by simp [Fence.wide])
  · exact hrun
set_option maxHeartbeats 4000000 in
/-- All's iterator goes through the keys, all, or as far as one goes, whatever a round does that keeps what lay below n₀, the first two blocks that the iterator lays, and the lists of keys. -/
theorem hm_all1P (Bs n₀ : Nat) (s : Nat) (n : Int) (L : List Ent) (c : Array Value) (w : World) (hn₀ : n₀ ≤ w.heap.size) (hX : w.heap[Bs]? = some (.cells c 36 (0, 0))) (hv : MapAt (fun g => g < n₀) w s n L c) (hL : Rise L) (hN : L.length ≤ 50000) (hT : Tab6 w) :
    IterStateP 106 Tryd.prog 74 #[.pointer (some ⟨Bs, 0, none⟩)] encM n₀ (fun ys => ys = L) (fun pre => pre <+: L) (fun pre => pre <+: L) w := by
  intro l J Jx W hW hA hS hY h0 m
  have hBl := (Array.getElem?_eq_some_iff.1 hX).1
  have HX := Lib.hid ((hW.block _ hBl).trans hX)
  have hnW : n₀ ≤ W.heap.size := Nat.le_trans hn₀ hW.size
  have HENT := Lib.hid ((callsIn_wide (n := m - 1)).2 (hm_entries W s n L c (hv.kp (Kp.low (hW.mono hn₀) (fun g h => h))) hL hN (hT.below hW)))
  have HMS := Lib.hid hv.size
  have HJA := Lib.hid hA
  have HY := Lib.hid (hY (m - 1))
  have HNW := Lib.hid hnW
  have HN := Lib.hid hN
  clear hX hv hN hT hA hS hY hBl hnW hL
  refine callsIn_of_wp Tryd.func74 rfl trivial ?_ rfl
  simp only [Tryd.ntmps74, List.size_toArray, List.length_cons, List.length_nil, Nat.reduceAdd, Nat.reduceSub, Array.replicate_succ, Array.replicate_zero, List.push_toArray, List.append_toArray, List.nil_append, List.cons_append]
  gi_wp2_with (first
    | (refine ld_wide rfl 36 _ rfl Bs rfl 36 _ _ _ HX.out Tryd.underlying36 rfl (by rw [HMS.out]; exact map_size) ?_))
  refine ⟨trivial, fun h => absurd h (by simp [Fence.wide]), ?_⟩
  refine HENT.out.mono ?_
  rintro r w1 ⟨v, qs, rfl, hq, he, hl, hb, hsz⟩
  obtain ⟨a, cp, rfl, hl⟩ := hl
  obtain ⟨N, hNq⟩ : ∃ N, N = qs.length := ⟨_, rfl⟩
  have hNL : N = L.length := by rw [hNq, ← hq, List.length_map]
  rw [← hNq]
  have HJ1 := Lib.hid (HJA.out _ _ _ h0 hb)
  have HB1 := Lib.hid hb
  have HSZ := Lib.hid hsz
  have HLL := Lib.hid hl
  have HE := Lib.hid he
  have HQ := Lib.hid (And.intro hq (And.intro hNq hNL))
  have hN5 : (N : Int) ≤ 50000 := by have := HN.out; omega
  have HBN := Lib.hid (hb.mono HNW.out)
  clear h0 hb hsz hl he hq hNq hNL
  gi_wp2
  gi_loopw [8] (fun i wr => ∃ k : Nat, i = .int .i64 (k : Int) ∧ k ≤ N ∧ Hid (J (L.take k) wr) ∧ Hid (Below n₀ W wr) ∧ Hid (TK 106 w1 wr) ∧ Hid (W.heap.size + 2 ≤ wr.heap.size)) (fun i _ => N - (intOf i).toNat)
  case atStart => exact ⟨0, rfl, Nat.zero_le _, (by simpa using HJ1), HBN, TK.refl _ _, HSZ⟩
  case round =>
    obtain ⟨k, rfl, hk, HJK, HBK, HTK, HSK⟩ := hrel
    by_cases hlt : k < N
    · obtain ⟨hq, hNq, hNL⟩ := HQ.out
      obtain ⟨g, cur, rfl, hg, hcur, hcc⟩ := HLL.out (by omega)
      have hkq : k < qs.length := by omega
      have hkL : k < L.length := by omega
      have hLk : L[k] = qs[k].2 := by
        have e : (qs.map (·.2))[k]? = L[k]? := by rw [hq]
        rw [List.getElem?_map, List.getElem?_eq_getElem hkq, List.getElem?_eq_getElem hkL] at e
        exact (Option.some.inj e).symm
      obtain ⟨⟨hbn, hbW⟩, fr, hbl⟩ := HE.out _ (List.getElem_mem hkq)
      have hbr : wr.heap[qs[k].1]? = some (.cells (entC (hsN s n) qs[k].2) 110 fr) := (HBK.out.block _ hbn).trans ((HB1.out.block _ hbW).symm.trans hbl)
      have hcg : wr.cell? ⟨g, k, none⟩ = some (pv (some qs[k].1)) := cell_in (HTK.out _ _ _ hcur) (hcc k (by omega))
      have HTAKE := Lib.hid (List.take_succ_eq_append_getElem hkL)
      have HYK := Lib.hid (HY.out (L.take k) L[k] wr.drew (HJA.out _ _ _ HJK.out (drawn_below wr)) HSK.out (by rw [← List.take_succ_eq_append_getElem hkL]; exact List.take_prefix _ _))
      rw [hLk] at HYK HTAKE
      obtain ⟨⟨b, e⟩, hbe⟩ : ∃ q, q = qs[k] := ⟨_, rfl⟩
      rw [← hbe] at HYK HTAKE hbr hcg
      have ce0 : wr.drew.cell? ⟨b, 0, none⟩ = some (.string e.1) := cell_in hbr rfl
      have ce2 : wr.drew.cell? ⟨b, 2, none⟩ = some (.int .i64 e.2) := cell_in hbr rfl
      have HCE := Lib.hid (And.intro ce0 ce2)
      have hlt' : (k : Int) < N := by omega
      have HLT := Lib.hid hlt
      unfold pv at hcg
      clear hbe hbr hbl hbn hbW hLk hkq hkL hcur hcc hg hq hNq hNL ce0 ce2
      gi_wp2
      refine wpIn_region_W (S := fun V => V.cell? ⟨b, 0, none⟩ = some (.string e.1) ∧ V.cell? ⟨b, 2, none⟩ = some (.int .i64 e.2)) [9, 10] (by kernel_rfl) HCE.out (fun hHeld => ?_)
      refine wpAnyW_take (i := 0) (oi := ⟨some 12, _, _, _, _, _⟩) (v := ?v0) rfl (by kernel_rfl) (by kernel_rfl) (by kernel_rfl) (by kernel_rfl) (fun _ _ _ h => h) (Or.inl ⟨by rfl, ?h0⟩) (by assumption) ?r0
      case h0 => (intro w hSw; (try dsimp only at hSw); first | (go_simp; done) | (go_simp; with_reducible rfl))
      (try simp only [Act.put, List.setIfInBounds_toArray, List.set_cons_zero, List.set_cons_succ])
      refine wpAnyW_take (i := 1) (oi := ⟨some 13, _, _, _, _, _⟩) (v := ?v1) rfl (by kernel_rfl) (by kernel_rfl) (by kernel_rfl) (by kernel_rfl) (fun _ _ _ h => h) (Or.inl ⟨by rfl, ?h1⟩) (by assumption) ?r1
      case h1 => (intro w hSw; (try dsimp only at hSw); first | (go_simp; done) | (go_simp; with_reducible rfl))
      (try simp only [Act.put, List.setIfInBounds_toArray, List.set_cons_zero, List.set_cons_succ])
      refine wpAnyW_take (i := 2) (oi := ⟨some 14, _, _, _, _, _⟩) (v := ?v2) rfl (by kernel_rfl) (by kernel_rfl) (by kernel_rfl) (by kernel_rfl) (fun _ _ _ h => h) (Or.inl ⟨by rfl, ?h2⟩) (by assumption) ?r2
      case h2 => (intro w hSw; (try dsimp only at hSw); first | (go_simp; done) | (go_simp; with_reducible rfl))
      (try simp only [Act.put, List.setIfInBounds_toArray, List.set_cons_zero, List.set_cons_succ])
      refine wpAnyW_take (i := 3) (oi := ⟨some 15, _, _, _, _, _⟩) (v := ?v3) rfl (by kernel_rfl) (by kernel_rfl) (by kernel_rfl) (by kernel_rfl) (fun _ _ _ h => h) (Or.inl ⟨by rfl, ?h3⟩) (by assumption) ?r3
      case h3 => (intro w hSw; (try dsimp only at hSw); first | (go_simp; done) | (go_simp; with_reducible rfl))
      (try simp only [Act.put, List.setIfInBounds_toArray, List.set_cons_zero, List.set_cons_succ])
      refine wpAnyW_take (i := 4) (oi := ⟨some 16, _, _, _, _, _⟩) (v := ?v4) rfl (by kernel_rfl) (by kernel_rfl) (by kernel_rfl) (by kernel_rfl) (fun _ _ _ h => h) (Or.inl ⟨by rfl, ?h4⟩) (by assumption) ?r4
      case h4 => (intro w hSw; (try dsimp only at hSw); first | (go_simp; done) | (go_simp; with_reducible rfl))
      (try simp only [Act.put, List.setIfInBounds_toArray, List.set_cons_zero, List.set_cons_succ])
      refine wpAnyW_take (i := 5) (oi := ⟨some 17, _, _, _, _, _⟩) (v := ?v5) rfl (by kernel_rfl) (by kernel_rfl) (by kernel_rfl) (by kernel_rfl) (fun _ _ _ h => h) (Or.inl ⟨by rfl, ?h5⟩) (by assumption) ?r5
      case h5 => (intro w hSw; (try dsimp only at hSw); first | (go_simp; done) | (go_simp; with_reducible rfl))
      (try simp only [Act.put, List.setIfInBounds_toArray, List.set_cons_zero, List.set_cons_succ])
      refine wpAnyW_take (i := 6) (oi := ⟨some 18, _, _, _, _, _⟩) (v := ?v6) rfl (by kernel_rfl) (by kernel_rfl) (by kernel_rfl) (by kernel_rfl) (fun _ _ _ h => h) (Or.inl ⟨by rfl, ?h6⟩) (by assumption) ?r6
      case h6 => (intro w hSw; (try dsimp only at hSw); first | (go_simp; done) | (go_simp; with_reducible rfl))
      (try simp only [Act.put, List.setIfInBounds_toArray, List.set_cons_zero, List.set_cons_succ])
      refine wpAnyW_take (i := 7) (oi := ⟨some 19, _, _, _, _, _⟩) (v := ?v7) rfl (by kernel_rfl) (by kernel_rfl) (by kernel_rfl) (by kernel_rfl) (fun _ _ _ h => h) (Or.inl ⟨by rfl, ?h7⟩) (by assumption) ?r7
      case h7 => (intro w hSw; (try dsimp only at hSw); first | (go_simp; done) | (go_simp; with_reducible rfl))
      (try simp only [Act.put, List.setIfInBounds_toArray, List.set_cons_zero, List.set_cons_succ])
      refine wpAnyW_take (i := 8) (oi := ⟨some 20, _, _, _, _, _⟩) (v := ?v8) rfl (by kernel_rfl) (by kernel_rfl) (by kernel_rfl) (by kernel_rfl) (fun _ _ _ h => h) (Or.inl ⟨by rfl, ?h8⟩) (by assumption) ?r8
      case h8 => (intro w hSw; (try dsimp only at hSw); first | (go_simp; done) | (go_simp; with_reducible rfl))
      (try simp only [Act.put, List.setIfInBounds_toArray, List.set_cons_zero, List.set_cons_succ])
      obtain ⟨fn, tmps, assign, body, hy, hR⟩ := HYK.out
      unfold encM at hy
      (try dsimp only at hy)
      refine wpAnyW_last (i := 9) (o := ⟨some 21, _, _, _, _, _⟩) (by kernel_rfl) (by decide) rfl (fun K hK => ?_)
      rw [if_pos (by rfl)]
      go_simp
      refine ⟨fun h => absurd h (by simp [Fence.wide]), ?_⟩
      refine hR.mono ?_
      rintro e' W3 (⟨rfl, hJ3, hk3⟩ | ⟨rfl, hJx3⟩)
      · have HJ3 := Lib.hid hJ3
        have HK3 := Lib.hid hk3
        refine hK.out _ _ ?_
        clear hK K hR hy hJ3 hk3
        (try simp only [Act.put, List.setIfInBounds_toArray, List.set_cons_zero, List.set_cons_succ])
        refine wpAnyW_last (i := 10) (o := ⟨some 22, _, _, _, _, _⟩) (by kernel_rfl) (by decide) rfl (fun K hK => ?_)
        rw [if_pos (by rfl)]
        go_simp
        refine hK.out _ _ ?_
        clear hK K
        (try simp only [Act.put, List.setIfInBounds_toArray, List.set_cons_zero, List.set_cons_succ])
        refine wpAnyW_done (by kernel_rfl) ?_ _
        gi_wp2
        go_roundw
        case rel =>
          obtain ⟨h1, _, _, h4⟩ := HK3.out
          refine ⟨k + 1, by simp, by have := HLT.out; omega, ?_, HBK.out.trans (((drawn_below wr).mono (by have := HNW.out; have := HSK.out; omega)).trans h1), HTK.out.trans (fun i cs fr h => h4 i cs fr h), Nat.le_trans HSK.out h1.size⟩
          rw [HTAKE.out]
          exact HJ3
        case measure => have := HLT.out; simp [intOf]; omega
      · have HJ3 := Lib.hid hJx3
        refine hK.out _ _ ?_
        clear hK K hR hy hJx3
        (try simp only [Act.put, List.setIfInBounds_toArray, List.set_cons_zero, List.set_cons_succ])
        refine wpAnyW_last (i := 10) (o := ⟨some 22, _, _, _, _, _⟩) (by kernel_rfl) (by decide) rfl (fun K hK => ?_)
        rw [if_pos (by rfl)]
        go_simp
        refine hK.out _ _ ?_
        clear hK K
        (try simp only [Act.put, List.setIfInBounds_toArray, List.set_cons_zero, List.set_cons_succ])
        refine wpAnyW_done (by kernel_rfl) ?_ _
        gi_wp2
        refine bodyPost_ret (results_none rfl _ _ _) rfl ?_
        refine ⟨⟨_, rfl⟩, .inr ⟨_, ?_, HJ3.out⟩⟩
        rw [← HTAKE.out]
        exact List.take_prefix _ _
    · obtain rfl : k = N := by omega
      have e : L.take k = L := List.take_of_length_le (by have := HQ.out.2.2; omega)
      rw [e] at HJK
      clear e
      gi_wp2
      go_end0
      exact ⟨⟨_, rfl⟩, .inl ⟨_, rfl, HJK.out⟩⟩
end Go.Proofs.YtnnlfgfgfegjkaaDoor
