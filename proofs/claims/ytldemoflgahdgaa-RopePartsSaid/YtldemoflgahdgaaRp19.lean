/- Package rope: Remove. (written by tools/gen08/rope19.py) -/
import Derived.Test.YtldemoflgahdgaaRp18
import Derived.Test.YtldemoflgahdgaaRegionT
namespace Go.Proofs.Ytldemoflgahdgaa
open Go.RowKit
set_option maxRecDepth 1000000
set_option linter.unusedSimpArgs false

/-- The list without what is at i. -/
def remL (l : List Int) (i : Nat) : List Int := l.take i ++ l.drop (i + 1)
theorem remL_pieces {l : List Int} {i : Nat} : pieceL l 0 i ++ pieceL l (i + 1) l.length = remL l i := by
  unfold pieceL remL
  rw [List.drop_zero, List.take_length]
/-- The variables made so far are empty, the rope's and the result's are as they were. -/
structure St19 (n0 : Nat) (c : Array Value) (W : World) (xs : List Nat) (w : World) : Prop where
  box : w.heap[n0]? = some (.cells c 35 (0, 0))
  res : w.heap[n0 + 1]? = some (.cells #[.int .i64 0, .int .i64 0, .slice none 0 0, .slice none 0 0] 35 (0, 0))
  bel : Below n0 W w
  siz : n0 + 2 ≤ w.heap.size
  xs : ∀ X ∈ xs, n0 + 2 ≤ X ∧ X < w.heap.size ∧ w.heap[X]? = some (.cells #[.int .i64 0, .int .i64 0, .slice none 0 0, .slice none 0 0] 33 (0, 0))
/-- What a call's rope lies in: none of the variables. -/
def Part (S : Nat → Prop) (n0 : Nat) (xs : List Nat) (w : World) (c : Array Value) (l : List Int) : Prop := ∃ Q : Nat → Prop, RootR Q w c l ∧ ∀ g, Q g → ((S g ∧ g < n0) ∨ n0 + 2 ≤ g) ∧ g ∉ xs
section
variable {n0 : Nat} {c cl : Array Value} {W w w' : World} {xs : List Nat} {S : Nat → Prop} {l : List Int}
theorem St19.later (h : St19 n0 c W xs w) (hb : Below w.heap.size w w') : St19 n0 c W xs w' :=
  ⟨(hb.block _ (by have := h.siz; omega)).trans h.box, (hb.block _ (by have := h.siz; omega)).trans h.res, h.bel.trans (hb.mono (by have := h.siz; omega)), Nat.le_trans h.siz hb.size,
    fun X hX => ⟨(h.xs X hX).1, Nat.lt_of_lt_of_le (h.xs X hX).2.1 hb.size, (hb.block _ (h.xs X hX).2.1).trans (h.xs X hX).2.2⟩⟩
theorem St19.alloc (h : St19 n0 c W xs w) : St19 n0 c W (w.heap.size :: xs) (w.alloc (.cells #[.int .i64 0, .int .i64 0, .slice none 0 0, .slice none 0 0] 33)) := by
  have h1 := h.later (Below.newly' w (.cells #[.int .i64 0, .int .i64 0, .slice none 0 0, .slice none 0 0] 33))
  refine ⟨h1.box, h1.res, h1.bel, h1.siz, fun X hX => ?_⟩
  rcases List.mem_cons.1 hX with rfl | hX
  · exact ⟨h.siz, by simp, heap_alloc_last _ _⟩
  · exact h1.xs X hX
theorem Part.later (h : Part S n0 xs w cl l) (hb : Below w.heap.size w w') : Part S n0 xs w' cl l := by
  obtain ⟨Q, h1, h2⟩ := h
  exact ⟨Q, h1.later hb, h2⟩
theorem Part.alloc (h : Part S n0 xs w cl l) (o : Obj) : Part S n0 (w.heap.size :: xs) (w.alloc o) cl l := by
  obtain ⟨Q, h1, h2⟩ := h
  refine ⟨_, h1.old.later (Below.newly' w o), fun g hg => ⟨(h2 g hg.1).1, fun hm => ?_⟩⟩
  rcases List.mem_cons.1 hm with rfl | hm
  · exact absurd hg.2 (Nat.lt_irrefl _)
  · exact (h2 g hg.1).2 hm
theorem Part.call (h : St19 n0 c W xs w) (hr : RootR (fun g => (S g ∧ g < n0) ∨ w.heap.size ≤ g) w' cl l) : Part S n0 xs w' cl l := by
  refine ⟨_, hr, fun g hg => ⟨hg.imp_right fun h1 => Nat.le_trans h.siz h1, fun hm => ?_⟩⟩
  have h1 := h.xs g hm
  rcases hg with hg | hg <;> omega
theorem Part.store (h : Part S n0 xs w cl l) {X : Nat} (k : Only X w w') (hX : X ∈ xs) : Part S n0 xs w' cl l := by
  obtain ⟨Q, h1, h2⟩ := h
  exact ⟨Q, h1.kept k.by_ (fun Y e hY => by cases e; exact (h2 _ hY).2 hX), h2⟩
theorem Part.root (h : Part S n0 xs w cl l) : RootR (fun g => (S g ∧ g < n0) ∨ n0 + 2 ≤ g) w cl l := by
  obtain ⟨Q, h1, h2⟩ := h
  exact h1.weak fun g hg => (h2 g hg).1
end
set_option maxHeartbeats 40000000 in
theorem rp_Remove {S : Nat → Prop} {c : Array Value} {l : List Int} (W : World) (h : RootR S W c l) (i : Nat) (hi : i < l.length) (hN : l.length ≤ 50000) :
    Calls Try.prog 25 #[.agg c, .int .i64 (i : Int)] W fun e W' => ∃ c', e = .returned (.tuple #[.agg c', .int .i64 0]) ∧ RootR (fun g => S g ∨ W.heap.size ≤ g) W' c' (remL l i) ∧ Below W.heap.size W W' := by
  obtain ⟨w2, hw2⟩ : ∃ w2, (W.alloc (.cells c 35)).alloc (.cells #[.int .i64 0, .int .i64 0, .slice none 0 0, .slice none 0 0] 35) = w2 := ⟨_, rfl⟩
  obtain ⟨hb2, hx2, hy2, hs2⟩ := two_new hw2
  have HT2 : Hid (St19 W.heap.size c W [] w2) := ⟨hx2, hy2, hb2, Nat.le_of_eq hs2.symm, fun X hX => by cases hX⟩
  have HS := Lib.hid h.size
  have HH := Lib.hid (rp_has w2 (h.later hb2) (i : Int))
  rw [show decide (0 ≤ (i : Int) ∧ (i : Int) < l.length) = true by simp; omega] at HH
  have HLEN := Lib.hid (fun V (hV : Below W.heap.size W V) => rp_Len V (h.later hV))
  have HC1 : Hid (∀ V, Below W.heap.size W V → Calls Try.prog 35 #[.agg c, .int .i64 0, .int .i64 (i : Int)] V fun e W' => ∃ c', e = .returned (.agg c') ∧ RootR (fun g => (S g ∧ g < W.heap.size) ∨ V.heap.size ≤ g) W' c' (pieceL l 0 i) ∧ Below V.heap.size V W') :=
    fun V hV => sli_root V (h.old.later hV) 0 i (Nat.zero_le _) (by omega) hN
  have HC2 := Lib.hid (fun V (hV : Below W.heap.size W V) => sli_root V (h.old.later hV) (i + 1) l.length (by omega) (Nat.le_refl _) hN)
  have HCAT : Hid ((pieceL l 0 i).length + (pieceL l (i + 1) l.length).length ≤ 100000) := by show _ ≤ _; rw [piece_len (by omega), piece_len (Nat.le_refl _)]; omega
  rw [← remL_pieces]
  obtain ⟨i1, hi1⟩ : ∃ i1, i1 = i + 1 := ⟨_, rfl⟩
  obtain ⟨n, hn⟩ : ∃ n, n = l.length := ⟨_, rfl⟩
  rw [← hi1] at HC2 HCAT ⊢
  rw [← hn] at HC2 HCAT HLEN ⊢
  obtain ⟨l1, hl1⟩ : ∃ l1, l1 = pieceL l 0 i := ⟨_, rfl⟩
  obtain ⟨l2, hl2⟩ : ∃ l2, l2 = pieceL l i1 n := ⟨_, rfl⟩
  rw [← hl1] at HC1 HCAT ⊢
  rw [← hl2] at HC2 HCAT ⊢
  have hkw : IntKind.i64.wrap ((i : Int) + 1) = (i1 : Int) := by
    rw [IntKind.wrap_i64]
    omega
  clear hb2 hx2 hy2 hs2 h hi hN hi1 hn hl1 hl2
  go_enter Try.func25, Try.ntmps25
  go_upto_region 1 with fail
  clear hw2
  go_upto_region 3 with (first
    | (refine ld_if rfl 35 _ rfl W.heap.size rfl 35 _ _ _ HT2.out.box Try.underlying35 rfl (by rw [HS.out]; exact rope_size) ?_)
    | (go_at_call 28; refine HH.out.mono ?_; rintro e w3 ⟨rfl, hb3⟩; have HT3 := Lib.hid (HT2.out.later hb3); clear hb3))
  obtain ⟨w4, hw4⟩ : ∃ w4, w4 = w3.drew := ⟨_, rfl⟩
  have HT4 : Hid (St19 W.heap.size c W [] w4) := by show St19 _ _ _ _ _; rw [hw4]; exact HT3.out.later (drawn_below w3)
  clear HT2 HT3 HH
  refine wp_region_T (S := fun V => V.heap[W.heap.size]? = some (.cells c 35 (0, 0))) [13, 14] (by kernel_rfl) (by rw [← hw4]; exact HT4.out.box) (fun hHeld => ?_)
  rw [← hw4] at hHeld ⊢
  clear hw4
  refine wpAnyT_take (i := 0) (oi := ⟨some 13, _, _, _, _, _⟩) (v := ?vg1_0) rfl (by kernel_rfl) (by kernel_rfl) (by kernel_rfl) (by kernel_rfl) (fun _ _ _ h => h) (Or.inl ⟨by rfl, ?hg1_0⟩) (by assumption) ?rg1_0
  case hg1_0 => (intro w hSw; (try dsimp only at hSw); first | (go_simp; done) | (go_simp; with_reducible rfl))
  (try simp only [Act.put, List.setIfInBounds_toArray, List.set_cons_zero, List.set_cons_succ])
  refine wpAnyT_take (i := 1) (oi := ⟨some 14, _, _, _, _, _⟩) (v := _) rfl (by kernel_rfl) (by kernel_rfl) (by kernel_rfl) (by kernel_rfl) (fun _ _ _ h => h) (yieldsIf_load_row (by rfl) 33 _ rfl W.heap.size rfl c 35 (0, 0) _ (fun w hw => hw) Try.underlying33 rfl (by rw [HS.out]; exact rnode_size)) (by assumption) ?_
  (try simp only [Act.put, List.setIfInBounds_toArray, List.set_cons_zero, List.set_cons_succ])
  refine wpAnyT_take (i := 2) (oi := ⟨some 15, _, _, _, _, _⟩) (v := ?vg1_2) rfl (by kernel_rfl) (by kernel_rfl) (by kernel_rfl) (by kernel_rfl) (fun _ _ _ h => h) (Or.inl ⟨by rfl, ?hg1_2⟩) (by assumption) ?rg1_2
  case hg1_2 => (intro w hSw; (try dsimp only at hSw); first | (go_simp; done) | (go_simp; with_reducible rfl))
  (try simp only [Act.put, List.setIfInBounds_toArray, List.set_cons_zero, List.set_cons_succ])
  refine wpAnyT_take (i := 4) (oi := ⟨some 17, _, _, _, _, _⟩) (v := ?vg1_4) rfl (by kernel_rfl) (by kernel_rfl) (by kernel_rfl) (by kernel_rfl) (fun _ _ _ h => h) (Or.inl ⟨by rfl, ?hg1_4⟩) (by assumption) ?rg1_4
  case hg1_4 => (intro w hSw; (try dsimp only at hSw); first | (go_simp; done) | (go_simp; with_reducible rfl))
  (try simp only [Act.put, List.setIfInBounds_toArray, List.set_cons_zero, List.set_cons_succ])
  refine wpAnyT_take (i := 5) (oi := ⟨some 18, _, _, _, _, _⟩) (v := _) rfl (by kernel_rfl) (by kernel_rfl) (by kernel_rfl) (by kernel_rfl) (fun _ _ _ h => h) (yieldsIf_load_row (by rfl) 33 _ rfl W.heap.size rfl c 35 (0, 0) _ (fun w hw => hw) Try.underlying33 rfl (by rw [HS.out]; exact rnode_size)) (by assumption) ?_
  (try simp only [Act.put, List.setIfInBounds_toArray, List.set_cons_zero, List.set_cons_succ])
  refine wpAnyT_take (i := 6) (oi := ⟨some 19, _, _, _, _, _⟩) (v := ?vg1_6) rfl (by kernel_rfl) (by kernel_rfl) (by kernel_rfl) (by kernel_rfl) (fun _ _ _ h => h) (Or.inl ⟨by rfl, ?hg1_6⟩) (by assumption) ?rg1_6
  case hg1_6 => (intro w hSw; (try dsimp only at hSw); first | (go_simp; done) | (go_simp; with_reducible rfl))
  (try simp only [Act.put, List.setIfInBounds_toArray, List.set_cons_zero, List.set_cons_succ])
  refine wpAnyT_take (i := 7) (oi := ⟨some 20, _, _, _, _, _⟩) (v := ?vg1_7) rfl (by kernel_rfl) (by kernel_rfl) (by kernel_rfl) (by kernel_rfl) (fun _ _ _ h => h) (Or.inl ⟨by rfl, ?hg1_7⟩) (by assumption) ?rg1_7
  case hg1_7 => (intro w hSw; (try dsimp only at hSw); first | (go_simp; done) | (go_simp; with_reducible rfl))
  (try simp only [Act.put, List.setIfInBounds_toArray, List.set_cons_zero, List.set_cons_succ])
  refine wpAnyT_take (i := 8) (oi := ⟨some 21, _, _, _, _, _⟩) (v := _) rfl (by kernel_rfl) (by kernel_rfl) (by kernel_rfl) (by kernel_rfl) (fun _ _ _ h => h) (yieldsIf_load_row (by rfl) 35 _ rfl W.heap.size rfl c 35 (0, 0) _ (fun w hw => hw) Try.underlying35 rfl (by rw [HS.out]; exact rope_size)) (by assumption) ?_
  (try simp only [Act.put, List.setIfInBounds_toArray, List.set_cons_zero, List.set_cons_succ])
  refine wpAnyT_ready (rs := [3, 11, 12]) (by kernel_rfl) (by decide) (AllT.cons (o := ⟨some 16, _, _, _, _, _⟩) rfl (fun K hK => ?_) (AllT.cons (o := ⟨some 6, _, _, _, _, _⟩) rfl (fun K hK => ?_) (AllT.cons (o := ⟨some 7, _, _, _, _, _⟩) rfl (fun K hK => ?_) AllT.nil)))
  · go_simp
    go_at_call 35
    refine (HC1.out w4 HT4.out.bel).mono ?_
    rintro e w5 ⟨cl, rfl, hr5, hb5⟩
    have HT5 := Lib.hid (HT4.out.later hb5)
    have HL5 : Hid (Part S W.heap.size [] w5 cl l1) := Part.call HT4.out hr5
    clear hr5 hb5
    (try dsimp only)
    refine hK.out _ _ (HT5.out.box) (fun hHeld => ?_)
    clear hK K
    (try simp only [Act.put, List.setIfInBounds_toArray, List.set_cons_zero, List.set_cons_succ])
    refine wpAnyT_ready (rs := [9, 11, 12]) (by kernel_rfl) (by decide) (AllT.cons (o := ⟨some 22, _, _, _, _, _⟩) rfl (fun K hK => ?_) (AllT.cons (o := ⟨some 6, _, _, _, _, _⟩) rfl (fun K hK => ?_) (AllT.cons (o := ⟨some 7, _, _, _, _, _⟩) rfl (fun K hK => ?_) AllT.nil)))
    · go_simp
      go_at_call 21
      refine (HLEN.out w5 HT5.out.bel).mono ?_
      rintro e w6 ⟨rfl, hw6⟩
      have hb6 : Below w5.heap.size w5 w6 := by rw [hw6]; exact Below.newly' _ _
      have HT6 := Lib.hid (HT5.out.later hb6)
      have HL6 := Lib.hid (HL5.out.later hb6)
      clear hw6 hb6
      (try dsimp only)
      refine hK.out _ _ (HT6.out.box) (fun hHeld => ?_)
      clear hK K
      (try simp only [Act.put, List.setIfInBounds_toArray, List.set_cons_zero, List.set_cons_succ])
      refine wpAnyT_ready (rs := [10, 11, 12]) (by kernel_rfl) (by decide) (AllT.cons (o := ⟨some 23, _, _, _, _, _⟩) rfl (fun K hK => ?_) (AllT.cons (o := ⟨some 6, _, _, _, _, _⟩) rfl (fun K hK => ?_) (AllT.cons (o := ⟨some 7, _, _, _, _, _⟩) rfl (fun K hK => ?_) AllT.nil)))
      · go_simp
        go_at_call 35
        refine (HC2.out w6 HT6.out.bel).mono ?_
        rintro e w7 ⟨cr, rfl, hr7, hb7⟩
        have HT7 := Lib.hid (HT6.out.later hb7)
        have HL7 := Lib.hid (HL6.out.later hb7)
        have HR7 : Hid (Part S W.heap.size [] w7 cr l2) := Part.call HT6.out hr7
        clear hr7 hb7
        (try dsimp only)
        refine hK.out _ _ (HT7.out.box) (fun hHeld => ?_)
        clear hK K
        (try simp only [Act.put, List.setIfInBounds_toArray, List.set_cons_zero, List.set_cons_succ])
        refine wpAnyT_ready (rs := [11, 12]) (by kernel_rfl) (by decide) (AllT.cons (o := ⟨some 6, _, _, _, _, _⟩) rfl (fun K hK => ?_) (AllT.cons (o := ⟨some 7, _, _, _, _, _⟩) rfl (fun K hK => ?_) AllT.nil))
        · go_simp
          obtain ⟨XA, hXA⟩ : ∃ X, X = w7.heap.size := ⟨_, rfl⟩
          obtain ⟨w8, hw8⟩ : ∃ w, w = w7.alloc (.cells #[.int .i64 0, .int .i64 0, .slice none 0 0, .slice none 0 0] 33) := ⟨_, rfl⟩
          have HT8 : Hid (St19 W.heap.size c W (XA :: []) w8) := by show St19 _ _ _ _ _; rw [hw8, hXA]; exact HT7.out.alloc
          have HL8 : Hid (Part S W.heap.size (XA :: []) w8 cl l1) := by show Part _ _ _ _ _ _; rw [hw8, hXA]; exact HL7.out.alloc _
          have HR8 : Hid (Part S W.heap.size (XA :: []) w8 cr l2) := by show Part _ _ _ _ _ _; rw [hw8, hXA]; exact HR7.out.alloc _
          rw [← hXA, ← hw8]
          clear hw8 hXA
          (try dsimp only)
          refine hK.out _ _ (HT8.out.box) (fun hHeld => ?_)
          clear hK K
          (try simp only [Act.put, List.setIfInBounds_toArray, List.set_cons_zero, List.set_cons_succ])
          refine wpAnyT_one (i := 12) (o := ⟨some 7, _, _, _, _, _⟩) (by kernel_rfl) rfl (fun K hK => ?_)
          go_simp
          obtain ⟨XB, hXB⟩ : ∃ X, X = w8.heap.size := ⟨_, rfl⟩
          obtain ⟨w9, hw9⟩ : ∃ w, w = w8.alloc (.cells #[.int .i64 0, .int .i64 0, .slice none 0 0, .slice none 0 0] 33) := ⟨_, rfl⟩
          have HT9 : Hid (St19 W.heap.size c W (XB :: [XA]) w9) := by show St19 _ _ _ _ _; rw [hw9, hXB]; exact HT8.out.alloc
          have HL9 : Hid (Part S W.heap.size (XB :: [XA]) w9 cl l1) := by show Part _ _ _ _ _ _; rw [hw9, hXB]; exact HL8.out.alloc _
          have HR9 : Hid (Part S W.heap.size (XB :: [XA]) w9 cr l2) := by show Part _ _ _ _ _ _; rw [hw9, hXB]; exact HR8.out.alloc _
          have HNE : Hid (XA ≠ XB) := by show XA ≠ XB; have := (HT8.out.xs XA (by simp)).2.1; omega
          rw [← hXB, ← hw9]
          clear hw9 hXB
          (try dsimp only)
          refine hK.out _ _ (HT9.out.box) (fun hHeld => ?_)
          clear hK K
          (try simp only [Act.put, List.setIfInBounds_toArray, List.set_cons_zero, List.set_cons_succ])
          refine wpAnyT_last (i := 13) (o := ⟨none, _, _, _, _, _⟩) (by kernel_rfl) (by decide) rfl (fun K hK => ?_)
          refine st_agg_wp 33 _ _ rfl XA cl rfl rfl 33 _ (HT9.out.xs XA (by simp)).2.2 (by rw [HL9.out.root.size]; exact rnode_size) (by rw [HL9.out.root.size]; rfl) HL9.out.root.one ?_
          intro wa ha ka
          refine hK.out _ _ ?_
          clear hK K
          (try simp only [Act.put, List.setIfInBounds_toArray, List.set_cons_zero, List.set_cons_succ])
          refine wpAnyT_last (i := 14) (o := ⟨none, _, _, _, _, _⟩) (by kernel_rfl) (by decide) rfl (fun K hK => ?_)
          refine st_agg_wp 33 _ _ rfl XB cr rfl rfl 33 _ (ka.other (HT9.out.xs XB (by simp)).2.2 (fun e => HNE.out e.symm)) (by rw [HR9.out.root.size]; exact rnode_size) (by rw [HR9.out.root.size]; rfl) HR9.out.root.one ?_
          intro wb hb kb
          refine hK.out _ _ ?_
          clear hK K
          (try simp only [Act.put, List.setIfInBounds_toArray, List.set_cons_zero, List.set_cons_succ])
          refine wpAnyT_done (by kernel_rfl) ?_ _
          have HXA : Hid (wb.heap[XA]? = some (.cells cl 33 (0, 0))) := kb.other ha HNE.out
          have HXB : Hid (wb.heap[XB]? = some (.cells cr 33 (0, 0))) := hb
          have hxa := (HT9.out.xs XA (by simp)).1
          have hxb := (HT9.out.xs XB (by simp)).1
          have HYB : Hid (wb.heap[W.heap.size + 1]? = some (.cells #[.int .i64 0, .int .i64 0, .slice none 0 0, .slice none 0 0] 35 (0, 0))) := kb.other (ka.other HT9.out.res (by omega)) (by omega)
          have HBB : Hid (Below W.heap.size W wb) := (HT9.out.bel.trans (ka.below (by omega))).trans (kb.below (by omega))
          have HZB : Hid (W.heap.size + 2 ≤ wb.heap.size) := by show _ ≤ _; have := HT9.out.siz; rw [kb.size, ka.size]; exact this
          have HLr := Lib.hid ((HL9.out.store ka (by simp)).store kb (by simp)).root
          have HRr := Lib.hid ((HR9.out.store ka (by simp)).store kb (by simp)).root
          have HCL := Lib.hid HLr.out.size
          have HCR := Lib.hid HRr.out.size
          clear ha hb ka kb hxa hxb
          go_wp2_with (first
            | (refine ld_if rfl 33 _ rfl XA rfl 33 _ _ _ HXA.out Try.underlying33 rfl (by rw [HCL.out]; exact rnode_size) ?_)
            | (refine ld_if rfl 33 _ rfl XB rfl 33 _ _ _ HXB.out Try.underlying33 rfl (by rw [HCR.out]; exact rnode_size) ?_)
            | (go_at_call 37
               refine (rp_concat wb HLr.out HRr.out HCAT.out).mono ?_
               rintro e wc ⟨cc, rfl, hrc, hbc⟩
               obtain ⟨y0, y1, q1, n1, c1, q2, n2, c2, rfl⟩ := hrc.four
               have HRC := Lib.hid hrc
               have HYC := Lib.hid ((hbc.block (W.heap.size + 1) (by have := HZB.out; omega)).trans HYB.out)
               have HBC := Lib.hid (HBB.out.trans (hbc.mono (by have := HZB.out; omega)))
               clear hrc hbc)
            | (refine st_agg rfl 35 _ _ rfl (W.heap.size + 1) _ rfl rfl 35 _ HYC.out rope_size rfl (one4 rfl rfl rfl rfl) ?_; intro wd hd kd))
          refine bodyPost_ret (results_cell_row1 rfl _ _ (W.heap.size + 1) 35 _ (0, 0) _ rfl hd Try.underlying35 rfl rope_size) rfl ⟨_, rfl, ?_, HBC.out.trans (kd.below (by omega))⟩
          have hzb := HZB.out
          refine (HRC.out.kept kd.by_ (fun X e => by cases e; rintro ((⟨_, h⟩ | h) | h) <;> omega)).weak fun g hg => ?_
          rcases hg with (hg | hg) | hg
          · exact .inl hg.1
          · exact .inr (by omega)
          · exact .inr (by omega)
        · go_simp
          obtain ⟨XB, hXB⟩ : ∃ X, X = w7.heap.size := ⟨_, rfl⟩
          obtain ⟨w8, hw8⟩ : ∃ w, w = w7.alloc (.cells #[.int .i64 0, .int .i64 0, .slice none 0 0, .slice none 0 0] 33) := ⟨_, rfl⟩
          have HT8 : Hid (St19 W.heap.size c W (XB :: []) w8) := by show St19 _ _ _ _ _; rw [hw8, hXB]; exact HT7.out.alloc
          have HL8 : Hid (Part S W.heap.size (XB :: []) w8 cl l1) := by show Part _ _ _ _ _ _; rw [hw8, hXB]; exact HL7.out.alloc _
          have HR8 : Hid (Part S W.heap.size (XB :: []) w8 cr l2) := by show Part _ _ _ _ _ _; rw [hw8, hXB]; exact HR7.out.alloc _
          rw [← hXB, ← hw8]
          clear hw8 hXB
          (try dsimp only)
          refine hK.out _ _ (HT8.out.box) (fun hHeld => ?_)
          clear hK K
          (try simp only [Act.put, List.setIfInBounds_toArray, List.set_cons_zero, List.set_cons_succ])
          refine wpAnyT_one (i := 11) (o := ⟨some 6, _, _, _, _, _⟩) (by kernel_rfl) rfl (fun K hK => ?_)
          go_simp
          obtain ⟨XA, hXA⟩ : ∃ X, X = w8.heap.size := ⟨_, rfl⟩
          obtain ⟨w9, hw9⟩ : ∃ w, w = w8.alloc (.cells #[.int .i64 0, .int .i64 0, .slice none 0 0, .slice none 0 0] 33) := ⟨_, rfl⟩
          have HT9 : Hid (St19 W.heap.size c W (XA :: [XB]) w9) := by show St19 _ _ _ _ _; rw [hw9, hXA]; exact HT8.out.alloc
          have HL9 : Hid (Part S W.heap.size (XA :: [XB]) w9 cl l1) := by show Part _ _ _ _ _ _; rw [hw9, hXA]; exact HL8.out.alloc _
          have HR9 : Hid (Part S W.heap.size (XA :: [XB]) w9 cr l2) := by show Part _ _ _ _ _ _; rw [hw9, hXA]; exact HR8.out.alloc _
          have HNE : Hid (XA ≠ XB) := by show XA ≠ XB; have := (HT8.out.xs XB (by simp)).2.1; omega
          rw [← hXA, ← hw9]
          clear hw9 hXA
          (try dsimp only)
          refine hK.out _ _ (HT9.out.box) (fun hHeld => ?_)
          clear hK K
          (try simp only [Act.put, List.setIfInBounds_toArray, List.set_cons_zero, List.set_cons_succ])
          refine wpAnyT_last (i := 13) (o := ⟨none, _, _, _, _, _⟩) (by kernel_rfl) (by decide) rfl (fun K hK => ?_)
          refine st_agg_wp 33 _ _ rfl XA cl rfl rfl 33 _ (HT9.out.xs XA (by simp)).2.2 (by rw [HL9.out.root.size]; exact rnode_size) (by rw [HL9.out.root.size]; rfl) HL9.out.root.one ?_
          intro wa ha ka
          refine hK.out _ _ ?_
          clear hK K
          (try simp only [Act.put, List.setIfInBounds_toArray, List.set_cons_zero, List.set_cons_succ])
          refine wpAnyT_last (i := 14) (o := ⟨none, _, _, _, _, _⟩) (by kernel_rfl) (by decide) rfl (fun K hK => ?_)
          refine st_agg_wp 33 _ _ rfl XB cr rfl rfl 33 _ (ka.other (HT9.out.xs XB (by simp)).2.2 (fun e => HNE.out e.symm)) (by rw [HR9.out.root.size]; exact rnode_size) (by rw [HR9.out.root.size]; rfl) HR9.out.root.one ?_
          intro wb hb kb
          refine hK.out _ _ ?_
          clear hK K
          (try simp only [Act.put, List.setIfInBounds_toArray, List.set_cons_zero, List.set_cons_succ])
          refine wpAnyT_done (by kernel_rfl) ?_ _
          have HXA : Hid (wb.heap[XA]? = some (.cells cl 33 (0, 0))) := kb.other ha HNE.out
          have HXB : Hid (wb.heap[XB]? = some (.cells cr 33 (0, 0))) := hb
          have hxa := (HT9.out.xs XA (by simp)).1
          have hxb := (HT9.out.xs XB (by simp)).1
          have HYB : Hid (wb.heap[W.heap.size + 1]? = some (.cells #[.int .i64 0, .int .i64 0, .slice none 0 0, .slice none 0 0] 35 (0, 0))) := kb.other (ka.other HT9.out.res (by omega)) (by omega)
          have HBB : Hid (Below W.heap.size W wb) := (HT9.out.bel.trans (ka.below (by omega))).trans (kb.below (by omega))
          have HZB : Hid (W.heap.size + 2 ≤ wb.heap.size) := by show _ ≤ _; have := HT9.out.siz; rw [kb.size, ka.size]; exact this
          have HLr := Lib.hid ((HL9.out.store ka (by simp)).store kb (by simp)).root
          have HRr := Lib.hid ((HR9.out.store ka (by simp)).store kb (by simp)).root
          have HCL := Lib.hid HLr.out.size
          have HCR := Lib.hid HRr.out.size
          clear ha hb ka kb hxa hxb
          go_wp2_with (first
            | (refine ld_if rfl 33 _ rfl XA rfl 33 _ _ _ HXA.out Try.underlying33 rfl (by rw [HCL.out]; exact rnode_size) ?_)
            | (refine ld_if rfl 33 _ rfl XB rfl 33 _ _ _ HXB.out Try.underlying33 rfl (by rw [HCR.out]; exact rnode_size) ?_)
            | (go_at_call 37
               refine (rp_concat wb HLr.out HRr.out HCAT.out).mono ?_
               rintro e wc ⟨cc, rfl, hrc, hbc⟩
               obtain ⟨y0, y1, q1, n1, c1, q2, n2, c2, rfl⟩ := hrc.four
               have HRC := Lib.hid hrc
               have HYC := Lib.hid ((hbc.block (W.heap.size + 1) (by have := HZB.out; omega)).trans HYB.out)
               have HBC := Lib.hid (HBB.out.trans (hbc.mono (by have := HZB.out; omega)))
               clear hrc hbc)
            | (refine st_agg rfl 35 _ _ rfl (W.heap.size + 1) _ rfl rfl 35 _ HYC.out rope_size rfl (one4 rfl rfl rfl rfl) ?_; intro wd hd kd))
          refine bodyPost_ret (results_cell_row1 rfl _ _ (W.heap.size + 1) 35 _ (0, 0) _ rfl hd Try.underlying35 rfl rope_size) rfl ⟨_, rfl, ?_, HBC.out.trans (kd.below (by omega))⟩
          have hzb := HZB.out
          refine (HRC.out.kept kd.by_ (fun X e => by cases e; rintro ((⟨_, h⟩ | h) | h) <;> omega)).weak fun g hg => ?_
          rcases hg with (hg | hg) | hg
          · exact .inl hg.1
          · exact .inr (by omega)
          · exact .inr (by omega)
      · go_simp
        obtain ⟨XA, hXA⟩ : ∃ X, X = w6.heap.size := ⟨_, rfl⟩
        obtain ⟨w7, hw7⟩ : ∃ w, w = w6.alloc (.cells #[.int .i64 0, .int .i64 0, .slice none 0 0, .slice none 0 0] 33) := ⟨_, rfl⟩
        have HT7 : Hid (St19 W.heap.size c W (XA :: []) w7) := by show St19 _ _ _ _ _; rw [hw7, hXA]; exact HT6.out.alloc
        have HL7 : Hid (Part S W.heap.size (XA :: []) w7 cl l1) := by show Part _ _ _ _ _ _; rw [hw7, hXA]; exact HL6.out.alloc _
        rw [← hXA, ← hw7]
        clear hw7 hXA
        (try dsimp only)
        refine hK.out _ _ (HT7.out.box) (fun hHeld => ?_)
        clear hK K
        (try simp only [Act.put, List.setIfInBounds_toArray, List.set_cons_zero, List.set_cons_succ])
        refine wpAnyT_ready (rs := [10, 12]) (by kernel_rfl) (by decide) (AllT.cons (o := ⟨some 23, _, _, _, _, _⟩) rfl (fun K hK => ?_) (AllT.cons (o := ⟨some 7, _, _, _, _, _⟩) rfl (fun K hK => ?_) AllT.nil))
        · go_simp
          go_at_call 35
          refine (HC2.out w7 HT7.out.bel).mono ?_
          rintro e w8 ⟨cr, rfl, hr8, hb8⟩
          have HT8 := Lib.hid (HT7.out.later hb8)
          have HL8 := Lib.hid (HL7.out.later hb8)
          have HR8 : Hid (Part S W.heap.size [XA] w8 cr l2) := Part.call HT7.out hr8
          clear hr8 hb8
          (try dsimp only)
          refine hK.out _ _ (HT8.out.box) (fun hHeld => ?_)
          clear hK K
          (try simp only [Act.put, List.setIfInBounds_toArray, List.set_cons_zero, List.set_cons_succ])
          refine wpAnyT_one (i := 12) (o := ⟨some 7, _, _, _, _, _⟩) (by kernel_rfl) rfl (fun K hK => ?_)
          go_simp
          obtain ⟨XB, hXB⟩ : ∃ X, X = w8.heap.size := ⟨_, rfl⟩
          obtain ⟨w9, hw9⟩ : ∃ w, w = w8.alloc (.cells #[.int .i64 0, .int .i64 0, .slice none 0 0, .slice none 0 0] 33) := ⟨_, rfl⟩
          have HT9 : Hid (St19 W.heap.size c W (XB :: [XA]) w9) := by show St19 _ _ _ _ _; rw [hw9, hXB]; exact HT8.out.alloc
          have HL9 : Hid (Part S W.heap.size (XB :: [XA]) w9 cl l1) := by show Part _ _ _ _ _ _; rw [hw9, hXB]; exact HL8.out.alloc _
          have HR9 : Hid (Part S W.heap.size (XB :: [XA]) w9 cr l2) := by show Part _ _ _ _ _ _; rw [hw9, hXB]; exact HR8.out.alloc _
          have HNE : Hid (XA ≠ XB) := by show XA ≠ XB; have := (HT8.out.xs XA (by simp)).2.1; omega
          rw [← hXB, ← hw9]
          clear hw9 hXB
          (try dsimp only)
          refine hK.out _ _ (HT9.out.box) (fun hHeld => ?_)
          clear hK K
          (try simp only [Act.put, List.setIfInBounds_toArray, List.set_cons_zero, List.set_cons_succ])
          refine wpAnyT_last (i := 13) (o := ⟨none, _, _, _, _, _⟩) (by kernel_rfl) (by decide) rfl (fun K hK => ?_)
          refine st_agg_wp 33 _ _ rfl XA cl rfl rfl 33 _ (HT9.out.xs XA (by simp)).2.2 (by rw [HL9.out.root.size]; exact rnode_size) (by rw [HL9.out.root.size]; rfl) HL9.out.root.one ?_
          intro wa ha ka
          refine hK.out _ _ ?_
          clear hK K
          (try simp only [Act.put, List.setIfInBounds_toArray, List.set_cons_zero, List.set_cons_succ])
          refine wpAnyT_last (i := 14) (o := ⟨none, _, _, _, _, _⟩) (by kernel_rfl) (by decide) rfl (fun K hK => ?_)
          refine st_agg_wp 33 _ _ rfl XB cr rfl rfl 33 _ (ka.other (HT9.out.xs XB (by simp)).2.2 (fun e => HNE.out e.symm)) (by rw [HR9.out.root.size]; exact rnode_size) (by rw [HR9.out.root.size]; rfl) HR9.out.root.one ?_
          intro wb hb kb
          refine hK.out _ _ ?_
          clear hK K
          (try simp only [Act.put, List.setIfInBounds_toArray, List.set_cons_zero, List.set_cons_succ])
          refine wpAnyT_done (by kernel_rfl) ?_ _
          have HXA : Hid (wb.heap[XA]? = some (.cells cl 33 (0, 0))) := kb.other ha HNE.out
          have HXB : Hid (wb.heap[XB]? = some (.cells cr 33 (0, 0))) := hb
          have hxa := (HT9.out.xs XA (by simp)).1
          have hxb := (HT9.out.xs XB (by simp)).1
          have HYB : Hid (wb.heap[W.heap.size + 1]? = some (.cells #[.int .i64 0, .int .i64 0, .slice none 0 0, .slice none 0 0] 35 (0, 0))) := kb.other (ka.other HT9.out.res (by omega)) (by omega)
          have HBB : Hid (Below W.heap.size W wb) := (HT9.out.bel.trans (ka.below (by omega))).trans (kb.below (by omega))
          have HZB : Hid (W.heap.size + 2 ≤ wb.heap.size) := by show _ ≤ _; have := HT9.out.siz; rw [kb.size, ka.size]; exact this
          have HLr := Lib.hid ((HL9.out.store ka (by simp)).store kb (by simp)).root
          have HRr := Lib.hid ((HR9.out.store ka (by simp)).store kb (by simp)).root
          have HCL := Lib.hid HLr.out.size
          have HCR := Lib.hid HRr.out.size
          clear ha hb ka kb hxa hxb
          go_wp2_with (first
            | (refine ld_if rfl 33 _ rfl XA rfl 33 _ _ _ HXA.out Try.underlying33 rfl (by rw [HCL.out]; exact rnode_size) ?_)
            | (refine ld_if rfl 33 _ rfl XB rfl 33 _ _ _ HXB.out Try.underlying33 rfl (by rw [HCR.out]; exact rnode_size) ?_)
            | (go_at_call 37
               refine (rp_concat wb HLr.out HRr.out HCAT.out).mono ?_
               rintro e wc ⟨cc, rfl, hrc, hbc⟩
               obtain ⟨y0, y1, q1, n1, c1, q2, n2, c2, rfl⟩ := hrc.four
               have HRC := Lib.hid hrc
               have HYC := Lib.hid ((hbc.block (W.heap.size + 1) (by have := HZB.out; omega)).trans HYB.out)
               have HBC := Lib.hid (HBB.out.trans (hbc.mono (by have := HZB.out; omega)))
               clear hrc hbc)
            | (refine st_agg rfl 35 _ _ rfl (W.heap.size + 1) _ rfl rfl 35 _ HYC.out rope_size rfl (one4 rfl rfl rfl rfl) ?_; intro wd hd kd))
          refine bodyPost_ret (results_cell_row1 rfl _ _ (W.heap.size + 1) 35 _ (0, 0) _ rfl hd Try.underlying35 rfl rope_size) rfl ⟨_, rfl, ?_, HBC.out.trans (kd.below (by omega))⟩
          have hzb := HZB.out
          refine (HRC.out.kept kd.by_ (fun X e => by cases e; rintro ((⟨_, h⟩ | h) | h) <;> omega)).weak fun g hg => ?_
          rcases hg with (hg | hg) | hg
          · exact .inl hg.1
          · exact .inr (by omega)
          · exact .inr (by omega)
        · go_simp
          obtain ⟨XB, hXB⟩ : ∃ X, X = w7.heap.size := ⟨_, rfl⟩
          obtain ⟨w8, hw8⟩ : ∃ w, w = w7.alloc (.cells #[.int .i64 0, .int .i64 0, .slice none 0 0, .slice none 0 0] 33) := ⟨_, rfl⟩
          have HT8 : Hid (St19 W.heap.size c W (XB :: [XA]) w8) := by show St19 _ _ _ _ _; rw [hw8, hXB]; exact HT7.out.alloc
          have HL8 : Hid (Part S W.heap.size (XB :: [XA]) w8 cl l1) := by show Part _ _ _ _ _ _; rw [hw8, hXB]; exact HL7.out.alloc _
          have HNE : Hid (XA ≠ XB) := by show XA ≠ XB; have := (HT7.out.xs XA (by simp)).2.1; omega
          rw [← hXB, ← hw8]
          clear hw8 hXB
          (try dsimp only)
          refine hK.out _ _ (HT8.out.box) (fun hHeld => ?_)
          clear hK K
          (try simp only [Act.put, List.setIfInBounds_toArray, List.set_cons_zero, List.set_cons_succ])
          refine wpAnyT_one (i := 10) (o := ⟨some 23, _, _, _, _, _⟩) (by kernel_rfl) rfl (fun K hK => ?_)
          go_simp
          go_at_call 35
          refine (HC2.out w8 HT8.out.bel).mono ?_
          rintro e w9 ⟨cr, rfl, hr9, hb9⟩
          have HT9 := Lib.hid (HT8.out.later hb9)
          have HL9 := Lib.hid (HL8.out.later hb9)
          have HR9 : Hid (Part S W.heap.size [XB, XA] w9 cr l2) := Part.call HT8.out hr9
          clear hr9 hb9
          (try dsimp only)
          refine hK.out _ _ (HT9.out.box) (fun hHeld => ?_)
          clear hK K
          (try simp only [Act.put, List.setIfInBounds_toArray, List.set_cons_zero, List.set_cons_succ])
          refine wpAnyT_last (i := 13) (o := ⟨none, _, _, _, _, _⟩) (by kernel_rfl) (by decide) rfl (fun K hK => ?_)
          refine st_agg_wp 33 _ _ rfl XA cl rfl rfl 33 _ (HT9.out.xs XA (by simp)).2.2 (by rw [HL9.out.root.size]; exact rnode_size) (by rw [HL9.out.root.size]; rfl) HL9.out.root.one ?_
          intro wa ha ka
          refine hK.out _ _ ?_
          clear hK K
          (try simp only [Act.put, List.setIfInBounds_toArray, List.set_cons_zero, List.set_cons_succ])
          refine wpAnyT_last (i := 14) (o := ⟨none, _, _, _, _, _⟩) (by kernel_rfl) (by decide) rfl (fun K hK => ?_)
          refine st_agg_wp 33 _ _ rfl XB cr rfl rfl 33 _ (ka.other (HT9.out.xs XB (by simp)).2.2 (fun e => HNE.out e.symm)) (by rw [HR9.out.root.size]; exact rnode_size) (by rw [HR9.out.root.size]; rfl) HR9.out.root.one ?_
          intro wb hb kb
          refine hK.out _ _ ?_
          clear hK K
          (try simp only [Act.put, List.setIfInBounds_toArray, List.set_cons_zero, List.set_cons_succ])
          refine wpAnyT_done (by kernel_rfl) ?_ _
          have HXA : Hid (wb.heap[XA]? = some (.cells cl 33 (0, 0))) := kb.other ha HNE.out
          have HXB : Hid (wb.heap[XB]? = some (.cells cr 33 (0, 0))) := hb
          have hxa := (HT9.out.xs XA (by simp)).1
          have hxb := (HT9.out.xs XB (by simp)).1
          have HYB : Hid (wb.heap[W.heap.size + 1]? = some (.cells #[.int .i64 0, .int .i64 0, .slice none 0 0, .slice none 0 0] 35 (0, 0))) := kb.other (ka.other HT9.out.res (by omega)) (by omega)
          have HBB : Hid (Below W.heap.size W wb) := (HT9.out.bel.trans (ka.below (by omega))).trans (kb.below (by omega))
          have HZB : Hid (W.heap.size + 2 ≤ wb.heap.size) := by show _ ≤ _; have := HT9.out.siz; rw [kb.size, ka.size]; exact this
          have HLr := Lib.hid ((HL9.out.store ka (by simp)).store kb (by simp)).root
          have HRr := Lib.hid ((HR9.out.store ka (by simp)).store kb (by simp)).root
          have HCL := Lib.hid HLr.out.size
          have HCR := Lib.hid HRr.out.size
          clear ha hb ka kb hxa hxb
          go_wp2_with (first
            | (refine ld_if rfl 33 _ rfl XA rfl 33 _ _ _ HXA.out Try.underlying33 rfl (by rw [HCL.out]; exact rnode_size) ?_)
            | (refine ld_if rfl 33 _ rfl XB rfl 33 _ _ _ HXB.out Try.underlying33 rfl (by rw [HCR.out]; exact rnode_size) ?_)
            | (go_at_call 37
               refine (rp_concat wb HLr.out HRr.out HCAT.out).mono ?_
               rintro e wc ⟨cc, rfl, hrc, hbc⟩
               obtain ⟨y0, y1, q1, n1, c1, q2, n2, c2, rfl⟩ := hrc.four
               have HRC := Lib.hid hrc
               have HYC := Lib.hid ((hbc.block (W.heap.size + 1) (by have := HZB.out; omega)).trans HYB.out)
               have HBC := Lib.hid (HBB.out.trans (hbc.mono (by have := HZB.out; omega)))
               clear hrc hbc)
            | (refine st_agg rfl 35 _ _ rfl (W.heap.size + 1) _ rfl rfl 35 _ HYC.out rope_size rfl (one4 rfl rfl rfl rfl) ?_; intro wd hd kd))
          refine bodyPost_ret (results_cell_row1 rfl _ _ (W.heap.size + 1) 35 _ (0, 0) _ rfl hd Try.underlying35 rfl rope_size) rfl ⟨_, rfl, ?_, HBC.out.trans (kd.below (by omega))⟩
          have hzb := HZB.out
          refine (HRC.out.kept kd.by_ (fun X e => by cases e; rintro ((⟨_, h⟩ | h) | h) <;> omega)).weak fun g hg => ?_
          rcases hg with (hg | hg) | hg
          · exact .inl hg.1
          · exact .inr (by omega)
          · exact .inr (by omega)
      · go_simp
        obtain ⟨XB, hXB⟩ : ∃ X, X = w6.heap.size := ⟨_, rfl⟩
        obtain ⟨w7, hw7⟩ : ∃ w, w = w6.alloc (.cells #[.int .i64 0, .int .i64 0, .slice none 0 0, .slice none 0 0] 33) := ⟨_, rfl⟩
        have HT7 : Hid (St19 W.heap.size c W (XB :: []) w7) := by show St19 _ _ _ _ _; rw [hw7, hXB]; exact HT6.out.alloc
        have HL7 : Hid (Part S W.heap.size (XB :: []) w7 cl l1) := by show Part _ _ _ _ _ _; rw [hw7, hXB]; exact HL6.out.alloc _
        rw [← hXB, ← hw7]
        clear hw7 hXB
        (try dsimp only)
        refine hK.out _ _ (HT7.out.box) (fun hHeld => ?_)
        clear hK K
        (try simp only [Act.put, List.setIfInBounds_toArray, List.set_cons_zero, List.set_cons_succ])
        refine wpAnyT_ready (rs := [10, 11]) (by kernel_rfl) (by decide) (AllT.cons (o := ⟨some 23, _, _, _, _, _⟩) rfl (fun K hK => ?_) (AllT.cons (o := ⟨some 6, _, _, _, _, _⟩) rfl (fun K hK => ?_) AllT.nil))
        · go_simp
          go_at_call 35
          refine (HC2.out w7 HT7.out.bel).mono ?_
          rintro e w8 ⟨cr, rfl, hr8, hb8⟩
          have HT8 := Lib.hid (HT7.out.later hb8)
          have HL8 := Lib.hid (HL7.out.later hb8)
          have HR8 : Hid (Part S W.heap.size [XB] w8 cr l2) := Part.call HT7.out hr8
          clear hr8 hb8
          (try dsimp only)
          refine hK.out _ _ (HT8.out.box) (fun hHeld => ?_)
          clear hK K
          (try simp only [Act.put, List.setIfInBounds_toArray, List.set_cons_zero, List.set_cons_succ])
          refine wpAnyT_one (i := 11) (o := ⟨some 6, _, _, _, _, _⟩) (by kernel_rfl) rfl (fun K hK => ?_)
          go_simp
          obtain ⟨XA, hXA⟩ : ∃ X, X = w8.heap.size := ⟨_, rfl⟩
          obtain ⟨w9, hw9⟩ : ∃ w, w = w8.alloc (.cells #[.int .i64 0, .int .i64 0, .slice none 0 0, .slice none 0 0] 33) := ⟨_, rfl⟩
          have HT9 : Hid (St19 W.heap.size c W (XA :: [XB]) w9) := by show St19 _ _ _ _ _; rw [hw9, hXA]; exact HT8.out.alloc
          have HL9 : Hid (Part S W.heap.size (XA :: [XB]) w9 cl l1) := by show Part _ _ _ _ _ _; rw [hw9, hXA]; exact HL8.out.alloc _
          have HR9 : Hid (Part S W.heap.size (XA :: [XB]) w9 cr l2) := by show Part _ _ _ _ _ _; rw [hw9, hXA]; exact HR8.out.alloc _
          have HNE : Hid (XA ≠ XB) := by show XA ≠ XB; have := (HT8.out.xs XB (by simp)).2.1; omega
          rw [← hXA, ← hw9]
          clear hw9 hXA
          (try dsimp only)
          refine hK.out _ _ (HT9.out.box) (fun hHeld => ?_)
          clear hK K
          (try simp only [Act.put, List.setIfInBounds_toArray, List.set_cons_zero, List.set_cons_succ])
          refine wpAnyT_last (i := 13) (o := ⟨none, _, _, _, _, _⟩) (by kernel_rfl) (by decide) rfl (fun K hK => ?_)
          refine st_agg_wp 33 _ _ rfl XA cl rfl rfl 33 _ (HT9.out.xs XA (by simp)).2.2 (by rw [HL9.out.root.size]; exact rnode_size) (by rw [HL9.out.root.size]; rfl) HL9.out.root.one ?_
          intro wa ha ka
          refine hK.out _ _ ?_
          clear hK K
          (try simp only [Act.put, List.setIfInBounds_toArray, List.set_cons_zero, List.set_cons_succ])
          refine wpAnyT_last (i := 14) (o := ⟨none, _, _, _, _, _⟩) (by kernel_rfl) (by decide) rfl (fun K hK => ?_)
          refine st_agg_wp 33 _ _ rfl XB cr rfl rfl 33 _ (ka.other (HT9.out.xs XB (by simp)).2.2 (fun e => HNE.out e.symm)) (by rw [HR9.out.root.size]; exact rnode_size) (by rw [HR9.out.root.size]; rfl) HR9.out.root.one ?_
          intro wb hb kb
          refine hK.out _ _ ?_
          clear hK K
          (try simp only [Act.put, List.setIfInBounds_toArray, List.set_cons_zero, List.set_cons_succ])
          refine wpAnyT_done (by kernel_rfl) ?_ _
          have HXA : Hid (wb.heap[XA]? = some (.cells cl 33 (0, 0))) := kb.other ha HNE.out
          have HXB : Hid (wb.heap[XB]? = some (.cells cr 33 (0, 0))) := hb
          have hxa := (HT9.out.xs XA (by simp)).1
          have hxb := (HT9.out.xs XB (by simp)).1
          have HYB : Hid (wb.heap[W.heap.size + 1]? = some (.cells #[.int .i64 0, .int .i64 0, .slice none 0 0, .slice none 0 0] 35 (0, 0))) := kb.other (ka.other HT9.out.res (by omega)) (by omega)
          have HBB : Hid (Below W.heap.size W wb) := (HT9.out.bel.trans (ka.below (by omega))).trans (kb.below (by omega))
          have HZB : Hid (W.heap.size + 2 ≤ wb.heap.size) := by show _ ≤ _; have := HT9.out.siz; rw [kb.size, ka.size]; exact this
          have HLr := Lib.hid ((HL9.out.store ka (by simp)).store kb (by simp)).root
          have HRr := Lib.hid ((HR9.out.store ka (by simp)).store kb (by simp)).root
          have HCL := Lib.hid HLr.out.size
          have HCR := Lib.hid HRr.out.size
          clear ha hb ka kb hxa hxb
          go_wp2_with (first
            | (refine ld_if rfl 33 _ rfl XA rfl 33 _ _ _ HXA.out Try.underlying33 rfl (by rw [HCL.out]; exact rnode_size) ?_)
            | (refine ld_if rfl 33 _ rfl XB rfl 33 _ _ _ HXB.out Try.underlying33 rfl (by rw [HCR.out]; exact rnode_size) ?_)
            | (go_at_call 37
               refine (rp_concat wb HLr.out HRr.out HCAT.out).mono ?_
               rintro e wc ⟨cc, rfl, hrc, hbc⟩
               obtain ⟨y0, y1, q1, n1, c1, q2, n2, c2, rfl⟩ := hrc.four
               have HRC := Lib.hid hrc
               have HYC := Lib.hid ((hbc.block (W.heap.size + 1) (by have := HZB.out; omega)).trans HYB.out)
               have HBC := Lib.hid (HBB.out.trans (hbc.mono (by have := HZB.out; omega)))
               clear hrc hbc)
            | (refine st_agg rfl 35 _ _ rfl (W.heap.size + 1) _ rfl rfl 35 _ HYC.out rope_size rfl (one4 rfl rfl rfl rfl) ?_; intro wd hd kd))
          refine bodyPost_ret (results_cell_row1 rfl _ _ (W.heap.size + 1) 35 _ (0, 0) _ rfl hd Try.underlying35 rfl rope_size) rfl ⟨_, rfl, ?_, HBC.out.trans (kd.below (by omega))⟩
          have hzb := HZB.out
          refine (HRC.out.kept kd.by_ (fun X e => by cases e; rintro ((⟨_, h⟩ | h) | h) <;> omega)).weak fun g hg => ?_
          rcases hg with (hg | hg) | hg
          · exact .inl hg.1
          · exact .inr (by omega)
          · exact .inr (by omega)
        · go_simp
          obtain ⟨XA, hXA⟩ : ∃ X, X = w7.heap.size := ⟨_, rfl⟩
          obtain ⟨w8, hw8⟩ : ∃ w, w = w7.alloc (.cells #[.int .i64 0, .int .i64 0, .slice none 0 0, .slice none 0 0] 33) := ⟨_, rfl⟩
          have HT8 : Hid (St19 W.heap.size c W (XA :: [XB]) w8) := by show St19 _ _ _ _ _; rw [hw8, hXA]; exact HT7.out.alloc
          have HL8 : Hid (Part S W.heap.size (XA :: [XB]) w8 cl l1) := by show Part _ _ _ _ _ _; rw [hw8, hXA]; exact HL7.out.alloc _
          have HNE : Hid (XA ≠ XB) := by show XA ≠ XB; have := (HT7.out.xs XB (by simp)).2.1; omega
          rw [← hXA, ← hw8]
          clear hw8 hXA
          (try dsimp only)
          refine hK.out _ _ (HT8.out.box) (fun hHeld => ?_)
          clear hK K
          (try simp only [Act.put, List.setIfInBounds_toArray, List.set_cons_zero, List.set_cons_succ])
          refine wpAnyT_one (i := 10) (o := ⟨some 23, _, _, _, _, _⟩) (by kernel_rfl) rfl (fun K hK => ?_)
          go_simp
          go_at_call 35
          refine (HC2.out w8 HT8.out.bel).mono ?_
          rintro e w9 ⟨cr, rfl, hr9, hb9⟩
          have HT9 := Lib.hid (HT8.out.later hb9)
          have HL9 := Lib.hid (HL8.out.later hb9)
          have HR9 : Hid (Part S W.heap.size [XA, XB] w9 cr l2) := Part.call HT8.out hr9
          clear hr9 hb9
          (try dsimp only)
          refine hK.out _ _ (HT9.out.box) (fun hHeld => ?_)
          clear hK K
          (try simp only [Act.put, List.setIfInBounds_toArray, List.set_cons_zero, List.set_cons_succ])
          refine wpAnyT_last (i := 13) (o := ⟨none, _, _, _, _, _⟩) (by kernel_rfl) (by decide) rfl (fun K hK => ?_)
          refine st_agg_wp 33 _ _ rfl XA cl rfl rfl 33 _ (HT9.out.xs XA (by simp)).2.2 (by rw [HL9.out.root.size]; exact rnode_size) (by rw [HL9.out.root.size]; rfl) HL9.out.root.one ?_
          intro wa ha ka
          refine hK.out _ _ ?_
          clear hK K
          (try simp only [Act.put, List.setIfInBounds_toArray, List.set_cons_zero, List.set_cons_succ])
          refine wpAnyT_last (i := 14) (o := ⟨none, _, _, _, _, _⟩) (by kernel_rfl) (by decide) rfl (fun K hK => ?_)
          refine st_agg_wp 33 _ _ rfl XB cr rfl rfl 33 _ (ka.other (HT9.out.xs XB (by simp)).2.2 (fun e => HNE.out e.symm)) (by rw [HR9.out.root.size]; exact rnode_size) (by rw [HR9.out.root.size]; rfl) HR9.out.root.one ?_
          intro wb hb kb
          refine hK.out _ _ ?_
          clear hK K
          (try simp only [Act.put, List.setIfInBounds_toArray, List.set_cons_zero, List.set_cons_succ])
          refine wpAnyT_done (by kernel_rfl) ?_ _
          have HXA : Hid (wb.heap[XA]? = some (.cells cl 33 (0, 0))) := kb.other ha HNE.out
          have HXB : Hid (wb.heap[XB]? = some (.cells cr 33 (0, 0))) := hb
          have hxa := (HT9.out.xs XA (by simp)).1
          have hxb := (HT9.out.xs XB (by simp)).1
          have HYB : Hid (wb.heap[W.heap.size + 1]? = some (.cells #[.int .i64 0, .int .i64 0, .slice none 0 0, .slice none 0 0] 35 (0, 0))) := kb.other (ka.other HT9.out.res (by omega)) (by omega)
          have HBB : Hid (Below W.heap.size W wb) := (HT9.out.bel.trans (ka.below (by omega))).trans (kb.below (by omega))
          have HZB : Hid (W.heap.size + 2 ≤ wb.heap.size) := by show _ ≤ _; have := HT9.out.siz; rw [kb.size, ka.size]; exact this
          have HLr := Lib.hid ((HL9.out.store ka (by simp)).store kb (by simp)).root
          have HRr := Lib.hid ((HR9.out.store ka (by simp)).store kb (by simp)).root
          have HCL := Lib.hid HLr.out.size
          have HCR := Lib.hid HRr.out.size
          clear ha hb ka kb hxa hxb
          go_wp2_with (first
            | (refine ld_if rfl 33 _ rfl XA rfl 33 _ _ _ HXA.out Try.underlying33 rfl (by rw [HCL.out]; exact rnode_size) ?_)
            | (refine ld_if rfl 33 _ rfl XB rfl 33 _ _ _ HXB.out Try.underlying33 rfl (by rw [HCR.out]; exact rnode_size) ?_)
            | (go_at_call 37
               refine (rp_concat wb HLr.out HRr.out HCAT.out).mono ?_
               rintro e wc ⟨cc, rfl, hrc, hbc⟩
               obtain ⟨y0, y1, q1, n1, c1, q2, n2, c2, rfl⟩ := hrc.four
               have HRC := Lib.hid hrc
               have HYC := Lib.hid ((hbc.block (W.heap.size + 1) (by have := HZB.out; omega)).trans HYB.out)
               have HBC := Lib.hid (HBB.out.trans (hbc.mono (by have := HZB.out; omega)))
               clear hrc hbc)
            | (refine st_agg rfl 35 _ _ rfl (W.heap.size + 1) _ rfl rfl 35 _ HYC.out rope_size rfl (one4 rfl rfl rfl rfl) ?_; intro wd hd kd))
          refine bodyPost_ret (results_cell_row1 rfl _ _ (W.heap.size + 1) 35 _ (0, 0) _ rfl hd Try.underlying35 rfl rope_size) rfl ⟨_, rfl, ?_, HBC.out.trans (kd.below (by omega))⟩
          have hzb := HZB.out
          refine (HRC.out.kept kd.by_ (fun X e => by cases e; rintro ((⟨_, h⟩ | h) | h) <;> omega)).weak fun g hg => ?_
          rcases hg with (hg | hg) | hg
          · exact .inl hg.1
          · exact .inr (by omega)
          · exact .inr (by omega)
    · go_simp
      obtain ⟨XA, hXA⟩ : ∃ X, X = w5.heap.size := ⟨_, rfl⟩
      obtain ⟨w6, hw6⟩ : ∃ w, w = w5.alloc (.cells #[.int .i64 0, .int .i64 0, .slice none 0 0, .slice none 0 0] 33) := ⟨_, rfl⟩
      have HT6 : Hid (St19 W.heap.size c W (XA :: []) w6) := by show St19 _ _ _ _ _; rw [hw6, hXA]; exact HT5.out.alloc
      have HL6 : Hid (Part S W.heap.size (XA :: []) w6 cl l1) := by show Part _ _ _ _ _ _; rw [hw6, hXA]; exact HL5.out.alloc _
      rw [← hXA, ← hw6]
      clear hw6 hXA
      (try dsimp only)
      refine hK.out _ _ (HT6.out.box) (fun hHeld => ?_)
      clear hK K
      (try simp only [Act.put, List.setIfInBounds_toArray, List.set_cons_zero, List.set_cons_succ])
      refine wpAnyT_ready (rs := [9, 12]) (by kernel_rfl) (by decide) (AllT.cons (o := ⟨some 22, _, _, _, _, _⟩) rfl (fun K hK => ?_) (AllT.cons (o := ⟨some 7, _, _, _, _, _⟩) rfl (fun K hK => ?_) AllT.nil))
      · go_simp
        go_at_call 21
        refine (HLEN.out w6 HT6.out.bel).mono ?_
        rintro e w7 ⟨rfl, hw7⟩
        have hb7 : Below w6.heap.size w6 w7 := by rw [hw7]; exact Below.newly' _ _
        have HT7 := Lib.hid (HT6.out.later hb7)
        have HL7 := Lib.hid (HL6.out.later hb7)
        clear hw7 hb7
        (try dsimp only)
        refine hK.out _ _ (HT7.out.box) (fun hHeld => ?_)
        clear hK K
        (try simp only [Act.put, List.setIfInBounds_toArray, List.set_cons_zero, List.set_cons_succ])
        refine wpAnyT_ready (rs := [10, 12]) (by kernel_rfl) (by decide) (AllT.cons (o := ⟨some 23, _, _, _, _, _⟩) rfl (fun K hK => ?_) (AllT.cons (o := ⟨some 7, _, _, _, _, _⟩) rfl (fun K hK => ?_) AllT.nil))
        · go_simp
          go_at_call 35
          refine (HC2.out w7 HT7.out.bel).mono ?_
          rintro e w8 ⟨cr, rfl, hr8, hb8⟩
          have HT8 := Lib.hid (HT7.out.later hb8)
          have HL8 := Lib.hid (HL7.out.later hb8)
          have HR8 : Hid (Part S W.heap.size [XA] w8 cr l2) := Part.call HT7.out hr8
          clear hr8 hb8
          (try dsimp only)
          refine hK.out _ _ (HT8.out.box) (fun hHeld => ?_)
          clear hK K
          (try simp only [Act.put, List.setIfInBounds_toArray, List.set_cons_zero, List.set_cons_succ])
          refine wpAnyT_one (i := 12) (o := ⟨some 7, _, _, _, _, _⟩) (by kernel_rfl) rfl (fun K hK => ?_)
          go_simp
          obtain ⟨XB, hXB⟩ : ∃ X, X = w8.heap.size := ⟨_, rfl⟩
          obtain ⟨w9, hw9⟩ : ∃ w, w = w8.alloc (.cells #[.int .i64 0, .int .i64 0, .slice none 0 0, .slice none 0 0] 33) := ⟨_, rfl⟩
          have HT9 : Hid (St19 W.heap.size c W (XB :: [XA]) w9) := by show St19 _ _ _ _ _; rw [hw9, hXB]; exact HT8.out.alloc
          have HL9 : Hid (Part S W.heap.size (XB :: [XA]) w9 cl l1) := by show Part _ _ _ _ _ _; rw [hw9, hXB]; exact HL8.out.alloc _
          have HR9 : Hid (Part S W.heap.size (XB :: [XA]) w9 cr l2) := by show Part _ _ _ _ _ _; rw [hw9, hXB]; exact HR8.out.alloc _
          have HNE : Hid (XA ≠ XB) := by show XA ≠ XB; have := (HT8.out.xs XA (by simp)).2.1; omega
          rw [← hXB, ← hw9]
          clear hw9 hXB
          (try dsimp only)
          refine hK.out _ _ (HT9.out.box) (fun hHeld => ?_)
          clear hK K
          (try simp only [Act.put, List.setIfInBounds_toArray, List.set_cons_zero, List.set_cons_succ])
          refine wpAnyT_last (i := 13) (o := ⟨none, _, _, _, _, _⟩) (by kernel_rfl) (by decide) rfl (fun K hK => ?_)
          refine st_agg_wp 33 _ _ rfl XA cl rfl rfl 33 _ (HT9.out.xs XA (by simp)).2.2 (by rw [HL9.out.root.size]; exact rnode_size) (by rw [HL9.out.root.size]; rfl) HL9.out.root.one ?_
          intro wa ha ka
          refine hK.out _ _ ?_
          clear hK K
          (try simp only [Act.put, List.setIfInBounds_toArray, List.set_cons_zero, List.set_cons_succ])
          refine wpAnyT_last (i := 14) (o := ⟨none, _, _, _, _, _⟩) (by kernel_rfl) (by decide) rfl (fun K hK => ?_)
          refine st_agg_wp 33 _ _ rfl XB cr rfl rfl 33 _ (ka.other (HT9.out.xs XB (by simp)).2.2 (fun e => HNE.out e.symm)) (by rw [HR9.out.root.size]; exact rnode_size) (by rw [HR9.out.root.size]; rfl) HR9.out.root.one ?_
          intro wb hb kb
          refine hK.out _ _ ?_
          clear hK K
          (try simp only [Act.put, List.setIfInBounds_toArray, List.set_cons_zero, List.set_cons_succ])
          refine wpAnyT_done (by kernel_rfl) ?_ _
          have HXA : Hid (wb.heap[XA]? = some (.cells cl 33 (0, 0))) := kb.other ha HNE.out
          have HXB : Hid (wb.heap[XB]? = some (.cells cr 33 (0, 0))) := hb
          have hxa := (HT9.out.xs XA (by simp)).1
          have hxb := (HT9.out.xs XB (by simp)).1
          have HYB : Hid (wb.heap[W.heap.size + 1]? = some (.cells #[.int .i64 0, .int .i64 0, .slice none 0 0, .slice none 0 0] 35 (0, 0))) := kb.other (ka.other HT9.out.res (by omega)) (by omega)
          have HBB : Hid (Below W.heap.size W wb) := (HT9.out.bel.trans (ka.below (by omega))).trans (kb.below (by omega))
          have HZB : Hid (W.heap.size + 2 ≤ wb.heap.size) := by show _ ≤ _; have := HT9.out.siz; rw [kb.size, ka.size]; exact this
          have HLr := Lib.hid ((HL9.out.store ka (by simp)).store kb (by simp)).root
          have HRr := Lib.hid ((HR9.out.store ka (by simp)).store kb (by simp)).root
          have HCL := Lib.hid HLr.out.size
          have HCR := Lib.hid HRr.out.size
          clear ha hb ka kb hxa hxb
          go_wp2_with (first
            | (refine ld_if rfl 33 _ rfl XA rfl 33 _ _ _ HXA.out Try.underlying33 rfl (by rw [HCL.out]; exact rnode_size) ?_)
            | (refine ld_if rfl 33 _ rfl XB rfl 33 _ _ _ HXB.out Try.underlying33 rfl (by rw [HCR.out]; exact rnode_size) ?_)
            | (go_at_call 37
               refine (rp_concat wb HLr.out HRr.out HCAT.out).mono ?_
               rintro e wc ⟨cc, rfl, hrc, hbc⟩
               obtain ⟨y0, y1, q1, n1, c1, q2, n2, c2, rfl⟩ := hrc.four
               have HRC := Lib.hid hrc
               have HYC := Lib.hid ((hbc.block (W.heap.size + 1) (by have := HZB.out; omega)).trans HYB.out)
               have HBC := Lib.hid (HBB.out.trans (hbc.mono (by have := HZB.out; omega)))
               clear hrc hbc)
            | (refine st_agg rfl 35 _ _ rfl (W.heap.size + 1) _ rfl rfl 35 _ HYC.out rope_size rfl (one4 rfl rfl rfl rfl) ?_; intro wd hd kd))
          refine bodyPost_ret (results_cell_row1 rfl _ _ (W.heap.size + 1) 35 _ (0, 0) _ rfl hd Try.underlying35 rfl rope_size) rfl ⟨_, rfl, ?_, HBC.out.trans (kd.below (by omega))⟩
          have hzb := HZB.out
          refine (HRC.out.kept kd.by_ (fun X e => by cases e; rintro ((⟨_, h⟩ | h) | h) <;> omega)).weak fun g hg => ?_
          rcases hg with (hg | hg) | hg
          · exact .inl hg.1
          · exact .inr (by omega)
          · exact .inr (by omega)
        · go_simp
          obtain ⟨XB, hXB⟩ : ∃ X, X = w7.heap.size := ⟨_, rfl⟩
          obtain ⟨w8, hw8⟩ : ∃ w, w = w7.alloc (.cells #[.int .i64 0, .int .i64 0, .slice none 0 0, .slice none 0 0] 33) := ⟨_, rfl⟩
          have HT8 : Hid (St19 W.heap.size c W (XB :: [XA]) w8) := by show St19 _ _ _ _ _; rw [hw8, hXB]; exact HT7.out.alloc
          have HL8 : Hid (Part S W.heap.size (XB :: [XA]) w8 cl l1) := by show Part _ _ _ _ _ _; rw [hw8, hXB]; exact HL7.out.alloc _
          have HNE : Hid (XA ≠ XB) := by show XA ≠ XB; have := (HT7.out.xs XA (by simp)).2.1; omega
          rw [← hXB, ← hw8]
          clear hw8 hXB
          (try dsimp only)
          refine hK.out _ _ (HT8.out.box) (fun hHeld => ?_)
          clear hK K
          (try simp only [Act.put, List.setIfInBounds_toArray, List.set_cons_zero, List.set_cons_succ])
          refine wpAnyT_one (i := 10) (o := ⟨some 23, _, _, _, _, _⟩) (by kernel_rfl) rfl (fun K hK => ?_)
          go_simp
          go_at_call 35
          refine (HC2.out w8 HT8.out.bel).mono ?_
          rintro e w9 ⟨cr, rfl, hr9, hb9⟩
          have HT9 := Lib.hid (HT8.out.later hb9)
          have HL9 := Lib.hid (HL8.out.later hb9)
          have HR9 : Hid (Part S W.heap.size [XB, XA] w9 cr l2) := Part.call HT8.out hr9
          clear hr9 hb9
          (try dsimp only)
          refine hK.out _ _ (HT9.out.box) (fun hHeld => ?_)
          clear hK K
          (try simp only [Act.put, List.setIfInBounds_toArray, List.set_cons_zero, List.set_cons_succ])
          refine wpAnyT_last (i := 13) (o := ⟨none, _, _, _, _, _⟩) (by kernel_rfl) (by decide) rfl (fun K hK => ?_)
          refine st_agg_wp 33 _ _ rfl XA cl rfl rfl 33 _ (HT9.out.xs XA (by simp)).2.2 (by rw [HL9.out.root.size]; exact rnode_size) (by rw [HL9.out.root.size]; rfl) HL9.out.root.one ?_
          intro wa ha ka
          refine hK.out _ _ ?_
          clear hK K
          (try simp only [Act.put, List.setIfInBounds_toArray, List.set_cons_zero, List.set_cons_succ])
          refine wpAnyT_last (i := 14) (o := ⟨none, _, _, _, _, _⟩) (by kernel_rfl) (by decide) rfl (fun K hK => ?_)
          refine st_agg_wp 33 _ _ rfl XB cr rfl rfl 33 _ (ka.other (HT9.out.xs XB (by simp)).2.2 (fun e => HNE.out e.symm)) (by rw [HR9.out.root.size]; exact rnode_size) (by rw [HR9.out.root.size]; rfl) HR9.out.root.one ?_
          intro wb hb kb
          refine hK.out _ _ ?_
          clear hK K
          (try simp only [Act.put, List.setIfInBounds_toArray, List.set_cons_zero, List.set_cons_succ])
          refine wpAnyT_done (by kernel_rfl) ?_ _
          have HXA : Hid (wb.heap[XA]? = some (.cells cl 33 (0, 0))) := kb.other ha HNE.out
          have HXB : Hid (wb.heap[XB]? = some (.cells cr 33 (0, 0))) := hb
          have hxa := (HT9.out.xs XA (by simp)).1
          have hxb := (HT9.out.xs XB (by simp)).1
          have HYB : Hid (wb.heap[W.heap.size + 1]? = some (.cells #[.int .i64 0, .int .i64 0, .slice none 0 0, .slice none 0 0] 35 (0, 0))) := kb.other (ka.other HT9.out.res (by omega)) (by omega)
          have HBB : Hid (Below W.heap.size W wb) := (HT9.out.bel.trans (ka.below (by omega))).trans (kb.below (by omega))
          have HZB : Hid (W.heap.size + 2 ≤ wb.heap.size) := by show _ ≤ _; have := HT9.out.siz; rw [kb.size, ka.size]; exact this
          have HLr := Lib.hid ((HL9.out.store ka (by simp)).store kb (by simp)).root
          have HRr := Lib.hid ((HR9.out.store ka (by simp)).store kb (by simp)).root
          have HCL := Lib.hid HLr.out.size
          have HCR := Lib.hid HRr.out.size
          clear ha hb ka kb hxa hxb
          go_wp2_with (first
            | (refine ld_if rfl 33 _ rfl XA rfl 33 _ _ _ HXA.out Try.underlying33 rfl (by rw [HCL.out]; exact rnode_size) ?_)
            | (refine ld_if rfl 33 _ rfl XB rfl 33 _ _ _ HXB.out Try.underlying33 rfl (by rw [HCR.out]; exact rnode_size) ?_)
            | (go_at_call 37
               refine (rp_concat wb HLr.out HRr.out HCAT.out).mono ?_
               rintro e wc ⟨cc, rfl, hrc, hbc⟩
               obtain ⟨y0, y1, q1, n1, c1, q2, n2, c2, rfl⟩ := hrc.four
               have HRC := Lib.hid hrc
               have HYC := Lib.hid ((hbc.block (W.heap.size + 1) (by have := HZB.out; omega)).trans HYB.out)
               have HBC := Lib.hid (HBB.out.trans (hbc.mono (by have := HZB.out; omega)))
               clear hrc hbc)
            | (refine st_agg rfl 35 _ _ rfl (W.heap.size + 1) _ rfl rfl 35 _ HYC.out rope_size rfl (one4 rfl rfl rfl rfl) ?_; intro wd hd kd))
          refine bodyPost_ret (results_cell_row1 rfl _ _ (W.heap.size + 1) 35 _ (0, 0) _ rfl hd Try.underlying35 rfl rope_size) rfl ⟨_, rfl, ?_, HBC.out.trans (kd.below (by omega))⟩
          have hzb := HZB.out
          refine (HRC.out.kept kd.by_ (fun X e => by cases e; rintro ((⟨_, h⟩ | h) | h) <;> omega)).weak fun g hg => ?_
          rcases hg with (hg | hg) | hg
          · exact .inl hg.1
          · exact .inr (by omega)
          · exact .inr (by omega)
      · go_simp
        obtain ⟨XB, hXB⟩ : ∃ X, X = w6.heap.size := ⟨_, rfl⟩
        obtain ⟨w7, hw7⟩ : ∃ w, w = w6.alloc (.cells #[.int .i64 0, .int .i64 0, .slice none 0 0, .slice none 0 0] 33) := ⟨_, rfl⟩
        have HT7 : Hid (St19 W.heap.size c W (XB :: [XA]) w7) := by show St19 _ _ _ _ _; rw [hw7, hXB]; exact HT6.out.alloc
        have HL7 : Hid (Part S W.heap.size (XB :: [XA]) w7 cl l1) := by show Part _ _ _ _ _ _; rw [hw7, hXB]; exact HL6.out.alloc _
        have HNE : Hid (XA ≠ XB) := by show XA ≠ XB; have := (HT6.out.xs XA (by simp)).2.1; omega
        rw [← hXB, ← hw7]
        clear hw7 hXB
        (try dsimp only)
        refine hK.out _ _ (HT7.out.box) (fun hHeld => ?_)
        clear hK K
        (try simp only [Act.put, List.setIfInBounds_toArray, List.set_cons_zero, List.set_cons_succ])
        refine wpAnyT_one (i := 9) (o := ⟨some 22, _, _, _, _, _⟩) (by kernel_rfl) rfl (fun K hK => ?_)
        go_simp
        go_at_call 21
        refine (HLEN.out w7 HT7.out.bel).mono ?_
        rintro e w8 ⟨rfl, hw8⟩
        have hb8 : Below w7.heap.size w7 w8 := by rw [hw8]; exact Below.newly' _ _
        have HT8 := Lib.hid (HT7.out.later hb8)
        have HL8 := Lib.hid (HL7.out.later hb8)
        clear hw8 hb8
        (try dsimp only)
        refine hK.out _ _ (HT8.out.box) (fun hHeld => ?_)
        clear hK K
        (try simp only [Act.put, List.setIfInBounds_toArray, List.set_cons_zero, List.set_cons_succ])
        refine wpAnyT_one (i := 10) (o := ⟨some 23, _, _, _, _, _⟩) (by kernel_rfl) rfl (fun K hK => ?_)
        go_simp
        go_at_call 35
        refine (HC2.out w8 HT8.out.bel).mono ?_
        rintro e w9 ⟨cr, rfl, hr9, hb9⟩
        have HT9 := Lib.hid (HT8.out.later hb9)
        have HL9 := Lib.hid (HL8.out.later hb9)
        have HR9 : Hid (Part S W.heap.size [XB, XA] w9 cr l2) := Part.call HT8.out hr9
        clear hr9 hb9
        (try dsimp only)
        refine hK.out _ _ (HT9.out.box) (fun hHeld => ?_)
        clear hK K
        (try simp only [Act.put, List.setIfInBounds_toArray, List.set_cons_zero, List.set_cons_succ])
        refine wpAnyT_last (i := 13) (o := ⟨none, _, _, _, _, _⟩) (by kernel_rfl) (by decide) rfl (fun K hK => ?_)
        refine st_agg_wp 33 _ _ rfl XA cl rfl rfl 33 _ (HT9.out.xs XA (by simp)).2.2 (by rw [HL9.out.root.size]; exact rnode_size) (by rw [HL9.out.root.size]; rfl) HL9.out.root.one ?_
        intro wa ha ka
        refine hK.out _ _ ?_
        clear hK K
        (try simp only [Act.put, List.setIfInBounds_toArray, List.set_cons_zero, List.set_cons_succ])
        refine wpAnyT_last (i := 14) (o := ⟨none, _, _, _, _, _⟩) (by kernel_rfl) (by decide) rfl (fun K hK => ?_)
        refine st_agg_wp 33 _ _ rfl XB cr rfl rfl 33 _ (ka.other (HT9.out.xs XB (by simp)).2.2 (fun e => HNE.out e.symm)) (by rw [HR9.out.root.size]; exact rnode_size) (by rw [HR9.out.root.size]; rfl) HR9.out.root.one ?_
        intro wb hb kb
        refine hK.out _ _ ?_
        clear hK K
        (try simp only [Act.put, List.setIfInBounds_toArray, List.set_cons_zero, List.set_cons_succ])
        refine wpAnyT_done (by kernel_rfl) ?_ _
        have HXA : Hid (wb.heap[XA]? = some (.cells cl 33 (0, 0))) := kb.other ha HNE.out
        have HXB : Hid (wb.heap[XB]? = some (.cells cr 33 (0, 0))) := hb
        have hxa := (HT9.out.xs XA (by simp)).1
        have hxb := (HT9.out.xs XB (by simp)).1
        have HYB : Hid (wb.heap[W.heap.size + 1]? = some (.cells #[.int .i64 0, .int .i64 0, .slice none 0 0, .slice none 0 0] 35 (0, 0))) := kb.other (ka.other HT9.out.res (by omega)) (by omega)
        have HBB : Hid (Below W.heap.size W wb) := (HT9.out.bel.trans (ka.below (by omega))).trans (kb.below (by omega))
        have HZB : Hid (W.heap.size + 2 ≤ wb.heap.size) := by show _ ≤ _; have := HT9.out.siz; rw [kb.size, ka.size]; exact this
        have HLr := Lib.hid ((HL9.out.store ka (by simp)).store kb (by simp)).root
        have HRr := Lib.hid ((HR9.out.store ka (by simp)).store kb (by simp)).root
        have HCL := Lib.hid HLr.out.size
        have HCR := Lib.hid HRr.out.size
        clear ha hb ka kb hxa hxb
        go_wp2_with (first
          | (refine ld_if rfl 33 _ rfl XA rfl 33 _ _ _ HXA.out Try.underlying33 rfl (by rw [HCL.out]; exact rnode_size) ?_)
          | (refine ld_if rfl 33 _ rfl XB rfl 33 _ _ _ HXB.out Try.underlying33 rfl (by rw [HCR.out]; exact rnode_size) ?_)
          | (go_at_call 37
             refine (rp_concat wb HLr.out HRr.out HCAT.out).mono ?_
             rintro e wc ⟨cc, rfl, hrc, hbc⟩
             obtain ⟨y0, y1, q1, n1, c1, q2, n2, c2, rfl⟩ := hrc.four
             have HRC := Lib.hid hrc
             have HYC := Lib.hid ((hbc.block (W.heap.size + 1) (by have := HZB.out; omega)).trans HYB.out)
             have HBC := Lib.hid (HBB.out.trans (hbc.mono (by have := HZB.out; omega)))
             clear hrc hbc)
          | (refine st_agg rfl 35 _ _ rfl (W.heap.size + 1) _ rfl rfl 35 _ HYC.out rope_size rfl (one4 rfl rfl rfl rfl) ?_; intro wd hd kd))
        refine bodyPost_ret (results_cell_row1 rfl _ _ (W.heap.size + 1) 35 _ (0, 0) _ rfl hd Try.underlying35 rfl rope_size) rfl ⟨_, rfl, ?_, HBC.out.trans (kd.below (by omega))⟩
        have hzb := HZB.out
        refine (HRC.out.kept kd.by_ (fun X e => by cases e; rintro ((⟨_, h⟩ | h) | h) <;> omega)).weak fun g hg => ?_
        rcases hg with (hg | hg) | hg
        · exact .inl hg.1
        · exact .inr (by omega)
        · exact .inr (by omega)
    · go_simp
      obtain ⟨XB, hXB⟩ : ∃ X, X = w5.heap.size := ⟨_, rfl⟩
      obtain ⟨w6, hw6⟩ : ∃ w, w = w5.alloc (.cells #[.int .i64 0, .int .i64 0, .slice none 0 0, .slice none 0 0] 33) := ⟨_, rfl⟩
      have HT6 : Hid (St19 W.heap.size c W (XB :: []) w6) := by show St19 _ _ _ _ _; rw [hw6, hXB]; exact HT5.out.alloc
      have HL6 : Hid (Part S W.heap.size (XB :: []) w6 cl l1) := by show Part _ _ _ _ _ _; rw [hw6, hXB]; exact HL5.out.alloc _
      rw [← hXB, ← hw6]
      clear hw6 hXB
      (try dsimp only)
      refine hK.out _ _ (HT6.out.box) (fun hHeld => ?_)
      clear hK K
      (try simp only [Act.put, List.setIfInBounds_toArray, List.set_cons_zero, List.set_cons_succ])
      refine wpAnyT_ready (rs := [9, 11]) (by kernel_rfl) (by decide) (AllT.cons (o := ⟨some 22, _, _, _, _, _⟩) rfl (fun K hK => ?_) (AllT.cons (o := ⟨some 6, _, _, _, _, _⟩) rfl (fun K hK => ?_) AllT.nil))
      · go_simp
        go_at_call 21
        refine (HLEN.out w6 HT6.out.bel).mono ?_
        rintro e w7 ⟨rfl, hw7⟩
        have hb7 : Below w6.heap.size w6 w7 := by rw [hw7]; exact Below.newly' _ _
        have HT7 := Lib.hid (HT6.out.later hb7)
        have HL7 := Lib.hid (HL6.out.later hb7)
        clear hw7 hb7
        (try dsimp only)
        refine hK.out _ _ (HT7.out.box) (fun hHeld => ?_)
        clear hK K
        (try simp only [Act.put, List.setIfInBounds_toArray, List.set_cons_zero, List.set_cons_succ])
        refine wpAnyT_ready (rs := [10, 11]) (by kernel_rfl) (by decide) (AllT.cons (o := ⟨some 23, _, _, _, _, _⟩) rfl (fun K hK => ?_) (AllT.cons (o := ⟨some 6, _, _, _, _, _⟩) rfl (fun K hK => ?_) AllT.nil))
        · go_simp
          go_at_call 35
          refine (HC2.out w7 HT7.out.bel).mono ?_
          rintro e w8 ⟨cr, rfl, hr8, hb8⟩
          have HT8 := Lib.hid (HT7.out.later hb8)
          have HL8 := Lib.hid (HL7.out.later hb8)
          have HR8 : Hid (Part S W.heap.size [XB] w8 cr l2) := Part.call HT7.out hr8
          clear hr8 hb8
          (try dsimp only)
          refine hK.out _ _ (HT8.out.box) (fun hHeld => ?_)
          clear hK K
          (try simp only [Act.put, List.setIfInBounds_toArray, List.set_cons_zero, List.set_cons_succ])
          refine wpAnyT_one (i := 11) (o := ⟨some 6, _, _, _, _, _⟩) (by kernel_rfl) rfl (fun K hK => ?_)
          go_simp
          obtain ⟨XA, hXA⟩ : ∃ X, X = w8.heap.size := ⟨_, rfl⟩
          obtain ⟨w9, hw9⟩ : ∃ w, w = w8.alloc (.cells #[.int .i64 0, .int .i64 0, .slice none 0 0, .slice none 0 0] 33) := ⟨_, rfl⟩
          have HT9 : Hid (St19 W.heap.size c W (XA :: [XB]) w9) := by show St19 _ _ _ _ _; rw [hw9, hXA]; exact HT8.out.alloc
          have HL9 : Hid (Part S W.heap.size (XA :: [XB]) w9 cl l1) := by show Part _ _ _ _ _ _; rw [hw9, hXA]; exact HL8.out.alloc _
          have HR9 : Hid (Part S W.heap.size (XA :: [XB]) w9 cr l2) := by show Part _ _ _ _ _ _; rw [hw9, hXA]; exact HR8.out.alloc _
          have HNE : Hid (XA ≠ XB) := by show XA ≠ XB; have := (HT8.out.xs XB (by simp)).2.1; omega
          rw [← hXA, ← hw9]
          clear hw9 hXA
          (try dsimp only)
          refine hK.out _ _ (HT9.out.box) (fun hHeld => ?_)
          clear hK K
          (try simp only [Act.put, List.setIfInBounds_toArray, List.set_cons_zero, List.set_cons_succ])
          refine wpAnyT_last (i := 13) (o := ⟨none, _, _, _, _, _⟩) (by kernel_rfl) (by decide) rfl (fun K hK => ?_)
          refine st_agg_wp 33 _ _ rfl XA cl rfl rfl 33 _ (HT9.out.xs XA (by simp)).2.2 (by rw [HL9.out.root.size]; exact rnode_size) (by rw [HL9.out.root.size]; rfl) HL9.out.root.one ?_
          intro wa ha ka
          refine hK.out _ _ ?_
          clear hK K
          (try simp only [Act.put, List.setIfInBounds_toArray, List.set_cons_zero, List.set_cons_succ])
          refine wpAnyT_last (i := 14) (o := ⟨none, _, _, _, _, _⟩) (by kernel_rfl) (by decide) rfl (fun K hK => ?_)
          refine st_agg_wp 33 _ _ rfl XB cr rfl rfl 33 _ (ka.other (HT9.out.xs XB (by simp)).2.2 (fun e => HNE.out e.symm)) (by rw [HR9.out.root.size]; exact rnode_size) (by rw [HR9.out.root.size]; rfl) HR9.out.root.one ?_
          intro wb hb kb
          refine hK.out _ _ ?_
          clear hK K
          (try simp only [Act.put, List.setIfInBounds_toArray, List.set_cons_zero, List.set_cons_succ])
          refine wpAnyT_done (by kernel_rfl) ?_ _
          have HXA : Hid (wb.heap[XA]? = some (.cells cl 33 (0, 0))) := kb.other ha HNE.out
          have HXB : Hid (wb.heap[XB]? = some (.cells cr 33 (0, 0))) := hb
          have hxa := (HT9.out.xs XA (by simp)).1
          have hxb := (HT9.out.xs XB (by simp)).1
          have HYB : Hid (wb.heap[W.heap.size + 1]? = some (.cells #[.int .i64 0, .int .i64 0, .slice none 0 0, .slice none 0 0] 35 (0, 0))) := kb.other (ka.other HT9.out.res (by omega)) (by omega)
          have HBB : Hid (Below W.heap.size W wb) := (HT9.out.bel.trans (ka.below (by omega))).trans (kb.below (by omega))
          have HZB : Hid (W.heap.size + 2 ≤ wb.heap.size) := by show _ ≤ _; have := HT9.out.siz; rw [kb.size, ka.size]; exact this
          have HLr := Lib.hid ((HL9.out.store ka (by simp)).store kb (by simp)).root
          have HRr := Lib.hid ((HR9.out.store ka (by simp)).store kb (by simp)).root
          have HCL := Lib.hid HLr.out.size
          have HCR := Lib.hid HRr.out.size
          clear ha hb ka kb hxa hxb
          go_wp2_with (first
            | (refine ld_if rfl 33 _ rfl XA rfl 33 _ _ _ HXA.out Try.underlying33 rfl (by rw [HCL.out]; exact rnode_size) ?_)
            | (refine ld_if rfl 33 _ rfl XB rfl 33 _ _ _ HXB.out Try.underlying33 rfl (by rw [HCR.out]; exact rnode_size) ?_)
            | (go_at_call 37
               refine (rp_concat wb HLr.out HRr.out HCAT.out).mono ?_
               rintro e wc ⟨cc, rfl, hrc, hbc⟩
               obtain ⟨y0, y1, q1, n1, c1, q2, n2, c2, rfl⟩ := hrc.four
               have HRC := Lib.hid hrc
               have HYC := Lib.hid ((hbc.block (W.heap.size + 1) (by have := HZB.out; omega)).trans HYB.out)
               have HBC := Lib.hid (HBB.out.trans (hbc.mono (by have := HZB.out; omega)))
               clear hrc hbc)
            | (refine st_agg rfl 35 _ _ rfl (W.heap.size + 1) _ rfl rfl 35 _ HYC.out rope_size rfl (one4 rfl rfl rfl rfl) ?_; intro wd hd kd))
          refine bodyPost_ret (results_cell_row1 rfl _ _ (W.heap.size + 1) 35 _ (0, 0) _ rfl hd Try.underlying35 rfl rope_size) rfl ⟨_, rfl, ?_, HBC.out.trans (kd.below (by omega))⟩
          have hzb := HZB.out
          refine (HRC.out.kept kd.by_ (fun X e => by cases e; rintro ((⟨_, h⟩ | h) | h) <;> omega)).weak fun g hg => ?_
          rcases hg with (hg | hg) | hg
          · exact .inl hg.1
          · exact .inr (by omega)
          · exact .inr (by omega)
        · go_simp
          obtain ⟨XA, hXA⟩ : ∃ X, X = w7.heap.size := ⟨_, rfl⟩
          obtain ⟨w8, hw8⟩ : ∃ w, w = w7.alloc (.cells #[.int .i64 0, .int .i64 0, .slice none 0 0, .slice none 0 0] 33) := ⟨_, rfl⟩
          have HT8 : Hid (St19 W.heap.size c W (XA :: [XB]) w8) := by show St19 _ _ _ _ _; rw [hw8, hXA]; exact HT7.out.alloc
          have HL8 : Hid (Part S W.heap.size (XA :: [XB]) w8 cl l1) := by show Part _ _ _ _ _ _; rw [hw8, hXA]; exact HL7.out.alloc _
          have HNE : Hid (XA ≠ XB) := by show XA ≠ XB; have := (HT7.out.xs XB (by simp)).2.1; omega
          rw [← hXA, ← hw8]
          clear hw8 hXA
          (try dsimp only)
          refine hK.out _ _ (HT8.out.box) (fun hHeld => ?_)
          clear hK K
          (try simp only [Act.put, List.setIfInBounds_toArray, List.set_cons_zero, List.set_cons_succ])
          refine wpAnyT_one (i := 10) (o := ⟨some 23, _, _, _, _, _⟩) (by kernel_rfl) rfl (fun K hK => ?_)
          go_simp
          go_at_call 35
          refine (HC2.out w8 HT8.out.bel).mono ?_
          rintro e w9 ⟨cr, rfl, hr9, hb9⟩
          have HT9 := Lib.hid (HT8.out.later hb9)
          have HL9 := Lib.hid (HL8.out.later hb9)
          have HR9 : Hid (Part S W.heap.size [XA, XB] w9 cr l2) := Part.call HT8.out hr9
          clear hr9 hb9
          (try dsimp only)
          refine hK.out _ _ (HT9.out.box) (fun hHeld => ?_)
          clear hK K
          (try simp only [Act.put, List.setIfInBounds_toArray, List.set_cons_zero, List.set_cons_succ])
          refine wpAnyT_last (i := 13) (o := ⟨none, _, _, _, _, _⟩) (by kernel_rfl) (by decide) rfl (fun K hK => ?_)
          refine st_agg_wp 33 _ _ rfl XA cl rfl rfl 33 _ (HT9.out.xs XA (by simp)).2.2 (by rw [HL9.out.root.size]; exact rnode_size) (by rw [HL9.out.root.size]; rfl) HL9.out.root.one ?_
          intro wa ha ka
          refine hK.out _ _ ?_
          clear hK K
          (try simp only [Act.put, List.setIfInBounds_toArray, List.set_cons_zero, List.set_cons_succ])
          refine wpAnyT_last (i := 14) (o := ⟨none, _, _, _, _, _⟩) (by kernel_rfl) (by decide) rfl (fun K hK => ?_)
          refine st_agg_wp 33 _ _ rfl XB cr rfl rfl 33 _ (ka.other (HT9.out.xs XB (by simp)).2.2 (fun e => HNE.out e.symm)) (by rw [HR9.out.root.size]; exact rnode_size) (by rw [HR9.out.root.size]; rfl) HR9.out.root.one ?_
          intro wb hb kb
          refine hK.out _ _ ?_
          clear hK K
          (try simp only [Act.put, List.setIfInBounds_toArray, List.set_cons_zero, List.set_cons_succ])
          refine wpAnyT_done (by kernel_rfl) ?_ _
          have HXA : Hid (wb.heap[XA]? = some (.cells cl 33 (0, 0))) := kb.other ha HNE.out
          have HXB : Hid (wb.heap[XB]? = some (.cells cr 33 (0, 0))) := hb
          have hxa := (HT9.out.xs XA (by simp)).1
          have hxb := (HT9.out.xs XB (by simp)).1
          have HYB : Hid (wb.heap[W.heap.size + 1]? = some (.cells #[.int .i64 0, .int .i64 0, .slice none 0 0, .slice none 0 0] 35 (0, 0))) := kb.other (ka.other HT9.out.res (by omega)) (by omega)
          have HBB : Hid (Below W.heap.size W wb) := (HT9.out.bel.trans (ka.below (by omega))).trans (kb.below (by omega))
          have HZB : Hid (W.heap.size + 2 ≤ wb.heap.size) := by show _ ≤ _; have := HT9.out.siz; rw [kb.size, ka.size]; exact this
          have HLr := Lib.hid ((HL9.out.store ka (by simp)).store kb (by simp)).root
          have HRr := Lib.hid ((HR9.out.store ka (by simp)).store kb (by simp)).root
          have HCL := Lib.hid HLr.out.size
          have HCR := Lib.hid HRr.out.size
          clear ha hb ka kb hxa hxb
          go_wp2_with (first
            | (refine ld_if rfl 33 _ rfl XA rfl 33 _ _ _ HXA.out Try.underlying33 rfl (by rw [HCL.out]; exact rnode_size) ?_)
            | (refine ld_if rfl 33 _ rfl XB rfl 33 _ _ _ HXB.out Try.underlying33 rfl (by rw [HCR.out]; exact rnode_size) ?_)
            | (go_at_call 37
               refine (rp_concat wb HLr.out HRr.out HCAT.out).mono ?_
               rintro e wc ⟨cc, rfl, hrc, hbc⟩
               obtain ⟨y0, y1, q1, n1, c1, q2, n2, c2, rfl⟩ := hrc.four
               have HRC := Lib.hid hrc
               have HYC := Lib.hid ((hbc.block (W.heap.size + 1) (by have := HZB.out; omega)).trans HYB.out)
               have HBC := Lib.hid (HBB.out.trans (hbc.mono (by have := HZB.out; omega)))
               clear hrc hbc)
            | (refine st_agg rfl 35 _ _ rfl (W.heap.size + 1) _ rfl rfl 35 _ HYC.out rope_size rfl (one4 rfl rfl rfl rfl) ?_; intro wd hd kd))
          refine bodyPost_ret (results_cell_row1 rfl _ _ (W.heap.size + 1) 35 _ (0, 0) _ rfl hd Try.underlying35 rfl rope_size) rfl ⟨_, rfl, ?_, HBC.out.trans (kd.below (by omega))⟩
          have hzb := HZB.out
          refine (HRC.out.kept kd.by_ (fun X e => by cases e; rintro ((⟨_, h⟩ | h) | h) <;> omega)).weak fun g hg => ?_
          rcases hg with (hg | hg) | hg
          · exact .inl hg.1
          · exact .inr (by omega)
          · exact .inr (by omega)
      · go_simp
        obtain ⟨XA, hXA⟩ : ∃ X, X = w6.heap.size := ⟨_, rfl⟩
        obtain ⟨w7, hw7⟩ : ∃ w, w = w6.alloc (.cells #[.int .i64 0, .int .i64 0, .slice none 0 0, .slice none 0 0] 33) := ⟨_, rfl⟩
        have HT7 : Hid (St19 W.heap.size c W (XA :: [XB]) w7) := by show St19 _ _ _ _ _; rw [hw7, hXA]; exact HT6.out.alloc
        have HL7 : Hid (Part S W.heap.size (XA :: [XB]) w7 cl l1) := by show Part _ _ _ _ _ _; rw [hw7, hXA]; exact HL6.out.alloc _
        have HNE : Hid (XA ≠ XB) := by show XA ≠ XB; have := (HT6.out.xs XB (by simp)).2.1; omega
        rw [← hXA, ← hw7]
        clear hw7 hXA
        (try dsimp only)
        refine hK.out _ _ (HT7.out.box) (fun hHeld => ?_)
        clear hK K
        (try simp only [Act.put, List.setIfInBounds_toArray, List.set_cons_zero, List.set_cons_succ])
        refine wpAnyT_one (i := 9) (o := ⟨some 22, _, _, _, _, _⟩) (by kernel_rfl) rfl (fun K hK => ?_)
        go_simp
        go_at_call 21
        refine (HLEN.out w7 HT7.out.bel).mono ?_
        rintro e w8 ⟨rfl, hw8⟩
        have hb8 : Below w7.heap.size w7 w8 := by rw [hw8]; exact Below.newly' _ _
        have HT8 := Lib.hid (HT7.out.later hb8)
        have HL8 := Lib.hid (HL7.out.later hb8)
        clear hw8 hb8
        (try dsimp only)
        refine hK.out _ _ (HT8.out.box) (fun hHeld => ?_)
        clear hK K
        (try simp only [Act.put, List.setIfInBounds_toArray, List.set_cons_zero, List.set_cons_succ])
        refine wpAnyT_one (i := 10) (o := ⟨some 23, _, _, _, _, _⟩) (by kernel_rfl) rfl (fun K hK => ?_)
        go_simp
        go_at_call 35
        refine (HC2.out w8 HT8.out.bel).mono ?_
        rintro e w9 ⟨cr, rfl, hr9, hb9⟩
        have HT9 := Lib.hid (HT8.out.later hb9)
        have HL9 := Lib.hid (HL8.out.later hb9)
        have HR9 : Hid (Part S W.heap.size [XA, XB] w9 cr l2) := Part.call HT8.out hr9
        clear hr9 hb9
        (try dsimp only)
        refine hK.out _ _ (HT9.out.box) (fun hHeld => ?_)
        clear hK K
        (try simp only [Act.put, List.setIfInBounds_toArray, List.set_cons_zero, List.set_cons_succ])
        refine wpAnyT_last (i := 13) (o := ⟨none, _, _, _, _, _⟩) (by kernel_rfl) (by decide) rfl (fun K hK => ?_)
        refine st_agg_wp 33 _ _ rfl XA cl rfl rfl 33 _ (HT9.out.xs XA (by simp)).2.2 (by rw [HL9.out.root.size]; exact rnode_size) (by rw [HL9.out.root.size]; rfl) HL9.out.root.one ?_
        intro wa ha ka
        refine hK.out _ _ ?_
        clear hK K
        (try simp only [Act.put, List.setIfInBounds_toArray, List.set_cons_zero, List.set_cons_succ])
        refine wpAnyT_last (i := 14) (o := ⟨none, _, _, _, _, _⟩) (by kernel_rfl) (by decide) rfl (fun K hK => ?_)
        refine st_agg_wp 33 _ _ rfl XB cr rfl rfl 33 _ (ka.other (HT9.out.xs XB (by simp)).2.2 (fun e => HNE.out e.symm)) (by rw [HR9.out.root.size]; exact rnode_size) (by rw [HR9.out.root.size]; rfl) HR9.out.root.one ?_
        intro wb hb kb
        refine hK.out _ _ ?_
        clear hK K
        (try simp only [Act.put, List.setIfInBounds_toArray, List.set_cons_zero, List.set_cons_succ])
        refine wpAnyT_done (by kernel_rfl) ?_ _
        have HXA : Hid (wb.heap[XA]? = some (.cells cl 33 (0, 0))) := kb.other ha HNE.out
        have HXB : Hid (wb.heap[XB]? = some (.cells cr 33 (0, 0))) := hb
        have hxa := (HT9.out.xs XA (by simp)).1
        have hxb := (HT9.out.xs XB (by simp)).1
        have HYB : Hid (wb.heap[W.heap.size + 1]? = some (.cells #[.int .i64 0, .int .i64 0, .slice none 0 0, .slice none 0 0] 35 (0, 0))) := kb.other (ka.other HT9.out.res (by omega)) (by omega)
        have HBB : Hid (Below W.heap.size W wb) := (HT9.out.bel.trans (ka.below (by omega))).trans (kb.below (by omega))
        have HZB : Hid (W.heap.size + 2 ≤ wb.heap.size) := by show _ ≤ _; have := HT9.out.siz; rw [kb.size, ka.size]; exact this
        have HLr := Lib.hid ((HL9.out.store ka (by simp)).store kb (by simp)).root
        have HRr := Lib.hid ((HR9.out.store ka (by simp)).store kb (by simp)).root
        have HCL := Lib.hid HLr.out.size
        have HCR := Lib.hid HRr.out.size
        clear ha hb ka kb hxa hxb
        go_wp2_with (first
          | (refine ld_if rfl 33 _ rfl XA rfl 33 _ _ _ HXA.out Try.underlying33 rfl (by rw [HCL.out]; exact rnode_size) ?_)
          | (refine ld_if rfl 33 _ rfl XB rfl 33 _ _ _ HXB.out Try.underlying33 rfl (by rw [HCR.out]; exact rnode_size) ?_)
          | (go_at_call 37
             refine (rp_concat wb HLr.out HRr.out HCAT.out).mono ?_
             rintro e wc ⟨cc, rfl, hrc, hbc⟩
             obtain ⟨y0, y1, q1, n1, c1, q2, n2, c2, rfl⟩ := hrc.four
             have HRC := Lib.hid hrc
             have HYC := Lib.hid ((hbc.block (W.heap.size + 1) (by have := HZB.out; omega)).trans HYB.out)
             have HBC := Lib.hid (HBB.out.trans (hbc.mono (by have := HZB.out; omega)))
             clear hrc hbc)
          | (refine st_agg rfl 35 _ _ rfl (W.heap.size + 1) _ rfl rfl 35 _ HYC.out rope_size rfl (one4 rfl rfl rfl rfl) ?_; intro wd hd kd))
        refine bodyPost_ret (results_cell_row1 rfl _ _ (W.heap.size + 1) 35 _ (0, 0) _ rfl hd Try.underlying35 rfl rope_size) rfl ⟨_, rfl, ?_, HBC.out.trans (kd.below (by omega))⟩
        have hzb := HZB.out
        refine (HRC.out.kept kd.by_ (fun X e => by cases e; rintro ((⟨_, h⟩ | h) | h) <;> omega)).weak fun g hg => ?_
        rcases hg with (hg | hg) | hg
        · exact .inl hg.1
        · exact .inr (by omega)
        · exact .inr (by omega)
  · go_simp
    obtain ⟨XA, hXA⟩ : ∃ X, X = w4.heap.size := ⟨_, rfl⟩
    obtain ⟨w5, hw5⟩ : ∃ w, w = w4.alloc (.cells #[.int .i64 0, .int .i64 0, .slice none 0 0, .slice none 0 0] 33) := ⟨_, rfl⟩
    have HT5 : Hid (St19 W.heap.size c W (XA :: []) w5) := by show St19 _ _ _ _ _; rw [hw5, hXA]; exact HT4.out.alloc
    rw [← hXA, ← hw5]
    clear hw5 hXA
    (try dsimp only)
    refine hK.out _ _ (HT5.out.box) (fun hHeld => ?_)
    clear hK K
    (try simp only [Act.put, List.setIfInBounds_toArray, List.set_cons_zero, List.set_cons_succ])
    refine wpAnyT_ready (rs := [3, 12]) (by kernel_rfl) (by decide) (AllT.cons (o := ⟨some 16, _, _, _, _, _⟩) rfl (fun K hK => ?_) (AllT.cons (o := ⟨some 7, _, _, _, _, _⟩) rfl (fun K hK => ?_) AllT.nil))
    · go_simp
      go_at_call 35
      refine (HC1.out w5 HT5.out.bel).mono ?_
      rintro e w6 ⟨cl, rfl, hr6, hb6⟩
      have HT6 := Lib.hid (HT5.out.later hb6)
      have HL6 : Hid (Part S W.heap.size [XA] w6 cl l1) := Part.call HT5.out hr6
      clear hr6 hb6
      (try dsimp only)
      refine hK.out _ _ (HT6.out.box) (fun hHeld => ?_)
      clear hK K
      (try simp only [Act.put, List.setIfInBounds_toArray, List.set_cons_zero, List.set_cons_succ])
      refine wpAnyT_ready (rs := [9, 12]) (by kernel_rfl) (by decide) (AllT.cons (o := ⟨some 22, _, _, _, _, _⟩) rfl (fun K hK => ?_) (AllT.cons (o := ⟨some 7, _, _, _, _, _⟩) rfl (fun K hK => ?_) AllT.nil))
      · go_simp
        go_at_call 21
        refine (HLEN.out w6 HT6.out.bel).mono ?_
        rintro e w7 ⟨rfl, hw7⟩
        have hb7 : Below w6.heap.size w6 w7 := by rw [hw7]; exact Below.newly' _ _
        have HT7 := Lib.hid (HT6.out.later hb7)
        have HL7 := Lib.hid (HL6.out.later hb7)
        clear hw7 hb7
        (try dsimp only)
        refine hK.out _ _ (HT7.out.box) (fun hHeld => ?_)
        clear hK K
        (try simp only [Act.put, List.setIfInBounds_toArray, List.set_cons_zero, List.set_cons_succ])
        refine wpAnyT_ready (rs := [10, 12]) (by kernel_rfl) (by decide) (AllT.cons (o := ⟨some 23, _, _, _, _, _⟩) rfl (fun K hK => ?_) (AllT.cons (o := ⟨some 7, _, _, _, _, _⟩) rfl (fun K hK => ?_) AllT.nil))
        · go_simp
          go_at_call 35
          refine (HC2.out w7 HT7.out.bel).mono ?_
          rintro e w8 ⟨cr, rfl, hr8, hb8⟩
          have HT8 := Lib.hid (HT7.out.later hb8)
          have HL8 := Lib.hid (HL7.out.later hb8)
          have HR8 : Hid (Part S W.heap.size [XA] w8 cr l2) := Part.call HT7.out hr8
          clear hr8 hb8
          (try dsimp only)
          refine hK.out _ _ (HT8.out.box) (fun hHeld => ?_)
          clear hK K
          (try simp only [Act.put, List.setIfInBounds_toArray, List.set_cons_zero, List.set_cons_succ])
          refine wpAnyT_one (i := 12) (o := ⟨some 7, _, _, _, _, _⟩) (by kernel_rfl) rfl (fun K hK => ?_)
          go_simp
          obtain ⟨XB, hXB⟩ : ∃ X, X = w8.heap.size := ⟨_, rfl⟩
          obtain ⟨w9, hw9⟩ : ∃ w, w = w8.alloc (.cells #[.int .i64 0, .int .i64 0, .slice none 0 0, .slice none 0 0] 33) := ⟨_, rfl⟩
          have HT9 : Hid (St19 W.heap.size c W (XB :: [XA]) w9) := by show St19 _ _ _ _ _; rw [hw9, hXB]; exact HT8.out.alloc
          have HL9 : Hid (Part S W.heap.size (XB :: [XA]) w9 cl l1) := by show Part _ _ _ _ _ _; rw [hw9, hXB]; exact HL8.out.alloc _
          have HR9 : Hid (Part S W.heap.size (XB :: [XA]) w9 cr l2) := by show Part _ _ _ _ _ _; rw [hw9, hXB]; exact HR8.out.alloc _
          have HNE : Hid (XA ≠ XB) := by show XA ≠ XB; have := (HT8.out.xs XA (by simp)).2.1; omega
          rw [← hXB, ← hw9]
          clear hw9 hXB
          (try dsimp only)
          refine hK.out _ _ (HT9.out.box) (fun hHeld => ?_)
          clear hK K
          (try simp only [Act.put, List.setIfInBounds_toArray, List.set_cons_zero, List.set_cons_succ])
          refine wpAnyT_last (i := 13) (o := ⟨none, _, _, _, _, _⟩) (by kernel_rfl) (by decide) rfl (fun K hK => ?_)
          refine st_agg_wp 33 _ _ rfl XA cl rfl rfl 33 _ (HT9.out.xs XA (by simp)).2.2 (by rw [HL9.out.root.size]; exact rnode_size) (by rw [HL9.out.root.size]; rfl) HL9.out.root.one ?_
          intro wa ha ka
          refine hK.out _ _ ?_
          clear hK K
          (try simp only [Act.put, List.setIfInBounds_toArray, List.set_cons_zero, List.set_cons_succ])
          refine wpAnyT_last (i := 14) (o := ⟨none, _, _, _, _, _⟩) (by kernel_rfl) (by decide) rfl (fun K hK => ?_)
          refine st_agg_wp 33 _ _ rfl XB cr rfl rfl 33 _ (ka.other (HT9.out.xs XB (by simp)).2.2 (fun e => HNE.out e.symm)) (by rw [HR9.out.root.size]; exact rnode_size) (by rw [HR9.out.root.size]; rfl) HR9.out.root.one ?_
          intro wb hb kb
          refine hK.out _ _ ?_
          clear hK K
          (try simp only [Act.put, List.setIfInBounds_toArray, List.set_cons_zero, List.set_cons_succ])
          refine wpAnyT_done (by kernel_rfl) ?_ _
          have HXA : Hid (wb.heap[XA]? = some (.cells cl 33 (0, 0))) := kb.other ha HNE.out
          have HXB : Hid (wb.heap[XB]? = some (.cells cr 33 (0, 0))) := hb
          have hxa := (HT9.out.xs XA (by simp)).1
          have hxb := (HT9.out.xs XB (by simp)).1
          have HYB : Hid (wb.heap[W.heap.size + 1]? = some (.cells #[.int .i64 0, .int .i64 0, .slice none 0 0, .slice none 0 0] 35 (0, 0))) := kb.other (ka.other HT9.out.res (by omega)) (by omega)
          have HBB : Hid (Below W.heap.size W wb) := (HT9.out.bel.trans (ka.below (by omega))).trans (kb.below (by omega))
          have HZB : Hid (W.heap.size + 2 ≤ wb.heap.size) := by show _ ≤ _; have := HT9.out.siz; rw [kb.size, ka.size]; exact this
          have HLr := Lib.hid ((HL9.out.store ka (by simp)).store kb (by simp)).root
          have HRr := Lib.hid ((HR9.out.store ka (by simp)).store kb (by simp)).root
          have HCL := Lib.hid HLr.out.size
          have HCR := Lib.hid HRr.out.size
          clear ha hb ka kb hxa hxb
          go_wp2_with (first
            | (refine ld_if rfl 33 _ rfl XA rfl 33 _ _ _ HXA.out Try.underlying33 rfl (by rw [HCL.out]; exact rnode_size) ?_)
            | (refine ld_if rfl 33 _ rfl XB rfl 33 _ _ _ HXB.out Try.underlying33 rfl (by rw [HCR.out]; exact rnode_size) ?_)
            | (go_at_call 37
               refine (rp_concat wb HLr.out HRr.out HCAT.out).mono ?_
               rintro e wc ⟨cc, rfl, hrc, hbc⟩
               obtain ⟨y0, y1, q1, n1, c1, q2, n2, c2, rfl⟩ := hrc.four
               have HRC := Lib.hid hrc
               have HYC := Lib.hid ((hbc.block (W.heap.size + 1) (by have := HZB.out; omega)).trans HYB.out)
               have HBC := Lib.hid (HBB.out.trans (hbc.mono (by have := HZB.out; omega)))
               clear hrc hbc)
            | (refine st_agg rfl 35 _ _ rfl (W.heap.size + 1) _ rfl rfl 35 _ HYC.out rope_size rfl (one4 rfl rfl rfl rfl) ?_; intro wd hd kd))
          refine bodyPost_ret (results_cell_row1 rfl _ _ (W.heap.size + 1) 35 _ (0, 0) _ rfl hd Try.underlying35 rfl rope_size) rfl ⟨_, rfl, ?_, HBC.out.trans (kd.below (by omega))⟩
          have hzb := HZB.out
          refine (HRC.out.kept kd.by_ (fun X e => by cases e; rintro ((⟨_, h⟩ | h) | h) <;> omega)).weak fun g hg => ?_
          rcases hg with (hg | hg) | hg
          · exact .inl hg.1
          · exact .inr (by omega)
          · exact .inr (by omega)
        · go_simp
          obtain ⟨XB, hXB⟩ : ∃ X, X = w7.heap.size := ⟨_, rfl⟩
          obtain ⟨w8, hw8⟩ : ∃ w, w = w7.alloc (.cells #[.int .i64 0, .int .i64 0, .slice none 0 0, .slice none 0 0] 33) := ⟨_, rfl⟩
          have HT8 : Hid (St19 W.heap.size c W (XB :: [XA]) w8) := by show St19 _ _ _ _ _; rw [hw8, hXB]; exact HT7.out.alloc
          have HL8 : Hid (Part S W.heap.size (XB :: [XA]) w8 cl l1) := by show Part _ _ _ _ _ _; rw [hw8, hXB]; exact HL7.out.alloc _
          have HNE : Hid (XA ≠ XB) := by show XA ≠ XB; have := (HT7.out.xs XA (by simp)).2.1; omega
          rw [← hXB, ← hw8]
          clear hw8 hXB
          (try dsimp only)
          refine hK.out _ _ (HT8.out.box) (fun hHeld => ?_)
          clear hK K
          (try simp only [Act.put, List.setIfInBounds_toArray, List.set_cons_zero, List.set_cons_succ])
          refine wpAnyT_one (i := 10) (o := ⟨some 23, _, _, _, _, _⟩) (by kernel_rfl) rfl (fun K hK => ?_)
          go_simp
          go_at_call 35
          refine (HC2.out w8 HT8.out.bel).mono ?_
          rintro e w9 ⟨cr, rfl, hr9, hb9⟩
          have HT9 := Lib.hid (HT8.out.later hb9)
          have HL9 := Lib.hid (HL8.out.later hb9)
          have HR9 : Hid (Part S W.heap.size [XB, XA] w9 cr l2) := Part.call HT8.out hr9
          clear hr9 hb9
          (try dsimp only)
          refine hK.out _ _ (HT9.out.box) (fun hHeld => ?_)
          clear hK K
          (try simp only [Act.put, List.setIfInBounds_toArray, List.set_cons_zero, List.set_cons_succ])
          refine wpAnyT_last (i := 13) (o := ⟨none, _, _, _, _, _⟩) (by kernel_rfl) (by decide) rfl (fun K hK => ?_)
          refine st_agg_wp 33 _ _ rfl XA cl rfl rfl 33 _ (HT9.out.xs XA (by simp)).2.2 (by rw [HL9.out.root.size]; exact rnode_size) (by rw [HL9.out.root.size]; rfl) HL9.out.root.one ?_
          intro wa ha ka
          refine hK.out _ _ ?_
          clear hK K
          (try simp only [Act.put, List.setIfInBounds_toArray, List.set_cons_zero, List.set_cons_succ])
          refine wpAnyT_last (i := 14) (o := ⟨none, _, _, _, _, _⟩) (by kernel_rfl) (by decide) rfl (fun K hK => ?_)
          refine st_agg_wp 33 _ _ rfl XB cr rfl rfl 33 _ (ka.other (HT9.out.xs XB (by simp)).2.2 (fun e => HNE.out e.symm)) (by rw [HR9.out.root.size]; exact rnode_size) (by rw [HR9.out.root.size]; rfl) HR9.out.root.one ?_
          intro wb hb kb
          refine hK.out _ _ ?_
          clear hK K
          (try simp only [Act.put, List.setIfInBounds_toArray, List.set_cons_zero, List.set_cons_succ])
          refine wpAnyT_done (by kernel_rfl) ?_ _
          have HXA : Hid (wb.heap[XA]? = some (.cells cl 33 (0, 0))) := kb.other ha HNE.out
          have HXB : Hid (wb.heap[XB]? = some (.cells cr 33 (0, 0))) := hb
          have hxa := (HT9.out.xs XA (by simp)).1
          have hxb := (HT9.out.xs XB (by simp)).1
          have HYB : Hid (wb.heap[W.heap.size + 1]? = some (.cells #[.int .i64 0, .int .i64 0, .slice none 0 0, .slice none 0 0] 35 (0, 0))) := kb.other (ka.other HT9.out.res (by omega)) (by omega)
          have HBB : Hid (Below W.heap.size W wb) := (HT9.out.bel.trans (ka.below (by omega))).trans (kb.below (by omega))
          have HZB : Hid (W.heap.size + 2 ≤ wb.heap.size) := by show _ ≤ _; have := HT9.out.siz; rw [kb.size, ka.size]; exact this
          have HLr := Lib.hid ((HL9.out.store ka (by simp)).store kb (by simp)).root
          have HRr := Lib.hid ((HR9.out.store ka (by simp)).store kb (by simp)).root
          have HCL := Lib.hid HLr.out.size
          have HCR := Lib.hid HRr.out.size
          clear ha hb ka kb hxa hxb
          go_wp2_with (first
            | (refine ld_if rfl 33 _ rfl XA rfl 33 _ _ _ HXA.out Try.underlying33 rfl (by rw [HCL.out]; exact rnode_size) ?_)
            | (refine ld_if rfl 33 _ rfl XB rfl 33 _ _ _ HXB.out Try.underlying33 rfl (by rw [HCR.out]; exact rnode_size) ?_)
            | (go_at_call 37
               refine (rp_concat wb HLr.out HRr.out HCAT.out).mono ?_
               rintro e wc ⟨cc, rfl, hrc, hbc⟩
               obtain ⟨y0, y1, q1, n1, c1, q2, n2, c2, rfl⟩ := hrc.four
               have HRC := Lib.hid hrc
               have HYC := Lib.hid ((hbc.block (W.heap.size + 1) (by have := HZB.out; omega)).trans HYB.out)
               have HBC := Lib.hid (HBB.out.trans (hbc.mono (by have := HZB.out; omega)))
               clear hrc hbc)
            | (refine st_agg rfl 35 _ _ rfl (W.heap.size + 1) _ rfl rfl 35 _ HYC.out rope_size rfl (one4 rfl rfl rfl rfl) ?_; intro wd hd kd))
          refine bodyPost_ret (results_cell_row1 rfl _ _ (W.heap.size + 1) 35 _ (0, 0) _ rfl hd Try.underlying35 rfl rope_size) rfl ⟨_, rfl, ?_, HBC.out.trans (kd.below (by omega))⟩
          have hzb := HZB.out
          refine (HRC.out.kept kd.by_ (fun X e => by cases e; rintro ((⟨_, h⟩ | h) | h) <;> omega)).weak fun g hg => ?_
          rcases hg with (hg | hg) | hg
          · exact .inl hg.1
          · exact .inr (by omega)
          · exact .inr (by omega)
      · go_simp
        obtain ⟨XB, hXB⟩ : ∃ X, X = w6.heap.size := ⟨_, rfl⟩
        obtain ⟨w7, hw7⟩ : ∃ w, w = w6.alloc (.cells #[.int .i64 0, .int .i64 0, .slice none 0 0, .slice none 0 0] 33) := ⟨_, rfl⟩
        have HT7 : Hid (St19 W.heap.size c W (XB :: [XA]) w7) := by show St19 _ _ _ _ _; rw [hw7, hXB]; exact HT6.out.alloc
        have HL7 : Hid (Part S W.heap.size (XB :: [XA]) w7 cl l1) := by show Part _ _ _ _ _ _; rw [hw7, hXB]; exact HL6.out.alloc _
        have HNE : Hid (XA ≠ XB) := by show XA ≠ XB; have := (HT6.out.xs XA (by simp)).2.1; omega
        rw [← hXB, ← hw7]
        clear hw7 hXB
        (try dsimp only)
        refine hK.out _ _ (HT7.out.box) (fun hHeld => ?_)
        clear hK K
        (try simp only [Act.put, List.setIfInBounds_toArray, List.set_cons_zero, List.set_cons_succ])
        refine wpAnyT_one (i := 9) (o := ⟨some 22, _, _, _, _, _⟩) (by kernel_rfl) rfl (fun K hK => ?_)
        go_simp
        go_at_call 21
        refine (HLEN.out w7 HT7.out.bel).mono ?_
        rintro e w8 ⟨rfl, hw8⟩
        have hb8 : Below w7.heap.size w7 w8 := by rw [hw8]; exact Below.newly' _ _
        have HT8 := Lib.hid (HT7.out.later hb8)
        have HL8 := Lib.hid (HL7.out.later hb8)
        clear hw8 hb8
        (try dsimp only)
        refine hK.out _ _ (HT8.out.box) (fun hHeld => ?_)
        clear hK K
        (try simp only [Act.put, List.setIfInBounds_toArray, List.set_cons_zero, List.set_cons_succ])
        refine wpAnyT_one (i := 10) (o := ⟨some 23, _, _, _, _, _⟩) (by kernel_rfl) rfl (fun K hK => ?_)
        go_simp
        go_at_call 35
        refine (HC2.out w8 HT8.out.bel).mono ?_
        rintro e w9 ⟨cr, rfl, hr9, hb9⟩
        have HT9 := Lib.hid (HT8.out.later hb9)
        have HL9 := Lib.hid (HL8.out.later hb9)
        have HR9 : Hid (Part S W.heap.size [XB, XA] w9 cr l2) := Part.call HT8.out hr9
        clear hr9 hb9
        (try dsimp only)
        refine hK.out _ _ (HT9.out.box) (fun hHeld => ?_)
        clear hK K
        (try simp only [Act.put, List.setIfInBounds_toArray, List.set_cons_zero, List.set_cons_succ])
        refine wpAnyT_last (i := 13) (o := ⟨none, _, _, _, _, _⟩) (by kernel_rfl) (by decide) rfl (fun K hK => ?_)
        refine st_agg_wp 33 _ _ rfl XA cl rfl rfl 33 _ (HT9.out.xs XA (by simp)).2.2 (by rw [HL9.out.root.size]; exact rnode_size) (by rw [HL9.out.root.size]; rfl) HL9.out.root.one ?_
        intro wa ha ka
        refine hK.out _ _ ?_
        clear hK K
        (try simp only [Act.put, List.setIfInBounds_toArray, List.set_cons_zero, List.set_cons_succ])
        refine wpAnyT_last (i := 14) (o := ⟨none, _, _, _, _, _⟩) (by kernel_rfl) (by decide) rfl (fun K hK => ?_)
        refine st_agg_wp 33 _ _ rfl XB cr rfl rfl 33 _ (ka.other (HT9.out.xs XB (by simp)).2.2 (fun e => HNE.out e.symm)) (by rw [HR9.out.root.size]; exact rnode_size) (by rw [HR9.out.root.size]; rfl) HR9.out.root.one ?_
        intro wb hb kb
        refine hK.out _ _ ?_
        clear hK K
        (try simp only [Act.put, List.setIfInBounds_toArray, List.set_cons_zero, List.set_cons_succ])
        refine wpAnyT_done (by kernel_rfl) ?_ _
        have HXA : Hid (wb.heap[XA]? = some (.cells cl 33 (0, 0))) := kb.other ha HNE.out
        have HXB : Hid (wb.heap[XB]? = some (.cells cr 33 (0, 0))) := hb
        have hxa := (HT9.out.xs XA (by simp)).1
        have hxb := (HT9.out.xs XB (by simp)).1
        have HYB : Hid (wb.heap[W.heap.size + 1]? = some (.cells #[.int .i64 0, .int .i64 0, .slice none 0 0, .slice none 0 0] 35 (0, 0))) := kb.other (ka.other HT9.out.res (by omega)) (by omega)
        have HBB : Hid (Below W.heap.size W wb) := (HT9.out.bel.trans (ka.below (by omega))).trans (kb.below (by omega))
        have HZB : Hid (W.heap.size + 2 ≤ wb.heap.size) := by show _ ≤ _; have := HT9.out.siz; rw [kb.size, ka.size]; exact this
        have HLr := Lib.hid ((HL9.out.store ka (by simp)).store kb (by simp)).root
        have HRr := Lib.hid ((HR9.out.store ka (by simp)).store kb (by simp)).root
        have HCL := Lib.hid HLr.out.size
        have HCR := Lib.hid HRr.out.size
        clear ha hb ka kb hxa hxb
        go_wp2_with (first
          | (refine ld_if rfl 33 _ rfl XA rfl 33 _ _ _ HXA.out Try.underlying33 rfl (by rw [HCL.out]; exact rnode_size) ?_)
          | (refine ld_if rfl 33 _ rfl XB rfl 33 _ _ _ HXB.out Try.underlying33 rfl (by rw [HCR.out]; exact rnode_size) ?_)
          | (go_at_call 37
             refine (rp_concat wb HLr.out HRr.out HCAT.out).mono ?_
             rintro e wc ⟨cc, rfl, hrc, hbc⟩
             obtain ⟨y0, y1, q1, n1, c1, q2, n2, c2, rfl⟩ := hrc.four
             have HRC := Lib.hid hrc
             have HYC := Lib.hid ((hbc.block (W.heap.size + 1) (by have := HZB.out; omega)).trans HYB.out)
             have HBC := Lib.hid (HBB.out.trans (hbc.mono (by have := HZB.out; omega)))
             clear hrc hbc)
          | (refine st_agg rfl 35 _ _ rfl (W.heap.size + 1) _ rfl rfl 35 _ HYC.out rope_size rfl (one4 rfl rfl rfl rfl) ?_; intro wd hd kd))
        refine bodyPost_ret (results_cell_row1 rfl _ _ (W.heap.size + 1) 35 _ (0, 0) _ rfl hd Try.underlying35 rfl rope_size) rfl ⟨_, rfl, ?_, HBC.out.trans (kd.below (by omega))⟩
        have hzb := HZB.out
        refine (HRC.out.kept kd.by_ (fun X e => by cases e; rintro ((⟨_, h⟩ | h) | h) <;> omega)).weak fun g hg => ?_
        rcases hg with (hg | hg) | hg
        · exact .inl hg.1
        · exact .inr (by omega)
        · exact .inr (by omega)
    · go_simp
      obtain ⟨XB, hXB⟩ : ∃ X, X = w5.heap.size := ⟨_, rfl⟩
      obtain ⟨w6, hw6⟩ : ∃ w, w = w5.alloc (.cells #[.int .i64 0, .int .i64 0, .slice none 0 0, .slice none 0 0] 33) := ⟨_, rfl⟩
      have HT6 : Hid (St19 W.heap.size c W (XB :: [XA]) w6) := by show St19 _ _ _ _ _; rw [hw6, hXB]; exact HT5.out.alloc
      have HNE : Hid (XA ≠ XB) := by show XA ≠ XB; have := (HT5.out.xs XA (by simp)).2.1; omega
      rw [← hXB, ← hw6]
      clear hw6 hXB
      (try dsimp only)
      refine hK.out _ _ (HT6.out.box) (fun hHeld => ?_)
      clear hK K
      (try simp only [Act.put, List.setIfInBounds_toArray, List.set_cons_zero, List.set_cons_succ])
      refine wpAnyT_one (i := 3) (o := ⟨some 16, _, _, _, _, _⟩) (by kernel_rfl) rfl (fun K hK => ?_)
      go_simp
      go_at_call 35
      refine (HC1.out w6 HT6.out.bel).mono ?_
      rintro e w7 ⟨cl, rfl, hr7, hb7⟩
      have HT7 := Lib.hid (HT6.out.later hb7)
      have HL7 : Hid (Part S W.heap.size [XB, XA] w7 cl l1) := Part.call HT6.out hr7
      clear hr7 hb7
      (try dsimp only)
      refine hK.out _ _ (HT7.out.box) (fun hHeld => ?_)
      clear hK K
      (try simp only [Act.put, List.setIfInBounds_toArray, List.set_cons_zero, List.set_cons_succ])
      refine wpAnyT_one (i := 9) (o := ⟨some 22, _, _, _, _, _⟩) (by kernel_rfl) rfl (fun K hK => ?_)
      go_simp
      go_at_call 21
      refine (HLEN.out w7 HT7.out.bel).mono ?_
      rintro e w8 ⟨rfl, hw8⟩
      have hb8 : Below w7.heap.size w7 w8 := by rw [hw8]; exact Below.newly' _ _
      have HT8 := Lib.hid (HT7.out.later hb8)
      have HL8 := Lib.hid (HL7.out.later hb8)
      clear hw8 hb8
      (try dsimp only)
      refine hK.out _ _ (HT8.out.box) (fun hHeld => ?_)
      clear hK K
      (try simp only [Act.put, List.setIfInBounds_toArray, List.set_cons_zero, List.set_cons_succ])
      refine wpAnyT_one (i := 10) (o := ⟨some 23, _, _, _, _, _⟩) (by kernel_rfl) rfl (fun K hK => ?_)
      go_simp
      go_at_call 35
      refine (HC2.out w8 HT8.out.bel).mono ?_
      rintro e w9 ⟨cr, rfl, hr9, hb9⟩
      have HT9 := Lib.hid (HT8.out.later hb9)
      have HL9 := Lib.hid (HL8.out.later hb9)
      have HR9 : Hid (Part S W.heap.size [XB, XA] w9 cr l2) := Part.call HT8.out hr9
      clear hr9 hb9
      (try dsimp only)
      refine hK.out _ _ (HT9.out.box) (fun hHeld => ?_)
      clear hK K
      (try simp only [Act.put, List.setIfInBounds_toArray, List.set_cons_zero, List.set_cons_succ])
      refine wpAnyT_last (i := 13) (o := ⟨none, _, _, _, _, _⟩) (by kernel_rfl) (by decide) rfl (fun K hK => ?_)
      refine st_agg_wp 33 _ _ rfl XA cl rfl rfl 33 _ (HT9.out.xs XA (by simp)).2.2 (by rw [HL9.out.root.size]; exact rnode_size) (by rw [HL9.out.root.size]; rfl) HL9.out.root.one ?_
      intro wa ha ka
      refine hK.out _ _ ?_
      clear hK K
      (try simp only [Act.put, List.setIfInBounds_toArray, List.set_cons_zero, List.set_cons_succ])
      refine wpAnyT_last (i := 14) (o := ⟨none, _, _, _, _, _⟩) (by kernel_rfl) (by decide) rfl (fun K hK => ?_)
      refine st_agg_wp 33 _ _ rfl XB cr rfl rfl 33 _ (ka.other (HT9.out.xs XB (by simp)).2.2 (fun e => HNE.out e.symm)) (by rw [HR9.out.root.size]; exact rnode_size) (by rw [HR9.out.root.size]; rfl) HR9.out.root.one ?_
      intro wb hb kb
      refine hK.out _ _ ?_
      clear hK K
      (try simp only [Act.put, List.setIfInBounds_toArray, List.set_cons_zero, List.set_cons_succ])
      refine wpAnyT_done (by kernel_rfl) ?_ _
      have HXA : Hid (wb.heap[XA]? = some (.cells cl 33 (0, 0))) := kb.other ha HNE.out
      have HXB : Hid (wb.heap[XB]? = some (.cells cr 33 (0, 0))) := hb
      have hxa := (HT9.out.xs XA (by simp)).1
      have hxb := (HT9.out.xs XB (by simp)).1
      have HYB : Hid (wb.heap[W.heap.size + 1]? = some (.cells #[.int .i64 0, .int .i64 0, .slice none 0 0, .slice none 0 0] 35 (0, 0))) := kb.other (ka.other HT9.out.res (by omega)) (by omega)
      have HBB : Hid (Below W.heap.size W wb) := (HT9.out.bel.trans (ka.below (by omega))).trans (kb.below (by omega))
      have HZB : Hid (W.heap.size + 2 ≤ wb.heap.size) := by show _ ≤ _; have := HT9.out.siz; rw [kb.size, ka.size]; exact this
      have HLr := Lib.hid ((HL9.out.store ka (by simp)).store kb (by simp)).root
      have HRr := Lib.hid ((HR9.out.store ka (by simp)).store kb (by simp)).root
      have HCL := Lib.hid HLr.out.size
      have HCR := Lib.hid HRr.out.size
      clear ha hb ka kb hxa hxb
      go_wp2_with (first
        | (refine ld_if rfl 33 _ rfl XA rfl 33 _ _ _ HXA.out Try.underlying33 rfl (by rw [HCL.out]; exact rnode_size) ?_)
        | (refine ld_if rfl 33 _ rfl XB rfl 33 _ _ _ HXB.out Try.underlying33 rfl (by rw [HCR.out]; exact rnode_size) ?_)
        | (go_at_call 37
           refine (rp_concat wb HLr.out HRr.out HCAT.out).mono ?_
           rintro e wc ⟨cc, rfl, hrc, hbc⟩
           obtain ⟨y0, y1, q1, n1, c1, q2, n2, c2, rfl⟩ := hrc.four
           have HRC := Lib.hid hrc
           have HYC := Lib.hid ((hbc.block (W.heap.size + 1) (by have := HZB.out; omega)).trans HYB.out)
           have HBC := Lib.hid (HBB.out.trans (hbc.mono (by have := HZB.out; omega)))
           clear hrc hbc)
        | (refine st_agg rfl 35 _ _ rfl (W.heap.size + 1) _ rfl rfl 35 _ HYC.out rope_size rfl (one4 rfl rfl rfl rfl) ?_; intro wd hd kd))
      refine bodyPost_ret (results_cell_row1 rfl _ _ (W.heap.size + 1) 35 _ (0, 0) _ rfl hd Try.underlying35 rfl rope_size) rfl ⟨_, rfl, ?_, HBC.out.trans (kd.below (by omega))⟩
      have hzb := HZB.out
      refine (HRC.out.kept kd.by_ (fun X e => by cases e; rintro ((⟨_, h⟩ | h) | h) <;> omega)).weak fun g hg => ?_
      rcases hg with (hg | hg) | hg
      · exact .inl hg.1
      · exact .inr (by omega)
      · exact .inr (by omega)
  · go_simp
    obtain ⟨XB, hXB⟩ : ∃ X, X = w4.heap.size := ⟨_, rfl⟩
    obtain ⟨w5, hw5⟩ : ∃ w, w = w4.alloc (.cells #[.int .i64 0, .int .i64 0, .slice none 0 0, .slice none 0 0] 33) := ⟨_, rfl⟩
    have HT5 : Hid (St19 W.heap.size c W (XB :: []) w5) := by show St19 _ _ _ _ _; rw [hw5, hXB]; exact HT4.out.alloc
    rw [← hXB, ← hw5]
    clear hw5 hXB
    (try dsimp only)
    refine hK.out _ _ (HT5.out.box) (fun hHeld => ?_)
    clear hK K
    (try simp only [Act.put, List.setIfInBounds_toArray, List.set_cons_zero, List.set_cons_succ])
    refine wpAnyT_ready (rs := [3, 11]) (by kernel_rfl) (by decide) (AllT.cons (o := ⟨some 16, _, _, _, _, _⟩) rfl (fun K hK => ?_) (AllT.cons (o := ⟨some 6, _, _, _, _, _⟩) rfl (fun K hK => ?_) AllT.nil))
    · go_simp
      go_at_call 35
      refine (HC1.out w5 HT5.out.bel).mono ?_
      rintro e w6 ⟨cl, rfl, hr6, hb6⟩
      have HT6 := Lib.hid (HT5.out.later hb6)
      have HL6 : Hid (Part S W.heap.size [XB] w6 cl l1) := Part.call HT5.out hr6
      clear hr6 hb6
      (try dsimp only)
      refine hK.out _ _ (HT6.out.box) (fun hHeld => ?_)
      clear hK K
      (try simp only [Act.put, List.setIfInBounds_toArray, List.set_cons_zero, List.set_cons_succ])
      refine wpAnyT_ready (rs := [9, 11]) (by kernel_rfl) (by decide) (AllT.cons (o := ⟨some 22, _, _, _, _, _⟩) rfl (fun K hK => ?_) (AllT.cons (o := ⟨some 6, _, _, _, _, _⟩) rfl (fun K hK => ?_) AllT.nil))
      · go_simp
        go_at_call 21
        refine (HLEN.out w6 HT6.out.bel).mono ?_
        rintro e w7 ⟨rfl, hw7⟩
        have hb7 : Below w6.heap.size w6 w7 := by rw [hw7]; exact Below.newly' _ _
        have HT7 := Lib.hid (HT6.out.later hb7)
        have HL7 := Lib.hid (HL6.out.later hb7)
        clear hw7 hb7
        (try dsimp only)
        refine hK.out _ _ (HT7.out.box) (fun hHeld => ?_)
        clear hK K
        (try simp only [Act.put, List.setIfInBounds_toArray, List.set_cons_zero, List.set_cons_succ])
        refine wpAnyT_ready (rs := [10, 11]) (by kernel_rfl) (by decide) (AllT.cons (o := ⟨some 23, _, _, _, _, _⟩) rfl (fun K hK => ?_) (AllT.cons (o := ⟨some 6, _, _, _, _, _⟩) rfl (fun K hK => ?_) AllT.nil))
        · go_simp
          go_at_call 35
          refine (HC2.out w7 HT7.out.bel).mono ?_
          rintro e w8 ⟨cr, rfl, hr8, hb8⟩
          have HT8 := Lib.hid (HT7.out.later hb8)
          have HL8 := Lib.hid (HL7.out.later hb8)
          have HR8 : Hid (Part S W.heap.size [XB] w8 cr l2) := Part.call HT7.out hr8
          clear hr8 hb8
          (try dsimp only)
          refine hK.out _ _ (HT8.out.box) (fun hHeld => ?_)
          clear hK K
          (try simp only [Act.put, List.setIfInBounds_toArray, List.set_cons_zero, List.set_cons_succ])
          refine wpAnyT_one (i := 11) (o := ⟨some 6, _, _, _, _, _⟩) (by kernel_rfl) rfl (fun K hK => ?_)
          go_simp
          obtain ⟨XA, hXA⟩ : ∃ X, X = w8.heap.size := ⟨_, rfl⟩
          obtain ⟨w9, hw9⟩ : ∃ w, w = w8.alloc (.cells #[.int .i64 0, .int .i64 0, .slice none 0 0, .slice none 0 0] 33) := ⟨_, rfl⟩
          have HT9 : Hid (St19 W.heap.size c W (XA :: [XB]) w9) := by show St19 _ _ _ _ _; rw [hw9, hXA]; exact HT8.out.alloc
          have HL9 : Hid (Part S W.heap.size (XA :: [XB]) w9 cl l1) := by show Part _ _ _ _ _ _; rw [hw9, hXA]; exact HL8.out.alloc _
          have HR9 : Hid (Part S W.heap.size (XA :: [XB]) w9 cr l2) := by show Part _ _ _ _ _ _; rw [hw9, hXA]; exact HR8.out.alloc _
          have HNE : Hid (XA ≠ XB) := by show XA ≠ XB; have := (HT8.out.xs XB (by simp)).2.1; omega
          rw [← hXA, ← hw9]
          clear hw9 hXA
          (try dsimp only)
          refine hK.out _ _ (HT9.out.box) (fun hHeld => ?_)
          clear hK K
          (try simp only [Act.put, List.setIfInBounds_toArray, List.set_cons_zero, List.set_cons_succ])
          refine wpAnyT_last (i := 13) (o := ⟨none, _, _, _, _, _⟩) (by kernel_rfl) (by decide) rfl (fun K hK => ?_)
          refine st_agg_wp 33 _ _ rfl XA cl rfl rfl 33 _ (HT9.out.xs XA (by simp)).2.2 (by rw [HL9.out.root.size]; exact rnode_size) (by rw [HL9.out.root.size]; rfl) HL9.out.root.one ?_
          intro wa ha ka
          refine hK.out _ _ ?_
          clear hK K
          (try simp only [Act.put, List.setIfInBounds_toArray, List.set_cons_zero, List.set_cons_succ])
          refine wpAnyT_last (i := 14) (o := ⟨none, _, _, _, _, _⟩) (by kernel_rfl) (by decide) rfl (fun K hK => ?_)
          refine st_agg_wp 33 _ _ rfl XB cr rfl rfl 33 _ (ka.other (HT9.out.xs XB (by simp)).2.2 (fun e => HNE.out e.symm)) (by rw [HR9.out.root.size]; exact rnode_size) (by rw [HR9.out.root.size]; rfl) HR9.out.root.one ?_
          intro wb hb kb
          refine hK.out _ _ ?_
          clear hK K
          (try simp only [Act.put, List.setIfInBounds_toArray, List.set_cons_zero, List.set_cons_succ])
          refine wpAnyT_done (by kernel_rfl) ?_ _
          have HXA : Hid (wb.heap[XA]? = some (.cells cl 33 (0, 0))) := kb.other ha HNE.out
          have HXB : Hid (wb.heap[XB]? = some (.cells cr 33 (0, 0))) := hb
          have hxa := (HT9.out.xs XA (by simp)).1
          have hxb := (HT9.out.xs XB (by simp)).1
          have HYB : Hid (wb.heap[W.heap.size + 1]? = some (.cells #[.int .i64 0, .int .i64 0, .slice none 0 0, .slice none 0 0] 35 (0, 0))) := kb.other (ka.other HT9.out.res (by omega)) (by omega)
          have HBB : Hid (Below W.heap.size W wb) := (HT9.out.bel.trans (ka.below (by omega))).trans (kb.below (by omega))
          have HZB : Hid (W.heap.size + 2 ≤ wb.heap.size) := by show _ ≤ _; have := HT9.out.siz; rw [kb.size, ka.size]; exact this
          have HLr := Lib.hid ((HL9.out.store ka (by simp)).store kb (by simp)).root
          have HRr := Lib.hid ((HR9.out.store ka (by simp)).store kb (by simp)).root
          have HCL := Lib.hid HLr.out.size
          have HCR := Lib.hid HRr.out.size
          clear ha hb ka kb hxa hxb
          go_wp2_with (first
            | (refine ld_if rfl 33 _ rfl XA rfl 33 _ _ _ HXA.out Try.underlying33 rfl (by rw [HCL.out]; exact rnode_size) ?_)
            | (refine ld_if rfl 33 _ rfl XB rfl 33 _ _ _ HXB.out Try.underlying33 rfl (by rw [HCR.out]; exact rnode_size) ?_)
            | (go_at_call 37
               refine (rp_concat wb HLr.out HRr.out HCAT.out).mono ?_
               rintro e wc ⟨cc, rfl, hrc, hbc⟩
               obtain ⟨y0, y1, q1, n1, c1, q2, n2, c2, rfl⟩ := hrc.four
               have HRC := Lib.hid hrc
               have HYC := Lib.hid ((hbc.block (W.heap.size + 1) (by have := HZB.out; omega)).trans HYB.out)
               have HBC := Lib.hid (HBB.out.trans (hbc.mono (by have := HZB.out; omega)))
               clear hrc hbc)
            | (refine st_agg rfl 35 _ _ rfl (W.heap.size + 1) _ rfl rfl 35 _ HYC.out rope_size rfl (one4 rfl rfl rfl rfl) ?_; intro wd hd kd))
          refine bodyPost_ret (results_cell_row1 rfl _ _ (W.heap.size + 1) 35 _ (0, 0) _ rfl hd Try.underlying35 rfl rope_size) rfl ⟨_, rfl, ?_, HBC.out.trans (kd.below (by omega))⟩
          have hzb := HZB.out
          refine (HRC.out.kept kd.by_ (fun X e => by cases e; rintro ((⟨_, h⟩ | h) | h) <;> omega)).weak fun g hg => ?_
          rcases hg with (hg | hg) | hg
          · exact .inl hg.1
          · exact .inr (by omega)
          · exact .inr (by omega)
        · go_simp
          obtain ⟨XA, hXA⟩ : ∃ X, X = w7.heap.size := ⟨_, rfl⟩
          obtain ⟨w8, hw8⟩ : ∃ w, w = w7.alloc (.cells #[.int .i64 0, .int .i64 0, .slice none 0 0, .slice none 0 0] 33) := ⟨_, rfl⟩
          have HT8 : Hid (St19 W.heap.size c W (XA :: [XB]) w8) := by show St19 _ _ _ _ _; rw [hw8, hXA]; exact HT7.out.alloc
          have HL8 : Hid (Part S W.heap.size (XA :: [XB]) w8 cl l1) := by show Part _ _ _ _ _ _; rw [hw8, hXA]; exact HL7.out.alloc _
          have HNE : Hid (XA ≠ XB) := by show XA ≠ XB; have := (HT7.out.xs XB (by simp)).2.1; omega
          rw [← hXA, ← hw8]
          clear hw8 hXA
          (try dsimp only)
          refine hK.out _ _ (HT8.out.box) (fun hHeld => ?_)
          clear hK K
          (try simp only [Act.put, List.setIfInBounds_toArray, List.set_cons_zero, List.set_cons_succ])
          refine wpAnyT_one (i := 10) (o := ⟨some 23, _, _, _, _, _⟩) (by kernel_rfl) rfl (fun K hK => ?_)
          go_simp
          go_at_call 35
          refine (HC2.out w8 HT8.out.bel).mono ?_
          rintro e w9 ⟨cr, rfl, hr9, hb9⟩
          have HT9 := Lib.hid (HT8.out.later hb9)
          have HL9 := Lib.hid (HL8.out.later hb9)
          have HR9 : Hid (Part S W.heap.size [XA, XB] w9 cr l2) := Part.call HT8.out hr9
          clear hr9 hb9
          (try dsimp only)
          refine hK.out _ _ (HT9.out.box) (fun hHeld => ?_)
          clear hK K
          (try simp only [Act.put, List.setIfInBounds_toArray, List.set_cons_zero, List.set_cons_succ])
          refine wpAnyT_last (i := 13) (o := ⟨none, _, _, _, _, _⟩) (by kernel_rfl) (by decide) rfl (fun K hK => ?_)
          refine st_agg_wp 33 _ _ rfl XA cl rfl rfl 33 _ (HT9.out.xs XA (by simp)).2.2 (by rw [HL9.out.root.size]; exact rnode_size) (by rw [HL9.out.root.size]; rfl) HL9.out.root.one ?_
          intro wa ha ka
          refine hK.out _ _ ?_
          clear hK K
          (try simp only [Act.put, List.setIfInBounds_toArray, List.set_cons_zero, List.set_cons_succ])
          refine wpAnyT_last (i := 14) (o := ⟨none, _, _, _, _, _⟩) (by kernel_rfl) (by decide) rfl (fun K hK => ?_)
          refine st_agg_wp 33 _ _ rfl XB cr rfl rfl 33 _ (ka.other (HT9.out.xs XB (by simp)).2.2 (fun e => HNE.out e.symm)) (by rw [HR9.out.root.size]; exact rnode_size) (by rw [HR9.out.root.size]; rfl) HR9.out.root.one ?_
          intro wb hb kb
          refine hK.out _ _ ?_
          clear hK K
          (try simp only [Act.put, List.setIfInBounds_toArray, List.set_cons_zero, List.set_cons_succ])
          refine wpAnyT_done (by kernel_rfl) ?_ _
          have HXA : Hid (wb.heap[XA]? = some (.cells cl 33 (0, 0))) := kb.other ha HNE.out
          have HXB : Hid (wb.heap[XB]? = some (.cells cr 33 (0, 0))) := hb
          have hxa := (HT9.out.xs XA (by simp)).1
          have hxb := (HT9.out.xs XB (by simp)).1
          have HYB : Hid (wb.heap[W.heap.size + 1]? = some (.cells #[.int .i64 0, .int .i64 0, .slice none 0 0, .slice none 0 0] 35 (0, 0))) := kb.other (ka.other HT9.out.res (by omega)) (by omega)
          have HBB : Hid (Below W.heap.size W wb) := (HT9.out.bel.trans (ka.below (by omega))).trans (kb.below (by omega))
          have HZB : Hid (W.heap.size + 2 ≤ wb.heap.size) := by show _ ≤ _; have := HT9.out.siz; rw [kb.size, ka.size]; exact this
          have HLr := Lib.hid ((HL9.out.store ka (by simp)).store kb (by simp)).root
          have HRr := Lib.hid ((HR9.out.store ka (by simp)).store kb (by simp)).root
          have HCL := Lib.hid HLr.out.size
          have HCR := Lib.hid HRr.out.size
          clear ha hb ka kb hxa hxb
          go_wp2_with (first
            | (refine ld_if rfl 33 _ rfl XA rfl 33 _ _ _ HXA.out Try.underlying33 rfl (by rw [HCL.out]; exact rnode_size) ?_)
            | (refine ld_if rfl 33 _ rfl XB rfl 33 _ _ _ HXB.out Try.underlying33 rfl (by rw [HCR.out]; exact rnode_size) ?_)
            | (go_at_call 37
               refine (rp_concat wb HLr.out HRr.out HCAT.out).mono ?_
               rintro e wc ⟨cc, rfl, hrc, hbc⟩
               obtain ⟨y0, y1, q1, n1, c1, q2, n2, c2, rfl⟩ := hrc.four
               have HRC := Lib.hid hrc
               have HYC := Lib.hid ((hbc.block (W.heap.size + 1) (by have := HZB.out; omega)).trans HYB.out)
               have HBC := Lib.hid (HBB.out.trans (hbc.mono (by have := HZB.out; omega)))
               clear hrc hbc)
            | (refine st_agg rfl 35 _ _ rfl (W.heap.size + 1) _ rfl rfl 35 _ HYC.out rope_size rfl (one4 rfl rfl rfl rfl) ?_; intro wd hd kd))
          refine bodyPost_ret (results_cell_row1 rfl _ _ (W.heap.size + 1) 35 _ (0, 0) _ rfl hd Try.underlying35 rfl rope_size) rfl ⟨_, rfl, ?_, HBC.out.trans (kd.below (by omega))⟩
          have hzb := HZB.out
          refine (HRC.out.kept kd.by_ (fun X e => by cases e; rintro ((⟨_, h⟩ | h) | h) <;> omega)).weak fun g hg => ?_
          rcases hg with (hg | hg) | hg
          · exact .inl hg.1
          · exact .inr (by omega)
          · exact .inr (by omega)
      · go_simp
        obtain ⟨XA, hXA⟩ : ∃ X, X = w6.heap.size := ⟨_, rfl⟩
        obtain ⟨w7, hw7⟩ : ∃ w, w = w6.alloc (.cells #[.int .i64 0, .int .i64 0, .slice none 0 0, .slice none 0 0] 33) := ⟨_, rfl⟩
        have HT7 : Hid (St19 W.heap.size c W (XA :: [XB]) w7) := by show St19 _ _ _ _ _; rw [hw7, hXA]; exact HT6.out.alloc
        have HL7 : Hid (Part S W.heap.size (XA :: [XB]) w7 cl l1) := by show Part _ _ _ _ _ _; rw [hw7, hXA]; exact HL6.out.alloc _
        have HNE : Hid (XA ≠ XB) := by show XA ≠ XB; have := (HT6.out.xs XB (by simp)).2.1; omega
        rw [← hXA, ← hw7]
        clear hw7 hXA
        (try dsimp only)
        refine hK.out _ _ (HT7.out.box) (fun hHeld => ?_)
        clear hK K
        (try simp only [Act.put, List.setIfInBounds_toArray, List.set_cons_zero, List.set_cons_succ])
        refine wpAnyT_one (i := 9) (o := ⟨some 22, _, _, _, _, _⟩) (by kernel_rfl) rfl (fun K hK => ?_)
        go_simp
        go_at_call 21
        refine (HLEN.out w7 HT7.out.bel).mono ?_
        rintro e w8 ⟨rfl, hw8⟩
        have hb8 : Below w7.heap.size w7 w8 := by rw [hw8]; exact Below.newly' _ _
        have HT8 := Lib.hid (HT7.out.later hb8)
        have HL8 := Lib.hid (HL7.out.later hb8)
        clear hw8 hb8
        (try dsimp only)
        refine hK.out _ _ (HT8.out.box) (fun hHeld => ?_)
        clear hK K
        (try simp only [Act.put, List.setIfInBounds_toArray, List.set_cons_zero, List.set_cons_succ])
        refine wpAnyT_one (i := 10) (o := ⟨some 23, _, _, _, _, _⟩) (by kernel_rfl) rfl (fun K hK => ?_)
        go_simp
        go_at_call 35
        refine (HC2.out w8 HT8.out.bel).mono ?_
        rintro e w9 ⟨cr, rfl, hr9, hb9⟩
        have HT9 := Lib.hid (HT8.out.later hb9)
        have HL9 := Lib.hid (HL8.out.later hb9)
        have HR9 : Hid (Part S W.heap.size [XA, XB] w9 cr l2) := Part.call HT8.out hr9
        clear hr9 hb9
        (try dsimp only)
        refine hK.out _ _ (HT9.out.box) (fun hHeld => ?_)
        clear hK K
        (try simp only [Act.put, List.setIfInBounds_toArray, List.set_cons_zero, List.set_cons_succ])
        refine wpAnyT_last (i := 13) (o := ⟨none, _, _, _, _, _⟩) (by kernel_rfl) (by decide) rfl (fun K hK => ?_)
        refine st_agg_wp 33 _ _ rfl XA cl rfl rfl 33 _ (HT9.out.xs XA (by simp)).2.2 (by rw [HL9.out.root.size]; exact rnode_size) (by rw [HL9.out.root.size]; rfl) HL9.out.root.one ?_
        intro wa ha ka
        refine hK.out _ _ ?_
        clear hK K
        (try simp only [Act.put, List.setIfInBounds_toArray, List.set_cons_zero, List.set_cons_succ])
        refine wpAnyT_last (i := 14) (o := ⟨none, _, _, _, _, _⟩) (by kernel_rfl) (by decide) rfl (fun K hK => ?_)
        refine st_agg_wp 33 _ _ rfl XB cr rfl rfl 33 _ (ka.other (HT9.out.xs XB (by simp)).2.2 (fun e => HNE.out e.symm)) (by rw [HR9.out.root.size]; exact rnode_size) (by rw [HR9.out.root.size]; rfl) HR9.out.root.one ?_
        intro wb hb kb
        refine hK.out _ _ ?_
        clear hK K
        (try simp only [Act.put, List.setIfInBounds_toArray, List.set_cons_zero, List.set_cons_succ])
        refine wpAnyT_done (by kernel_rfl) ?_ _
        have HXA : Hid (wb.heap[XA]? = some (.cells cl 33 (0, 0))) := kb.other ha HNE.out
        have HXB : Hid (wb.heap[XB]? = some (.cells cr 33 (0, 0))) := hb
        have hxa := (HT9.out.xs XA (by simp)).1
        have hxb := (HT9.out.xs XB (by simp)).1
        have HYB : Hid (wb.heap[W.heap.size + 1]? = some (.cells #[.int .i64 0, .int .i64 0, .slice none 0 0, .slice none 0 0] 35 (0, 0))) := kb.other (ka.other HT9.out.res (by omega)) (by omega)
        have HBB : Hid (Below W.heap.size W wb) := (HT9.out.bel.trans (ka.below (by omega))).trans (kb.below (by omega))
        have HZB : Hid (W.heap.size + 2 ≤ wb.heap.size) := by show _ ≤ _; have := HT9.out.siz; rw [kb.size, ka.size]; exact this
        have HLr := Lib.hid ((HL9.out.store ka (by simp)).store kb (by simp)).root
        have HRr := Lib.hid ((HR9.out.store ka (by simp)).store kb (by simp)).root
        have HCL := Lib.hid HLr.out.size
        have HCR := Lib.hid HRr.out.size
        clear ha hb ka kb hxa hxb
        go_wp2_with (first
          | (refine ld_if rfl 33 _ rfl XA rfl 33 _ _ _ HXA.out Try.underlying33 rfl (by rw [HCL.out]; exact rnode_size) ?_)
          | (refine ld_if rfl 33 _ rfl XB rfl 33 _ _ _ HXB.out Try.underlying33 rfl (by rw [HCR.out]; exact rnode_size) ?_)
          | (go_at_call 37
             refine (rp_concat wb HLr.out HRr.out HCAT.out).mono ?_
             rintro e wc ⟨cc, rfl, hrc, hbc⟩
             obtain ⟨y0, y1, q1, n1, c1, q2, n2, c2, rfl⟩ := hrc.four
             have HRC := Lib.hid hrc
             have HYC := Lib.hid ((hbc.block (W.heap.size + 1) (by have := HZB.out; omega)).trans HYB.out)
             have HBC := Lib.hid (HBB.out.trans (hbc.mono (by have := HZB.out; omega)))
             clear hrc hbc)
          | (refine st_agg rfl 35 _ _ rfl (W.heap.size + 1) _ rfl rfl 35 _ HYC.out rope_size rfl (one4 rfl rfl rfl rfl) ?_; intro wd hd kd))
        refine bodyPost_ret (results_cell_row1 rfl _ _ (W.heap.size + 1) 35 _ (0, 0) _ rfl hd Try.underlying35 rfl rope_size) rfl ⟨_, rfl, ?_, HBC.out.trans (kd.below (by omega))⟩
        have hzb := HZB.out
        refine (HRC.out.kept kd.by_ (fun X e => by cases e; rintro ((⟨_, h⟩ | h) | h) <;> omega)).weak fun g hg => ?_
        rcases hg with (hg | hg) | hg
        · exact .inl hg.1
        · exact .inr (by omega)
        · exact .inr (by omega)
    · go_simp
      obtain ⟨XA, hXA⟩ : ∃ X, X = w5.heap.size := ⟨_, rfl⟩
      obtain ⟨w6, hw6⟩ : ∃ w, w = w5.alloc (.cells #[.int .i64 0, .int .i64 0, .slice none 0 0, .slice none 0 0] 33) := ⟨_, rfl⟩
      have HT6 : Hid (St19 W.heap.size c W (XA :: [XB]) w6) := by show St19 _ _ _ _ _; rw [hw6, hXA]; exact HT5.out.alloc
      have HNE : Hid (XA ≠ XB) := by show XA ≠ XB; have := (HT5.out.xs XB (by simp)).2.1; omega
      rw [← hXA, ← hw6]
      clear hw6 hXA
      (try dsimp only)
      refine hK.out _ _ (HT6.out.box) (fun hHeld => ?_)
      clear hK K
      (try simp only [Act.put, List.setIfInBounds_toArray, List.set_cons_zero, List.set_cons_succ])
      refine wpAnyT_one (i := 3) (o := ⟨some 16, _, _, _, _, _⟩) (by kernel_rfl) rfl (fun K hK => ?_)
      go_simp
      go_at_call 35
      refine (HC1.out w6 HT6.out.bel).mono ?_
      rintro e w7 ⟨cl, rfl, hr7, hb7⟩
      have HT7 := Lib.hid (HT6.out.later hb7)
      have HL7 : Hid (Part S W.heap.size [XA, XB] w7 cl l1) := Part.call HT6.out hr7
      clear hr7 hb7
      (try dsimp only)
      refine hK.out _ _ (HT7.out.box) (fun hHeld => ?_)
      clear hK K
      (try simp only [Act.put, List.setIfInBounds_toArray, List.set_cons_zero, List.set_cons_succ])
      refine wpAnyT_one (i := 9) (o := ⟨some 22, _, _, _, _, _⟩) (by kernel_rfl) rfl (fun K hK => ?_)
      go_simp
      go_at_call 21
      refine (HLEN.out w7 HT7.out.bel).mono ?_
      rintro e w8 ⟨rfl, hw8⟩
      have hb8 : Below w7.heap.size w7 w8 := by rw [hw8]; exact Below.newly' _ _
      have HT8 := Lib.hid (HT7.out.later hb8)
      have HL8 := Lib.hid (HL7.out.later hb8)
      clear hw8 hb8
      (try dsimp only)
      refine hK.out _ _ (HT8.out.box) (fun hHeld => ?_)
      clear hK K
      (try simp only [Act.put, List.setIfInBounds_toArray, List.set_cons_zero, List.set_cons_succ])
      refine wpAnyT_one (i := 10) (o := ⟨some 23, _, _, _, _, _⟩) (by kernel_rfl) rfl (fun K hK => ?_)
      go_simp
      go_at_call 35
      refine (HC2.out w8 HT8.out.bel).mono ?_
      rintro e w9 ⟨cr, rfl, hr9, hb9⟩
      have HT9 := Lib.hid (HT8.out.later hb9)
      have HL9 := Lib.hid (HL8.out.later hb9)
      have HR9 : Hid (Part S W.heap.size [XA, XB] w9 cr l2) := Part.call HT8.out hr9
      clear hr9 hb9
      (try dsimp only)
      refine hK.out _ _ (HT9.out.box) (fun hHeld => ?_)
      clear hK K
      (try simp only [Act.put, List.setIfInBounds_toArray, List.set_cons_zero, List.set_cons_succ])
      refine wpAnyT_last (i := 13) (o := ⟨none, _, _, _, _, _⟩) (by kernel_rfl) (by decide) rfl (fun K hK => ?_)
      refine st_agg_wp 33 _ _ rfl XA cl rfl rfl 33 _ (HT9.out.xs XA (by simp)).2.2 (by rw [HL9.out.root.size]; exact rnode_size) (by rw [HL9.out.root.size]; rfl) HL9.out.root.one ?_
      intro wa ha ka
      refine hK.out _ _ ?_
      clear hK K
      (try simp only [Act.put, List.setIfInBounds_toArray, List.set_cons_zero, List.set_cons_succ])
      refine wpAnyT_last (i := 14) (o := ⟨none, _, _, _, _, _⟩) (by kernel_rfl) (by decide) rfl (fun K hK => ?_)
      refine st_agg_wp 33 _ _ rfl XB cr rfl rfl 33 _ (ka.other (HT9.out.xs XB (by simp)).2.2 (fun e => HNE.out e.symm)) (by rw [HR9.out.root.size]; exact rnode_size) (by rw [HR9.out.root.size]; rfl) HR9.out.root.one ?_
      intro wb hb kb
      refine hK.out _ _ ?_
      clear hK K
      (try simp only [Act.put, List.setIfInBounds_toArray, List.set_cons_zero, List.set_cons_succ])
      refine wpAnyT_done (by kernel_rfl) ?_ _
      have HXA : Hid (wb.heap[XA]? = some (.cells cl 33 (0, 0))) := kb.other ha HNE.out
      have HXB : Hid (wb.heap[XB]? = some (.cells cr 33 (0, 0))) := hb
      have hxa := (HT9.out.xs XA (by simp)).1
      have hxb := (HT9.out.xs XB (by simp)).1
      have HYB : Hid (wb.heap[W.heap.size + 1]? = some (.cells #[.int .i64 0, .int .i64 0, .slice none 0 0, .slice none 0 0] 35 (0, 0))) := kb.other (ka.other HT9.out.res (by omega)) (by omega)
      have HBB : Hid (Below W.heap.size W wb) := (HT9.out.bel.trans (ka.below (by omega))).trans (kb.below (by omega))
      have HZB : Hid (W.heap.size + 2 ≤ wb.heap.size) := by show _ ≤ _; have := HT9.out.siz; rw [kb.size, ka.size]; exact this
      have HLr := Lib.hid ((HL9.out.store ka (by simp)).store kb (by simp)).root
      have HRr := Lib.hid ((HR9.out.store ka (by simp)).store kb (by simp)).root
      have HCL := Lib.hid HLr.out.size
      have HCR := Lib.hid HRr.out.size
      clear ha hb ka kb hxa hxb
      go_wp2_with (first
        | (refine ld_if rfl 33 _ rfl XA rfl 33 _ _ _ HXA.out Try.underlying33 rfl (by rw [HCL.out]; exact rnode_size) ?_)
        | (refine ld_if rfl 33 _ rfl XB rfl 33 _ _ _ HXB.out Try.underlying33 rfl (by rw [HCR.out]; exact rnode_size) ?_)
        | (go_at_call 37
           refine (rp_concat wb HLr.out HRr.out HCAT.out).mono ?_
           rintro e wc ⟨cc, rfl, hrc, hbc⟩
           obtain ⟨y0, y1, q1, n1, c1, q2, n2, c2, rfl⟩ := hrc.four
           have HRC := Lib.hid hrc
           have HYC := Lib.hid ((hbc.block (W.heap.size + 1) (by have := HZB.out; omega)).trans HYB.out)
           have HBC := Lib.hid (HBB.out.trans (hbc.mono (by have := HZB.out; omega)))
           clear hrc hbc)
        | (refine st_agg rfl 35 _ _ rfl (W.heap.size + 1) _ rfl rfl 35 _ HYC.out rope_size rfl (one4 rfl rfl rfl rfl) ?_; intro wd hd kd))
      refine bodyPost_ret (results_cell_row1 rfl _ _ (W.heap.size + 1) 35 _ (0, 0) _ rfl hd Try.underlying35 rfl rope_size) rfl ⟨_, rfl, ?_, HBC.out.trans (kd.below (by omega))⟩
      have hzb := HZB.out
      refine (HRC.out.kept kd.by_ (fun X e => by cases e; rintro ((⟨_, h⟩ | h) | h) <;> omega)).weak fun g hg => ?_
      rcases hg with (hg | hg) | hg
      · exact .inl hg.1
      · exact .inr (by omega)
      · exact .inr (by omega)
set_option maxHeartbeats 2000000 in
theorem rp_Remove_out {S : Nat → Prop} {c : Array Value} {l : List Int} (W : World) (h : RootR S W c l) (i : Int) (hi : ¬ (0 ≤ i ∧ i < l.length)) :
    Calls Try.prog 25 #[.agg c, .int .i64 i] W fun e W' => e = .returned (.tuple #[.agg zeroR, .int .i64 4]) ∧ Below W.heap.size W W' := by
  obtain ⟨w2, hw2⟩ : ∃ w2, (W.alloc (.cells c 35)).alloc (.cells #[.int .i64 0, .int .i64 0, .slice none 0 0, .slice none 0 0] 35) = w2 := ⟨_, rfl⟩
  obtain ⟨hb2, hx2, hy2, hs2⟩ := two_new hw2
  have HX2 := Lib.hid hx2
  have HY2 := Lib.hid hy2
  have HB2 := Lib.hid hb2
  have HS2 := Lib.hid hs2
  have HS := Lib.hid h.size
  have HH := Lib.hid (rp_has w2 (h.later hb2) i)
  rw [show decide (0 ≤ i ∧ i < l.length) = false by simpa using hi] at HH
  clear hb2 hx2 hy2 hs2 h hi
  go_enter Try.func25, Try.ntmps25
  go_upto_region 1 with fail
  clear hw2
  go_wp2_with (first
    | (refine ld_if rfl 35 _ rfl W.heap.size rfl 35 _ _ _ HX2.out Try.underlying35 rfl (by rw [HS.out]; exact rope_size) ?_)
    | (go_at_call 28
       refine HH.out.mono ?_
       rintro e w3 ⟨rfl, hb3⟩
       have HY3 := Lib.hid ((hb3.block (W.heap.size + 1) (by have := HS2.out; omega)).trans HY2.out)
       have HB3 := Lib.hid (HB2.out.trans (hb3.mono HB2.out.size))
       clear hb3)
    | (refine st_agg rfl 35 _ _ rfl (W.heap.size + 1) zeroR rfl rfl 35 _ HY3.out rope_size rfl (one4 rfl rfl rfl rfl) ?_; intro w5 h5 k5))
  exact bodyPost_ret (results_cell_row1 rfl _ _ (W.heap.size + 1) 35 _ (0, 0) _ rfl h5 Try.underlying35 rfl rope_size) rfl ⟨rfl, HB3.out.trans (k5.below (by omega))⟩
end Go.Proofs.Ytldemoflgahdgaa
