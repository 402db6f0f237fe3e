/- Layer 9's law HamtDoes, over package hamt as it landed. (written by tools/gen09/does9.py) -/
import Derived.Test.YtlngjabjeodkpaaGreatDoorLaw09B
import Derived.Test.YtlngjabjeodkpaaGreatDoorRef09C
import Derived.Test.YtlngjabjeodkpaaGreatDoorPkA
import Derived.Laws.StructEq
namespace Go.Proofs.YtlngjabjeodkpaaGreatDoor
open Go.RowKit
set_option maxRecDepth 1000000
set_option linter.unusedSimpArgs false


/-- A Conf that lies in a map is read. -/
theorem ld_cf {ops : Array Oper} {rest : List Oper} {o : Oper} {a : Act} {w : World} {Q : Exit → Act → World → Prop} (hwd : Region.wanted o (yielded ops a.tmps) = true) (y : Operand) (ho : o.op = .load 24 y)
    (b k : Nat) (hx : a.eval y = .pointer (some ⟨b, k, none⟩)) (s : Nat) (n : Int) (hR : w.rangeAt b k (#[.int .u64 (s : Int), .int .i64 n] : Array Value).toList)
    (h : wpList Tryz.prog ops Q rest (a.put o.dst (.agg #[.int .u64 (s : Int), .int .i64 n])) w) : wpList Tryz.prog ops Q (o :: rest) a w :=
  wpList_step fun _ hK => by
    rw [if_pos hwd]
    exact wp_load_mid 24 y ho b k hx _ _ hR Tryz.underlying24 rfl api_size (hK _ _ h)
theorem row_conf {V : World} {X : Nat} {a b : Value} {r : List Value} {c : Array Value} {T : TypeId} {fr : Nat × Nat} (h : V.heap[X]? = some (.cells c T fr)) (hc : c.toList = a :: b :: r) : V.rangeAt X 0 (#[a, b] : Array Value).toList := fun j u hu => by
  refine cell_in h ?_
  rw [Nat.zero_add, ← Array.getElem?_toList, hc]
  rcases j with _ | _ | j
  · simpa using hu
  · simpa using hu
  · simp at hu
set_option maxHeartbeats 2000000 in
theorem hm_Conf (w : World) (s : Nat) (n : Int) (l bb : Nat) (a1 : Option Addr) (n1 c1 : Nat) (a2 : Option Addr) (n2 c2 : Nat) :
    Calls Tryz.prog 12 #[.agg #[.int .u64 (s : Int), .int .i64 n, .int .i64 ((l : Nat) : Int), .int .u32 (bb : Int), .slice a1 n1 c1, .slice a2 n2 c2]] w fun r w' => r = .returned (.agg #[.int .u64 (s : Int), .int .i64 n]) ∧ Below w.heap.size w w' := by
  obtain ⟨w1, hw1⟩ : ∃ w1, (w.alloc (.cells #[.int .u64 (s : Int), .int .i64 n, .int .i64 ((l : Nat) : Int), .int .u32 (bb : Int), .slice a1 n1 c1, .slice a2 n2 c2] 36)).alloc (.cells #[.int .u64 0, .int .i64 0] 24) = w1 := ⟨_, rfl⟩
  obtain ⟨hb1, hx1, hy1, hs1⟩ := two_newG hw1
  have HX1 := Lib.hid hx1
  have HY1 := Lib.hid hy1
  have HB1 := Lib.hid hb1
  clear hx1 hy1 hb1 hs1
  go_enter Tryz.func12, Tryz.ntmps12
  go_upto_region 1 with fail
  clear hw1
  go_wp2_with (first
    | (refine ld_cf (by rfl) _ rfl w.heap.size 0 rfl s n (row_conf HX1.out rfl) ?_)
    | (refine st_agg rfl 24 _ _ rfl (w.heap.size + 1) #[.int .u64 (s : Int), .int .i64 n] rfl rfl 24 _ HY1.out api_size rfl (by simp [Value.oneCell']) ?_; intro w6 h6 k6))
  exact bodyPost_ret (results_cell_row rfl _ _ (w.heap.size + 1) 24 _ (0, 0) _ rfl h6 Tryz.underlying24 rfl api_size) rfl ⟨rfl, HB1.out.trans (k6.below (by omega))⟩
theorem ml_Conf (w : World) (s : Nat) (n : Int) (L : List Ent) (c : Array Value) (h : ML w s n L c) (W : World) :
    Calls Tryz.prog 12 #[.agg c] W fun r w' => r = .returned (.agg #[.int .u64 (s : Int), .int .i64 n]) ∧ Below W.heap.size W w' := by
  obtain ⟨bb, p1, q1, r1, p2, q2, r2, e, _⟩ := h
  rw [e]
  exact hm_Conf W s n L.length bb p1 q1 r1 p2 q2 r2
theorem ml_Sum (w : World) (s : Nat) (hss : s < 18446744073709551616) (n : Int) (L : List Ent) (c : Array Value) (h : ML w s n L c) (k : ByteArray) (hk : k.size ≤ 9223372036854775800) (W : World) :
    Calls Tryz.prog 16 #[.agg c, .string k] W fun r w' => r = .returned (.int .u64 (hsN s n k : Nat)) ∧ Below W.heap.size W w' := by
  obtain ⟨bb, p1, q1, r1, p2, q2, r2, e, _⟩ := h
  rw [e]
  exact hm_Sum W s hss n L.length bb p1 q1 r1 p2 q2 r2 k hk
theorem neq_conf (s : Nat) (n : Int) (w : World) : (binOp .neq 24 (.agg #[.int .u64 (s : Int), .int .i64 n]) (.agg #[.int .u64 (s : Int), .int .i64 n])).run Tryz.prog w = .ok (.bool false) w := by
  have hu : Tryz.prog.underlying 24 = some (.struct (Tryz.prog.fieldsOf 24)) := by kernel_rfl
  have hp : Tryz.prog.stoodInHeld 24 = false := by kernel_rfl
  rw [run_neq_struct, run_equalIn_agg w 9999 _ _ _ hu hp]
  simp [Program.fieldsOf, Tryz.underlying24, Op.eqFields, go_sem]
/-- A map, the document's, and what both have. -/
abbrev Kept9 := Array Value × Array Value × List Ent
def AllH (V : World) (s : Nat) (n : Int) (ts : List Kept9) : Prop := ∀ t ∈ ts, ML V s n t.2.2 t.1 ∧ RefM V t.2.1 t.2.2
section
variable {V V' : World} {s : Nat} {n : Int} {ts : List Kept9}
theorem AllH.later (h : AllH V s n ts) (hb : Below V.heap.size V V') : AllH V' s n ts := fun t ht => ⟨(h t ht).1.later hb, (h t ht).2.later hb⟩
theorem AllH.but {X : Nat} {cs : Array Value} {T : TypeId} {fr : Nat × Nat} (h : AllH V s n ts) (k : Only X V V') (hX : V.heap[X]? = some (.cells cs T fr)) (hT : ¬ (T = 68 ∨ T = 34 ∨ T = 79 ∨ T = 65)) (h1 : T ≠ 9) (h2 : T ≠ 3) : AllH V' s n ts :=
  fun t ht => ⟨(h t ht).1.but k hX hT, (h t ht).2.but k hX h1 h2⟩
theorem RefM.keptE {c : Array Value} {L : List Ent} {row : Option Nat} {T : TypeId} (h : RefM V c L) (hg : V.grownBy V' row) (hX : ∀ X, row = some X → ∃ cs fr, V.heap[X]? = some (.cells cs T fr)) (h1 : T ≠ 9) (h2 : T ≠ 3) : RefM V' c L :=
  h.kept hg (fun X e cs fr h' => by
    obtain ⟨cs2, fr2, hX2⟩ := hX X e
    rw [hX2] at h'
    simp only [Option.some.injEq, Obj.cells.injEq] at h'
    exact h1 h'.2.1) (fun X e cs fr h' => by
    obtain ⟨cs2, fr2, hX2⟩ := hX X e
    rw [hX2] at h'
    simp only [Option.some.injEq, Obj.cells.injEq] at h'
    exact h2 h'.2.1)
theorem AllH.kept {row : Option Nat} {T : TypeId} (h : AllH V s n ts) (hg : V.grownBy V' row) (hX : ∀ X, row = some X → ∃ cs fr, V.heap[X]? = some (.cells cs T fr)) (hT : ¬ (T = 68 ∨ T = 34 ∨ T = 79 ∨ T = 65)) (h1 : T ≠ 9) (h2 : T ≠ 3) : AllH V' s n ts :=
  fun t ht => ⟨(h t ht).1.kept hg hX hT, (h t ht).2.keptE hg hX h1 h2⟩
theorem AllH.snoc {c d : Array Value} {L : List Ent} (h : AllH V s n ts) (hc : ML V s n L c) (hd : RefM V d L) : AllH V s n (ts ++ [(c, d, L)]) := fun t ht => by
  rcases List.mem_append.1 ht with ht | ht
  · exact h t ht
  · simp at ht; subst ht; exact ⟨hc, hd⟩
end
/-- Two lists of one struct each, made and assigned in any order. -/
structure Two9 (Wb V : World) (cm cr : Array Value) (m : List Nat) (val : Nat → Value) : Prop where
  bel : Below Wb.heap.size Wb V
  one : 1 ∈ m → ∃ x, val 1 = .slice (some ⟨x, 0, none⟩) 1 1 ∧ Wb.heap.size ≤ x ∧ V.heap[x]? = some (.cells cm 36 (0, 0))
  two : 3 ∈ m → ∃ x, val 3 = .slice (some ⟨x, 0, none⟩) 1 1 ∧ Wb.heap.size ≤ x ∧ V.heap[x]? = some (.cells cr 41 (0, 0))
  a4 : 4 ∈ m → 1 ∈ m ∧ val 4 = val 1
  a5 : 5 ∈ m → 3 ∈ m ∧ val 5 = val 3
section
variable {Wb V V' : World} {cm cr : Array Value} {m : List Nat} {val : Nat → Value}
theorem Two9.bs1 (h : Two9 Wb V cm cr m val) (hm1 : 1 ∉ m) (hb : Below V.heap.size V V') (hx : V'.heap[V.heap.size]? = some (.cells cm 36 (0, 0))) : Two9 Wb V' cm cr (1 :: m) (updV val 1 (.slice (some ⟨V.heap.size, 0, none⟩) 1 1)) where
  bel := h.bel.trans (hb.mono h.bel.size)
  one := fun _ => ⟨_, updV_at .., h.bel.size, hx⟩
  two := fun hm => by
    obtain ⟨x, h1, h2, h3⟩ := h.two ((List.mem_cons.1 hm).resolve_left (by decide))
    exact ⟨x, (updV_ne val _ (by decide)).trans h1, h2, (hb.block _ (Array.getElem?_eq_some_iff.1 h3).1).trans h3⟩
  a4 := fun hm => absurd (h.a4 ((List.mem_cons.1 hm).resolve_left (by decide))).1 hm1
  a5 := fun hm => by
    obtain ⟨h1, h2⟩ := h.a5 ((List.mem_cons.1 hm).resolve_left (by decide))
    exact ⟨List.mem_cons_of_mem _ h1, by rw [updV_ne val _ (by decide), updV_ne val _ (by decide)]; exact h2⟩
theorem Two9.bs3 (h : Two9 Wb V cm cr m val) (hm3 : 3 ∉ m) (hb : Below V.heap.size V V') (hx : V'.heap[V.heap.size]? = some (.cells cr 41 (0, 0))) : Two9 Wb V' cm cr (3 :: m) (updV val 3 (.slice (some ⟨V.heap.size, 0, none⟩) 1 1)) where
  bel := h.bel.trans (hb.mono h.bel.size)
  one := fun hm => by
    obtain ⟨x, h1, h2, h3⟩ := h.one ((List.mem_cons.1 hm).resolve_left (by decide))
    exact ⟨x, (updV_ne val _ (by decide)).trans h1, h2, (hb.block _ (Array.getElem?_eq_some_iff.1 h3).1).trans h3⟩
  two := fun _ => ⟨_, updV_at .., h.bel.size, hx⟩
  a4 := fun hm => by
    obtain ⟨h1, h2⟩ := h.a4 ((List.mem_cons.1 hm).resolve_left (by decide))
    exact ⟨List.mem_cons_of_mem _ h1, by rw [updV_ne val _ (by decide), updV_ne val _ (by decide)]; exact h2⟩
  a5 := fun hm => absurd (h.a5 ((List.mem_cons.1 hm).resolve_left (by decide))).1 hm3
theorem Two9.as4 (h : Two9 Wb V cm cr m val) (h1 : 1 ∈ m) : Two9 Wb V cm cr (4 :: m) (updV val 4 (val 1)) where
  bel := h.bel
  one := fun hm => by rw [updV_ne val _ (by decide)]; exact h.one ((List.mem_cons.1 hm).resolve_left (by decide))
  two := fun hm => by rw [updV_ne val _ (by decide)]; exact h.two ((List.mem_cons.1 hm).resolve_left (by decide))
  a4 := fun _ => ⟨List.mem_cons_of_mem _ h1, by rw [updV_at, updV_ne val _ (by decide)]⟩
  a5 := fun hm => by
    obtain ⟨h1, h2⟩ := h.a5 ((List.mem_cons.1 hm).resolve_left (by decide))
    exact ⟨List.mem_cons_of_mem _ h1, by rw [updV_ne val _ (by decide), updV_ne val _ (by decide)]; exact h2⟩
theorem Two9.as5 (h : Two9 Wb V cm cr m val) (h3 : 3 ∈ m) : Two9 Wb V cm cr (5 :: m) (updV val 5 (val 3)) where
  bel := h.bel
  one := fun hm => by rw [updV_ne val _ (by decide)]; exact h.one ((List.mem_cons.1 hm).resolve_left (by decide))
  two := fun hm => by rw [updV_ne val _ (by decide)]; exact h.two ((List.mem_cons.1 hm).resolve_left (by decide))
  a4 := fun hm => by
    obtain ⟨h1, h2⟩ := h.a4 ((List.mem_cons.1 hm).resolve_left (by decide))
    exact ⟨List.mem_cons_of_mem _ h1, by rw [updV_ne val _ (by decide), updV_ne val _ (by decide)]; exact h2⟩
  a5 := fun _ => ⟨List.mem_cons_of_mem _ h3, by rw [updV_at, updV_ne val _ (by decide)]⟩
end
/-- Both lists grow by one struct each, in any order. -/
structure App9 (w : World) (s : Nat) (n : Int) (B X Y : Nat) (L : List Ent) (cm cr : Array Value) (ts : List Kept9) (vm vr : Value) (V : World) (m : List Nat) (val : Nat → Value) : Prop where
  hb : Below w.heap.size w V
  hX : V.heap[X]? = some (.cells cm 36 (0, 0))
  hY : V.heap[Y]? = some (.cells cr 41 (0, 0))
  hC : V.heap[w.heap.size]? = some (.cells #[.int .u64 (s : Int), .int .i64 n] 24 (0, 0))
  hm : ML V s n L cm
  hr : RefM V cr L
  ha : AllH V s n ts
  x2 : 2 ∈ m → 3 ∉ m → ∃ x, val 2 = .slice (some ⟨x, 0, none⟩) 1 1 ∧ V.heap[x]? = some (.cells cm 36 (0, 0))
  x6 : 6 ∈ m → 7 ∉ m → ∃ x, val 6 = .slice (some ⟨x, 0, none⟩) 1 1 ∧ V.heap[x]? = some (.cells cr 41 (0, 0))
  r3n : 3 ∉ m → RowsOwn B 36 6 vm (ts.map (·.1)) V
  r3y : 3 ∈ m → RowsOwn B 36 6 (val 3) (ts.map (·.1) ++ [cm]) V
  r7n : 7 ∉ m → RowsOwn B 41 2 vr (ts.map (·.2.1)) V
  r7y : 7 ∈ m → RowsOwn B 41 2 (val 7) (ts.map (·.2.1) ++ [cr]) V
section
variable {w V V' : World} {s : Nat} {n : Int} {B X Y : Nat} {L : List Ent} {cm cr : Array Value} {ts : List Kept9} {vm vr : Value} {m : List Nat} {val : Nat → Value}
theorem row_later9 {x : Nat} {c : Array Value} {T : TypeId} {fr : Nat × Nat} (h : V.heap[x]? = some (.cells c T fr)) (hb : Below V.heap.size V V') : V'.heap[x]? = some (.cells c T fr) := (hb.block _ (Array.getElem?_eq_some_iff.1 h).1).trans h
theorem App9.bs2 (h : App9 w s n B X Y L cm cr ts vm vr V m val) (hb : Below V.heap.size V V') (hx : V'.heap[V.heap.size]? = some (.cells cm 36 (0, 0))) : App9 w s n B X Y L cm cr ts vm vr V' (2 :: m) (updV val 2 (.slice (some ⟨V.heap.size, 0, none⟩) 1 1)) where
  hb := h.hb.trans (hb.mono h.hb.size)
  hX := row_later9 h.hX hb
  hY := row_later9 h.hY hb
  hC := row_later9 h.hC hb
  hm := h.hm.later hb
  hr := h.hr.later hb
  ha := h.ha.later hb
  x2 := fun _ _ => ⟨_, updV_at .., hx⟩
  x6 := fun h1 h2 => by
    obtain ⟨x, e, hq⟩ := h.x6 ((List.mem_cons.1 h1).resolve_left (by decide)) (fun h3 => h2 (List.mem_cons_of_mem _ h3))
    exact ⟨x, (updV_ne val _ (by decide)).trans e, row_later9 hq hb⟩
  r3n := fun h1 => (h.r3n fun h3 => h1 (List.mem_cons_of_mem _ h3)).later hb
  r3y := fun h1 => by rw [updV_ne val _ (by decide)]; exact (h.r3y ((List.mem_cons.1 h1).resolve_left (by decide))).later hb
  r7n := fun h1 => (h.r7n fun h3 => h1 (List.mem_cons_of_mem _ h3)).later hb
  r7y := fun h1 => by rw [updV_ne val _ (by decide)]; exact (h.r7y ((List.mem_cons.1 h1).resolve_left (by decide))).later hb
theorem App9.bs6 (h : App9 w s n B X Y L cm cr ts vm vr V m val) (hb : Below V.heap.size V V') (hx : V'.heap[V.heap.size]? = some (.cells cr 41 (0, 0))) : App9 w s n B X Y L cm cr ts vm vr V' (6 :: m) (updV val 6 (.slice (some ⟨V.heap.size, 0, none⟩) 1 1)) where
  hb := h.hb.trans (hb.mono h.hb.size)
  hX := row_later9 h.hX hb
  hY := row_later9 h.hY hb
  hC := row_later9 h.hC hb
  hm := h.hm.later hb
  hr := h.hr.later hb
  ha := h.ha.later hb
  x2 := fun h1 h2 => by
    obtain ⟨x, e, hq⟩ := h.x2 ((List.mem_cons.1 h1).resolve_left (by decide)) (fun h3 => h2 (List.mem_cons_of_mem _ h3))
    exact ⟨x, (updV_ne val _ (by decide)).trans e, row_later9 hq hb⟩
  x6 := fun _ _ => ⟨_, updV_at .., hx⟩
  r3n := fun h1 => (h.r3n fun h3 => h1 (List.mem_cons_of_mem _ h3)).later hb
  r3y := fun h1 => by rw [updV_ne val _ (by decide)]; exact (h.r3y ((List.mem_cons.1 h1).resolve_left (by decide))).later hb
  r7n := fun h1 => (h.r7n fun h3 => h1 (List.mem_cons_of_mem _ h3)).later hb
  r7y := fun h1 => by rw [updV_ne val _ (by decide)]; exact (h.r7y ((List.mem_cons.1 h1).resolve_left (by decide))).later hb
theorem App9.app3 (hB : w.heap.size < B ∧ X < B ∧ Y < B) (hts : ts ≠ []) (h : App9 w s n B X Y L cm cr ts vm vr V m val) (h3 : 3 ∉ m) {v : Value} (hrow : RowsOwn B 36 6 v (ts.map (·.1) ++ [cm]) V') (hg : V.grownBy V' vm.ownBlock) : App9 w s n B X Y L cm cr ts vm vr V' (3 :: m) (updV val 3 v) := by
  have hr3 := h.r3n h3
  have hne : ts.map (·.1) ≠ [] := fun e => hts (List.map_eq_nil_iff.1 e)
  have hne2 : ts.map (·.2.1) ≠ [] := fun e => hts (List.map_eq_nil_iff.1 e)
  exact {
    hb := h.hb.trans (hr3.below hg (by omega) h.hb.size)
    hX := hr3.keeps hg hB.2.1 h.hX
    hY := hr3.keeps hg hB.2.2 h.hY
    hC := hr3.keeps hg hB.1 h.hC
    hm := h.hm.kept hg hr3.typed' (by decide)
    hr := h.hr.keptE hg hr3.typed' (by decide) (by decide)
    ha := h.ha.kept hg hr3.typed' (by decide) (by decide) (by decide)
    x2 := fun _ h2 => absurd List.mem_cons_self h2
    x6 := fun h1 h2 => by
      obtain ⟨x, e, hq⟩ := h.x6 ((List.mem_cons.1 h1).resolve_left (by decide)) (fun h3 => h2 (List.mem_cons_of_mem _ h3))
      exact ⟨x, (updV_ne val _ (by decide)).trans e, hr3.keepsT hg (by decide) hq⟩
    r3n := fun h1 => absurd List.mem_cons_self h1
    r3y := fun _ => by rw [updV_at]; exact hrow
    r7n := fun h1 => (h.r7n fun h3 => h1 (List.mem_cons_of_mem _ h3)).apart hne2 hr3 hne (by decide) hg
    r7y := fun h1 => by rw [updV_ne val _ (by decide)]; exact (h.r7y ((List.mem_cons.1 h1).resolve_left (by decide))).apart (List.append_ne_nil_of_right_ne_nil _ (by simp)) hr3 hne (by decide) hg }
theorem App9.app7 (hB : w.heap.size < B ∧ X < B ∧ Y < B) (hts : ts ≠ []) (h : App9 w s n B X Y L cm cr ts vm vr V m val) (h7 : 7 ∉ m) {v : Value} (hrow : RowsOwn B 41 2 v (ts.map (·.2.1) ++ [cr]) V') (hg : V.grownBy V' vr.ownBlock) : App9 w s n B X Y L cm cr ts vm vr V' (7 :: m) (updV val 7 v) := by
  have hr7 := h.r7n h7
  have hne : ts.map (·.1) ≠ [] := fun e => hts (List.map_eq_nil_iff.1 e)
  have hne2 : ts.map (·.2.1) ≠ [] := fun e => hts (List.map_eq_nil_iff.1 e)
  exact {
    hb := h.hb.trans (hr7.below hg (by omega) h.hb.size)
    hX := hr7.keeps hg hB.2.1 h.hX
    hY := hr7.keeps hg hB.2.2 h.hY
    hC := hr7.keeps hg hB.1 h.hC
    hm := h.hm.kept hg hr7.typed' (by decide)
    hr := h.hr.keptE hg hr7.typed' (by decide) (by decide)
    ha := h.ha.kept hg hr7.typed' (by decide) (by decide) (by decide)
    x2 := fun h1 h2 => by
      obtain ⟨x, e, hq⟩ := h.x2 ((List.mem_cons.1 h1).resolve_left (by decide)) (fun h3 => h2 (List.mem_cons_of_mem _ h3))
      exact ⟨x, (updV_ne val _ (by decide)).trans e, hr7.keepsT hg (by decide) hq⟩
    x6 := fun _ h2 => absurd List.mem_cons_self h2
    r3n := fun h1 => (h.r3n fun h3 => h1 (List.mem_cons_of_mem _ h3)).apart hne hr7 hne2 (by decide) hg
    r3y := fun h1 => by rw [updV_ne val _ (by decide)]; exact (h.r3y ((List.mem_cons.1 h1).resolve_left (by decide))).apart (List.append_ne_nil_of_right_ne_nil _ (by simp)) hr7 hne2 (by decide) hg
    r7n := fun h1 => absurd List.mem_cons_self h1
    r7y := fun _ => by rw [updV_at]; exact hrow }
end
set_option maxHeartbeats 8000000 in
theorem hamtDoes_of (s : Nat) (n : Int) (va : Value) (l : List Op9) (ask : ByteArray) (w : World) (hss : s < 18446744073709551616) (hask : ask.size ≤ maxLen) (hl : Ops9 w va l) (hT : Tabs w) :
    Calls Tryz.prog 3 #[.agg #[.int .u64 (s : Int), .int .i64 n], va, .string ask] w fun e w' => e = .returned (.bool true) ∧ Below w.heap.size w w' := by
  have HTB := Lib.hid hT
  have HFEWl := Lib.hid (fun W (h : Below w.heap.size w W) => few9 va l W (hl.later h))
  obtain ⟨adl, capl, bbl, ool, rfl, hl1, hl2, hl3⟩ := hl
  have HLl := Lib.hid (And.intro hl1 hl2)
  have ha63 : (ask.size : Int) ≤ 9223372036854775807 := by unfold maxLen at hask; omega
  clear hT hl1 hl2 hl3 hask
  by_cases hf1 : few9B l = true
  case neg =>
    rw [show few9B l = false by simpa using hf1] at HFEWl
    as_aux_lemma =>
    clear hf1
    go_enter Tryz.func3, Tryz.ntmps3
    go_upto_region 1 with fail
    obtain ⟨w0, hw0⟩ : ∃ w0, w.alloc (.cells #[.int .u64 (s : Int), .int .i64 n] 24) = w0 := ⟨_, rfl⟩
    obtain ⟨hb, hx, _⟩ := new_below hw0
    have HC := Lib.hid hx
    have HB := Lib.hid hb
    rw [hw0]
    clear hx hb hw0
    go_wp2_with (first
      | (go_at_call 5; (with_reducible refine (live9 _ (HTB.out.later HB.out)).mono ?_); rintro e w1 ⟨rfl, hb⟩; replace HC := Lib.hid ((hb.block _ (Array.getElem?_eq_some_iff.1 HC.out).1).trans HC.out); replace HB := Lib.hid (HB.out.trans (hb.mono HB.out.size)); clear hb)
      | (go_at_call 6; (with_reducible refine (HFEWl.out _ HB.out).mono ?_); rintro e w1 ⟨rfl, hb⟩; replace HC := Lib.hid ((hb.block _ (Array.getElem?_eq_some_iff.1 HC.out).1).trans HC.out); replace HB := Lib.hid (HB.out.trans (hb.mono HB.out.size)); clear hb))
    go_ret
    exact ⟨rfl, HB.out⟩
  have HFl := Lib.hid (few9_ops hf1)
  rw [hf1] at HFEWl
  clear hf1
  by_cases ha200 : (200 : Int) < (ask.size : Int)
  · as_aux_lemma =>
    go_enter Tryz.func3, Tryz.ntmps3
    go_upto_region 1 with fail
    obtain ⟨w0, hw0⟩ : ∃ w0, w.alloc (.cells #[.int .u64 (s : Int), .int .i64 n] 24) = w0 := ⟨_, rfl⟩
    obtain ⟨hb, hx, _⟩ := new_below hw0
    have HC := Lib.hid hx
    have HB := Lib.hid hb
    rw [hw0]
    clear hx hb hw0
    go_wp2_with (first
      | (go_at_call 5; (with_reducible refine (live9 _ (HTB.out.later HB.out)).mono ?_); rintro e w1 ⟨rfl, hb⟩; replace HC := Lib.hid ((hb.block _ (Array.getElem?_eq_some_iff.1 HC.out).1).trans HC.out); replace HB := Lib.hid (HB.out.trans (hb.mono HB.out.size)); clear hb)
      | (go_at_call 6; (with_reducible refine (HFEWl.out _ HB.out).mono ?_); rintro e w1 ⟨rfl, hb⟩; replace HC := Lib.hid ((hb.block _ (Array.getElem?_eq_some_iff.1 HC.out).1).trans HC.out); replace HB := Lib.hid (HB.out.trans (hb.mono HB.out.size)); clear hb))
    go_ret
    exact ⟨rfl, HB.out⟩
  have HASK : Hid (ask.size ≤ 9223372036854775800) := by show _ ≤ _; omega
  have hl120 : (l.length : Int) ≤ 120 := by have := HFl.out.2; omega
  go_enter Tryz.func3, Tryz.ntmps3
  go_upto_region 1 with fail
  obtain ⟨w0, hw0⟩ : ∃ w0, w.alloc (.cells #[.int .u64 (s : Int), .int .i64 n] 24) = w0 := ⟨_, rfl⟩
  obtain ⟨hb, hx, _⟩ := new_below hw0
  have HC := Lib.hid hx
  have HB := Lib.hid hb
  rw [hw0]
  clear hx hb hw0
  go_upto_region 4 with (first
    | (go_at_call 5; (with_reducible refine (live9 _ (HTB.out.later HB.out)).mono ?_); rintro e w1 ⟨rfl, hb⟩; replace HC := Lib.hid ((hb.block _ (Array.getElem?_eq_some_iff.1 HC.out).1).trans HC.out); replace HB := Lib.hid (HB.out.trans (hb.mono HB.out.size)); clear hb)
    | (go_at_call 6; (with_reducible refine (HFEWl.out _ HB.out).mono ?_); rintro e w1 ⟨rfl, hb⟩; replace HC := Lib.hid ((hb.block _ (Array.getElem?_eq_some_iff.1 HC.out).1).trans HC.out); replace HB := Lib.hid (HB.out.trans (hb.mono HB.out.size)); clear hb)
    | (refine ld_if (by rfl) 24 _ rfl w.heap.size rfl 24 _ _ _ HC.out Tryz.underlying24 rfl api_size ?_)
    | (go_at_call 7; (with_reducible refine (hm_New _ s n (fun _ => True)).mono ?_); rintro e w3 ⟨c0, rfl, hm, hb⟩; have HM0 := Lib.hid hm.ml; have HZ0 := Lib.hid hm.size; replace HC := Lib.hid ((hb.block _ (Array.getElem?_eq_some_iff.1 HC.out).1).trans HC.out); replace HB := Lib.hid (HB.out.trans (hb.mono HB.out.size)); clear hm hb)
    | (refine st_agg rfl 36 _ _ rfl w3.heap.size c0 rfl rfl 36 #[.int .u64 0, .int .i64 0, .int .i64 0, .int .u32 0, .slice none 0 0, .slice none 0 0] (heap_alloc_last w3 _) (by rw [HZ0.out]; exact map_size) (by rw [HZ0.out]; rfl) HM0.out.one ?_
       intro w4 h4 k4
       have hb4 : Below w3.heap.size w3 w4 := (Below.newly' w3 _).trans (k4.below (Nat.le_refl _))
       have HM : Hid (MB w4 s n [] w3.heap.size) := ⟨c0, h4, HM0.out.later hb4⟩
       have HX3 : Hid (w.heap.size < w3.heap.size) := (Array.getElem?_eq_some_iff.1 HC.out).1
       replace HC := Lib.hid ((hb4.block _ (Array.getElem?_eq_some_iff.1 HC.out).1).trans HC.out)
       replace HB := Lib.hid (HB.out.trans (hb4.mono HB.out.size))
       clear h4 k4 hb4))
  obtain ⟨X, hX⟩ : ∃ X, X = w3.heap.size := ⟨_, rfl⟩
  rw [← hX] at HM HX3 ⊢
  clear hX
  go_upto_region 5 with fail
  obtain ⟨Y, hY⟩ : ∃ Y, Y = w4.heap.size := ⟨_, rfl⟩
  have HXY : Hid (X < Y) := by show _ < _; rw [hY]; exact HM.out.lt
  have HR : Hid (RB (w4.alloc (.cells #[.slice none 0 0, .slice none 0 0] 41)) [] Y) := by show RB _ _ _; rw [hY]; exact RB.new w4
  have hb5 := Below.newly' w4 (.cells #[.slice none 0 0, .slice none 0 0] 41)
  replace HM := Lib.hid (HM.out.later hb5)
  replace HC := Lib.hid ((hb5.block _ (Array.getElem?_eq_some_iff.1 HC.out).1).trans HC.out)
  replace HB := Lib.hid (HB.out.trans (hb5.mono HB.out.size))
  obtain ⟨w5, hw5⟩ : ∃ w5, w4.alloc (.cells #[.slice none 0 0, .slice none 0 0] 41) = w5 := ⟨_, rfl⟩
  rw [hw5] at HM HC HB HR
  rw [hw5, ← hY]
  have HYL : Hid (Y < w5.heap.size) := HR.out.lt
  clear hb5 hw5 hY HM0 HZ0
  obtain ⟨cm0, hXm, hmm⟩ := HM.out
  obtain ⟨cr0, hXr, hrr⟩ := HR.out
  have HMZ := Lib.hid hmm.size
  have HRZ := Lib.hid hrr.size
  have HMM0 := Lib.hid hmm
  have HRR0 := Lib.hid hrr
  have HKS : Hid (∀ V, Below w5.heap.size w5 V → V.heap[X]? = some (.cells cm0 36 (0, 0)) ∧ V.heap[Y]? = some (.cells cr0 41 (0, 0))) := fun V hV => ⟨row_later9 hXm hV, row_later9 hXr hV⟩
  have HW : Hid (Below w5.heap.size w5 w5.drew) := drawn_below w5
  clear hXm hXr hmm hrr
  refine wp_region_T (S := (fun V => V.heap[X]? = some (.cells cm0 36 (0, 0)) ∧ V.heap[Y]? = some (.cells cr0 41 (0, 0)))) [] (by kernel_rfl) (by exact HKS.out _ HW.out) (fun hHeld => ?_)
  refine wpAnyT_take (i := 0) (oi := ⟨some 33, _, _, _, _, _⟩) (v := _) rfl (by kernel_rfl) (by kernel_rfl) (by kernel_rfl) (by kernel_rfl) (fun _ _ _ h => h) (yieldsIf_load_row (by rfl) 36 _ rfl X rfl cm0 36 (0, 0) _ (fun w hw => hw.1) Tryz.underlying36 rfl (by rw [HMZ.out]; exact map_size)) (by assumption) ?_
  (try simp only [Act.put, List.setIfInBounds_toArray, List.set_cons_zero, List.set_cons_succ])
  refine wpAnyT_take (i := 2) (oi := ⟨some 35, _, _, _, _, _⟩) (v := _) rfl (by kernel_rfl) (by kernel_rfl) (by kernel_rfl) (by kernel_rfl) (fun _ _ _ h => h) (yieldsIf_load_row (by rfl) 41 _ rfl Y rfl cr0 41 (0, 0) _ (fun w hw => hw.2) Tryz.underlying41 rfl (by rw [HRZ.out]; exact refm_size)) (by assumption) ?_
  (try simp only [Act.put, List.setIfInBounds_toArray, List.set_cons_zero, List.set_cons_succ])
  refine wpAnyT_groupA (n := 0) [1, 3, 4, 5] (fun a0 m b V => ∃ val : Nat → Value, b = (((a0.put (some 34) (val 1)).put (some 36) (val 3)).put (some 9) (val 4)).put (some 10) (val 5) ∧ Two9 w5.drew V cm0 cr0 m val) rfl (by kernel_rfl) ⟨fun _ => undef, rfl, Below.refl _ _, fun h => (by cases h), fun h => (by cases h), fun h => (by cases h), fun h => (by cases h)⟩ (by assumption) ?step5 ?done5
  case step5 =>
    as_aux_lemma =>
    clear hHeld
    rintro m i b V hi hni hwt ⟨val, rfl, hG⟩ hS
    (try simp only [Act.put, List.setIfInBounds_toArray, List.set_cons_zero, List.set_cons_succ])
    have HG := Lib.hid hG
    clear hG
    rcases (by simp only [List.mem_cons, List.not_mem_nil, or_false] at hi; omega : i = 1 ∨ i = 3 ∨ i = 4 ∨ i = 5) with rfl | rfl | rfl | rfl
    · refine group_one (o := ⟨some 34, _, _, _, _, _⟩) rfl (fun K hK => ?_)
      rw [if_pos (by rfl)]
      refine bs_wp 42 36 _ rfl cm0 6 (.agg #[.int .u64 0, .int .i64 0, .int .i64 0, .int .u32 0, .slice none 0 0, .slice none 0 0]) rfl HMZ.out (by decide) (by decide) Tryz.underlying42 (by kernel_rfl) ?_
      intro V2 hx2 hb2 _
      exact hK _ _ (HKS.out _ (HW.out.trans ((HG.out.bel.trans (hb2.mono HG.out.bel.size)).mono HW.out.size))) ⟨_, rfl, HG.out.bs1 hni hb2 hx2⟩
    · refine group_one (o := ⟨some 36, _, _, _, _, _⟩) rfl (fun K hK => ?_)
      rw [if_pos (by rfl)]
      refine bs_wp 43 41 _ rfl cr0 2 (.agg #[.slice none 0 0, .slice none 0 0]) rfl HRZ.out (by decide) (by decide) Tryz.underlying43 (by kernel_rfl) ?_
      intro V2 hx2 hb2 _
      exact hK _ _ (HKS.out _ (HW.out.trans ((HG.out.bel.trans (hb2.mono HG.out.bel.size)).mono HW.out.size))) ⟨_, rfl, HG.out.bs3 hni hb2 hx2⟩
    · refine group_one (o := ⟨some 9, _, _, _, _, _⟩) rfl (fun K hK => ?_)
      go_simp
      exact hK.out _ _ hS ⟨_, rfl, HG.out.as4 (hwt 1 rfl (by kernel_rfl))⟩
    · refine group_one (o := ⟨some 10, _, _, _, _, _⟩) rfl (fun K hK => ?_)
      go_simp
      exact hK.out _ _ hS ⟨_, rfl, HG.out.as5 (hwt 3 rfl (by kernel_rfl))⟩
  case done5 =>
    clear hHeld
    rintro m b V hm ⟨val, rfl, hG⟩ hHeld
    obtain ⟨x1, e1, g1, z1⟩ := hG.one (hm 1 rfl)
    obtain ⟨x3, e3, g3, z3⟩ := hG.two (hm 3 rfl)
    have hV : Below w5.heap.size w5 V := HW.out.trans (hG.bel.mono HW.out.size)
    rw [(hG.a4 (hm 4 rfl)).2, (hG.a5 (hm 5 rfl)).2, e1, e3]
    obtain ⟨Bq, hBq⟩ : ∃ Bq, Bq = w5.heap.size := ⟨_, rfl⟩
    have hg1 : Bq ≤ x1 := by rw [hBq]; exact g1
    have hg3 : Bq ≤ x3 := by rw [hBq]; exact g3
    have HVM : Hid (RowsOwn Bq 36 6 (.slice (some ⟨x1, 0, none⟩) 1 1) (([(cm0, cr0, [])] : List Kept9).map (·.1)) V) := rows_lit hg1 z1 HMZ.out
    have HVR : Hid (RowsOwn Bq 41 2 (.slice (some ⟨x3, 0, none⟩) 1 1) (([(cm0, cr0, [])] : List Kept9).map (·.2.1)) V) := rows_lit hg3 z3 HRZ.out
    have HAL : Hid (AllH V s n [(cm0, cr0, [])]) := fun t ht => by simp at ht; subst ht; exact ⟨HMM0.out.later hV, HRR0.out.later hV⟩
    replace HM := Lib.hid (HM.out.later hV)
    replace HR := Lib.hid (HR.out.later hV)
    replace HC := Lib.hid ((hV.block _ (Array.getElem?_eq_some_iff.1 HC.out).1).trans HC.out)
    replace HB := Lib.hid (HB.out.trans (hV.mono HB.out.size))
    have HBQ : Hid (X < Y ∧ Y < Bq) := by show _ ∧ _; rw [hBq]; exact ⟨HXY.out, HYL.out⟩
    (try simp only [Act.put, List.setIfInBounds_toArray, List.set_cons_zero, List.set_cons_succ])
    refine wpAnyT_done (by kernel_rfl) ?_ _
    clear hHeld hm hG e1 e3 z1 z3 g1 g3 hV HKS HW hBq hg1 hg3 HMM0 HRR0 HMZ HRZ HYL
    go_wp2_with fail
    go_loopw [9, 10, 39] (fun av bv iv wl => ∃ (vm vr : Value) (j : Nat) (ts : List Kept9), vm = av ∧ vr = bv ∧ j ≤ l.length ∧ iv = .int .i64 (j : Int) ∧ Hid (ts.length = j + 1) ∧ Hid (MB wl s n (runE [] (l.take j)) X) ∧ Hid (RB wl (runE [] (l.take j)) Y) ∧ Hid (wl.heap[w.heap.size]? = some (.cells #[.int .u64 (s : Int), .int .i64 n] 24 (0, 0))) ∧ Hid (RowsOwn Bq 36 6 vm (ts.map (·.1)) wl) ∧ Hid (RowsOwn Bq 41 2 vr (ts.map (·.2.1)) wl) ∧ Hid (AllH wl s n ts ∧ ∀ t ∈ ts, Rise t.2.2 ∧ Short t.2.2 ∧ t.2.2.length ≤ 130) ∧ Hid (Below w.heap.size w wl)) (fun _ _ iv _ => l.length - (intOf iv).toNat)
    case atStart => exact ⟨_, _, 0, [(cm0, cr0, [])], rfl, rfl, Nat.zero_le _, rfl, Lib.hid rfl, HM, HR, HC, HVM, HVR, ⟨HAL.out, fun t ht => by simp at ht; subst ht; exact ⟨Rise.nil, short_nil, by simp⟩⟩, HB⟩
    case round =>
      clear HM HR HB HC HVM HVR HAL
      obtain ⟨vm, vr, j, ts, rfl, rfl, hj, rfl, HTS, HM, HR, HC, HVM, HVR, HAG, HB⟩ := hrel
      have HAL := Lib.hid HAG.out.1
      have HGO := Lib.hid HAG.out.2
      clear HAG
      have HNVM : Hid (ts.map (·.1) ≠ []) := fun h => by have h1 := congrArg List.length h; have := HTS.out; rw [List.length_map, List.length_nil] at h1; omega
      have HNVR : Hid (ts.map (·.2.1) ≠ []) := fun h => by have h1 := congrArg List.length h; have := HTS.out; rw [List.length_map, List.length_nil] at h1; omega
      by_cases hlt : j < l.length
      · as_aux_lemma =>
        have hlt' : (j : Int) < (l.length : Int) := by omega
        have had : adl = some ⟨bbl, ool, none⟩ := HLl.out.1 (by omega)
        subst had
        have HOP := Lib.hid ((HLl.out.2 j hlt).later HB.out)
        have HRI := Lib.hid (run_rise l j)
        have HLN : Hid ((runE [] (l.take j)).length ≤ 40000) := by show _ ≤ _; have := run_len l j; have := HFl.out.2; omega
        have HSH := Lib.hid (run_short l HFl.out.1 j)
        have HKL := Lib.hid (HFl.out.1 _ (List.getElem_mem hlt))
        have HEA := Lib.hid (run_take l hlt)
        have HRI2 := Lib.hid (run_rise l (j + 1))
        have HLN2 : Hid ((runE [] (l.take (j + 1))).length ≤ 40000) := by show _ ≤ _; have := run_len l (j + 1); have := HFl.out.2; omega
        have HL130 : Hid ((runE [] (l.take (j + 1))).length ≤ 130) := by show _ ≤ _; have := run_len l (j + 1); have := HFl.out.2; omega
        have HSH2 := Lib.hid (run_short l HFl.out.1 (j + 1))
        rw [HEA.out] at HRI2 HLN2 HSH2 HL130
        obtain ⟨o, ho⟩ : ∃ o, o = l[j] := ⟨_, rfl⟩
        obtain ⟨D, hD⟩ : ∃ D, D = runE [] (l.take j) := ⟨_, rfl⟩
        rw [← ho] at HOP HKL HEA HRI2 HLN2 HSH2 HL130
        rw [← hD] at HM HR HRI HLN HSH HEA HRI2 HLN2 HSH2 HL130
        have HLT := Lib.hid hlt
        clear ho hD
        go_upto_region 9 with (refine ld_op9 (by rfl) _ rfl bbl (ool + j * 3) rfl o HOP.out ?_)
        obtain ⟨OB, hOB⟩ : ∃ OB, OB = wr.heap.size := ⟨_, rfl⟩
        have hb6 := Below.newly' wr (.cells (op9C o) 45)
        have HO : Hid ((wr.alloc (.cells (op9C o) 45)).heap[OB]? = some (.cells (op9C o) 45 (0, 0))) := by show _ = _; rw [hOB]; exact heap_alloc_last _ _
        have HD : Hid (w.heap.size < X ∧ X < Y ∧ Y < Bq ∧ Bq ≤ OB) := by
          show _ ∧ _ ∧ _ ∧ _
          rw [hOB]
          exact ⟨HX3.out, HBQ.out.1, HBQ.out.2, HVM.out.2.1⟩
        replace HM := Lib.hid (HM.out.later hb6)
        replace HR := Lib.hid (HR.out.later hb6)
        replace HC := Lib.hid ((hb6.block _ (Array.getElem?_eq_some_iff.1 HC.out).1).trans HC.out)
        replace HVM := Lib.hid (HVM.out.later hb6)
        replace HVR := Lib.hid (HVR.out.later hb6)
        replace HAL := Lib.hid (HAL.out.later hb6)
        replace HB := Lib.hid (HB.out.trans (hb6.mono HB.out.size))
        obtain ⟨w6, hw6⟩ : ∃ w6, wr.alloc (.cells (op9C o) 45) = w6 := ⟨_, rfl⟩
        rw [hw6] at HM HR HC HB HO HVM HVR HAL
        rw [hw6, ← hOB]
        have hO := HO.out
        clear hb6 hw6 hOB HOP
        obtain ⟨cm1, hX1, hm1⟩ := HM.out
        have HZ1 := Lib.hid hm1.size
        obtain ⟨cm2, hX2, hm2⟩ := HR.out
        have HZ2 := Lib.hid hm2.size
        have HKS : Hid (∀ V, Below w6.heap.size w6 V → V.heap[X]? = some (.cells cm1 36 (0, 0)) ∧ V.heap[Y]? = some (.cells cm2 41 (0, 0)) ∧ V.heap[OB]? = some (.cells (op9C o) 45 (0, 0))) := fun V hV => ⟨(hV.block _ (Array.getElem?_eq_some_iff.1 hX1).1).trans hX1, (hV.block _ (Array.getElem?_eq_some_iff.1 hX2).1).trans hX2, (hV.block _ (Array.getElem?_eq_some_iff.1 hO).1).trans hO⟩
        have HDO1 := Lib.hid (fun W (hb : Below w6.heap.size w6 W) => does9 W s hss n D cm1 o (hm1.later hb) HRI.out HLN.out HKL.out (HTB.out.later (HB.out.trans (hb.mono HB.out.size))).1)
        have HDO2 := Lib.hid (fun W (hb : Below w6.heap.size w6 W) => should9 W D cm2 o (hm2.later hb) HRI.out HSH.out HLN.out HKL.out)
        clear hX1 hm1 hX2 hm2
        have HW : Hid (Below w6.heap.size w6 w6.drew) := drawn_below w6
        refine wp_region_T (S := (fun V => V.heap[X]? = some (.cells cm1 36 (0, 0)) ∧ V.heap[Y]? = some (.cells cm2 41 (0, 0)) ∧ V.heap[OB]? = some (.cells (op9C o) 45 (0, 0)))) [6, 7] (by kernel_rfl) (by exact HKS.out _ HW.out) (fun hHeld => ?_)
        refine wpAnyT_take (i := 0) (oi := ⟨some 43, _, _, _, _, _⟩) (v := _) rfl (by kernel_rfl) (by kernel_rfl) (by kernel_rfl) (by kernel_rfl) (fun _ _ _ h => h) (yieldsIf_load_row (by rfl) 36 _ rfl X rfl cm1 36 (0, 0) _ (fun w hw => hw.1) Tryz.underlying36 rfl (by rw [HZ1.out]; exact map_size)) (by assumption) ?_
        (try simp only [Act.put, List.setIfInBounds_toArray, List.set_cons_zero, List.set_cons_succ])
        refine wpAnyT_take (i := 1) (oi := ⟨some 44, _, _, _, _, _⟩) (v := _) rfl (by kernel_rfl) (by kernel_rfl) (by kernel_rfl) (by kernel_rfl) (fun _ _ _ h => h) (yieldsIf_load_row (by rfl) 45 _ rfl OB rfl (op9C o) 45 (0, 0) _ (fun w hw => hw.2.2) Tryz.underlying45 rfl (by exact op9_size)) (by assumption) ?_
        (try simp only [Act.put, List.setIfInBounds_toArray, List.set_cons_zero, List.set_cons_succ])
        refine wpAnyT_take (i := 3) (oi := ⟨some 46, _, _, _, _, _⟩) (v := _) rfl (by kernel_rfl) (by kernel_rfl) (by kernel_rfl) (by kernel_rfl) (fun _ _ _ h => h) (yieldsIf_load_row (by rfl) 41 _ rfl Y rfl cm2 41 (0, 0) _ (fun w hw => hw.2.1) Tryz.underlying41 rfl (by rw [HZ2.out]; exact refm_size)) (by assumption) ?_
        (try simp only [Act.put, List.setIfInBounds_toArray, List.set_cons_zero, List.set_cons_succ])
        refine wpAnyT_take (i := 4) (oi := ⟨some 47, _, _, _, _, _⟩) (v := _) rfl (by kernel_rfl) (by kernel_rfl) (by kernel_rfl) (by kernel_rfl) (fun _ _ _ h => h) (yieldsIf_load_row (by rfl) 45 _ rfl OB rfl (op9C o) 45 (0, 0) _ (fun w hw => hw.2.2) Tryz.underlying45 rfl (by exact op9_size)) (by assumption) ?_
        (try simp only [Act.put, List.setIfInBounds_toArray, List.set_cons_zero, List.set_cons_succ])
        refine wpAnyT_one (i := 2) (o := ⟨some 45, _, _, _, _, _⟩) (by kernel_rfl) rfl (fun K hK => ?_)
        go_simp
        go_at_call 8
        (with_reducible refine (HDO1.out _ (by exact HW.out)).mono ?_)
        rintro e wA1 ⟨cn1, rfl, hq, hb⟩
        have HQ1 := Lib.hid hq
        replace HW := Lib.hid (HW.out.trans (hb.mono HW.out.size))
        clear hq hb
        dsimp only
        refine hK.out _ _ (by exact HKS.out _ HW.out) (fun hHeld => ?_)
        clear hK K
        (try simp only [Act.put, List.setIfInBounds_toArray, List.set_cons_zero, List.set_cons_succ])
        refine wpAnyT_one (i := 5) (o := ⟨some 48, _, _, _, _, _⟩) (by kernel_rfl) rfl (fun K hK => ?_)
        go_simp
        go_at_call 9
        (with_reducible refine (HDO2.out _ (by exact HW.out)).mono ?_)
        rintro e wA2 ⟨cn2, rfl, hq, hb⟩
        have HQ2 := Lib.hid hq
        replace HQ1 := Lib.hid (HQ1.out.later hb)
        replace HW := Lib.hid (HW.out.trans (hb.mono HW.out.size))
        clear hq hb
        dsimp only
        refine hK.out _ _ (by exact HKS.out _ HW.out) (fun hHeld => ?_)
        clear hK K
        (try simp only [Act.put, List.setIfInBounds_toArray, List.set_cons_zero, List.set_cons_succ])
        refine wpAnyT_last (i := 6) (o := ⟨none, _, _, _, _, _⟩) (by kernel_rfl) (by decide) rfl (fun K hK => ?_)
        have hr1 := (HKS.out _ HW.out).1
        have hr2 := (HKS.out _ HW.out).2.1
        rw [if_pos (by rfl)]
        refine st_agg_wp 36 _ _ rfl X cn1 rfl rfl 36 _ hr1 (by rw [HQ1.out.size]; exact map_size) (by rw [HZ1.out, HQ1.out.size]) HQ1.out.one ?_
        intro wS1 hs1 ks1
        have hr2 := ks1.other hr2 (by have h := HD.out; omega)
        replace HQ2 := Lib.hid (HQ2.out.but ks1 hr1 (by decide) (by decide))
        refine hK.out _ _ ?_
        clear hK K
        (try simp only [Act.put, List.setIfInBounds_toArray, List.set_cons_zero, List.set_cons_succ])
        refine wpAnyT_last (i := 7) (o := ⟨none, _, _, _, _, _⟩) (by kernel_rfl) (by decide) rfl (fun K hK => ?_)
        rw [if_pos (by rfl)]
        refine st_agg_wp 41 _ _ rfl Y cn2 rfl rfl 41 _ hr2 (by rw [HQ2.out.size]; exact refm_size) (by rw [HZ2.out, HQ2.out.size]) HQ2.out.one ?_
        intro wS2 hs2 ks2
        refine hK.out _ _ ?_
        clear hK K
        (try simp only [Act.put, List.setIfInBounds_toArray, List.set_cons_zero, List.set_cons_succ])
        refine wpAnyT_done (by kernel_rfl) ?_ _
        replace HC := Lib.hid ((HW.out.block _ (Array.getElem?_eq_some_iff.1 HC.out).1).trans HC.out)
        replace HVM := Lib.hid (HVM.out.later HW.out)
        replace HVR := Lib.hid (HVR.out.later HW.out)
        replace HAL := Lib.hid (HAL.out.later HW.out)
        replace HB := Lib.hid (HB.out.trans (HW.out.mono HB.out.size))
        replace HC := Lib.hid (ks1.other HC.out (by have h := HD.out; omega))
        replace HVM := Lib.hid (HVM.out.but HNVM.out ks1 (by have h := HD.out; omega))
        replace HVR := Lib.hid (HVR.out.but HNVR.out ks1 (by have h := HD.out; omega))
        replace HAL := Lib.hid (HAL.out.but ks1 hr1 (by decide) (by decide) (by decide))
        replace HB := Lib.hid (HB.out.trans (ks1.below (by have h := HD.out; omega)))
        replace HC := Lib.hid (ks2.other HC.out (by have h := HD.out; omega))
        replace HVM := Lib.hid (HVM.out.but HNVM.out ks2 (by have h := HD.out; omega))
        replace HVR := Lib.hid (HVR.out.but HNVR.out ks2 (by have h := HD.out; omega))
        replace HAL := Lib.hid (HAL.out.but ks2 hr2 (by decide) (by decide) (by decide))
        replace HB := Lib.hid (HB.out.trans (ks2.below (by have h := HD.out; omega)))
        replace HM := Lib.hid ((MB.wrote hs1 ks1 hr1 HQ1.out).only ks2 hr2 (by have h := HD.out; omega) (by decide))
        replace HR := Lib.hid (RB.wrote hs2 ks2 hr2 HQ2.out)
        clear HKS HDO1 HQ1 HZ1 hs1 ks1 hr1 HDO2 HQ2 HZ2 hs2 ks2 hr2 HW hHeld
        obtain ⟨cm, hXm, hmm⟩ := HM.out
        obtain ⟨cr, hYr, hrr⟩ := HR.out
        have HX8 := Lib.hid hXm
        have HY8 := Lib.hid hYr
        have HMM := Lib.hid hmm
        have HRR := Lib.hid hrr
        have HMZ := Lib.hid hmm.size
        have HMO := Lib.hid hmm.one
        have HRZ := Lib.hid hrr.size
        have HRO := Lib.hid hrr.one
        clear hXm hYr hmm hrr HM HR
        have HGM := Lib.hid (fun W (h : ML W s n (doE D o) cm) => ml_Get W s hss n (doE D o) cm ask HASK.out h HRI2.out (Nat.le_trans HLN2.out (by omega)))
        have HGR := Lib.hid (fun W (h : RefM W cr (doE D o)) => ref_Get9 W cr (doE D o) ask h HRI2.out HSH2.out (Nat.le_trans HLN2.out (by omega)))
        obtain ⟨x0, hx0⟩ : ∃ x0, x0 = (getE (doE D o) ask).getD 0 := ⟨_, rfl⟩
        obtain ⟨q0, hq0⟩ : ∃ q0, q0 = (getE (doE D o) ask).isSome := ⟨_, rfl⟩
        rw [← hx0, ← hq0] at HGM HGR
        clear hx0 hq0
        go_upto_region 12 with (first
          | (refine ld_if (by rfl) 36 _ rfl X rfl 36 _ _ _ HX8.out Tryz.underlying36 rfl (by rw [HMZ.out]; exact map_size) ?_)
          | (refine ld_if (by rfl) 41 _ rfl Y rfl 41 _ _ _ HY8.out Tryz.underlying41 rfl (by rw [HRZ.out]; exact refm_size) ?_)
          | (go_at_call 10; (with_reducible refine (HGM.out _ HMM.out).mono ?_); rintro e w1 ⟨rfl, hb⟩; replace HX8 := Lib.hid ((hb.block _ (Array.getElem?_eq_some_iff.1 HX8.out).1).trans HX8.out); replace HY8 := Lib.hid ((hb.block _ (Array.getElem?_eq_some_iff.1 HY8.out).1).trans HY8.out); replace HC := Lib.hid ((hb.block _ (Array.getElem?_eq_some_iff.1 HC.out).1).trans HC.out); replace HVM := Lib.hid (HVM.out.later hb); replace HVR := Lib.hid (HVR.out.later hb); replace HAL := Lib.hid (HAL.out.later hb); replace HMM := Lib.hid (HMM.out.later hb); replace HRR := Lib.hid (HRR.out.later hb); replace HB := Lib.hid (HB.out.trans (hb.mono HB.out.size)); clear hb)
          | (go_at_call 11; (with_reducible refine (HGR.out _ HRR.out).mono ?_); rintro e w1 ⟨rfl, hb⟩; replace HX8 := Lib.hid ((hb.block _ (Array.getElem?_eq_some_iff.1 HX8.out).1).trans HX8.out); replace HY8 := Lib.hid ((hb.block _ (Array.getElem?_eq_some_iff.1 HY8.out).1).trans HY8.out); replace HC := Lib.hid ((hb.block _ (Array.getElem?_eq_some_iff.1 HC.out).1).trans HC.out); replace HVM := Lib.hid (HVM.out.later hb); replace HVR := Lib.hid (HVR.out.later hb); replace HAL := Lib.hid (HAL.out.later hb); replace HMM := Lib.hid (HMM.out.later hb); replace HRR := Lib.hid (HRR.out.later hb); replace HB := Lib.hid (HB.out.trans (hb.mono HB.out.size)); clear hb))
        obtain ⟨wq, hwq⟩ : ∃ wq, wq = w1 := ⟨_, rfl⟩
        rw [← hwq] at HX8 HY8 HC HB HVM HVR HAL HMM HRR ⊢
        clear hwq
        have HKS : Hid (∀ V, Below wq.heap.size wq V → V.heap[X]? = some (.cells cm 36 (0, 0)) ∧ V.heap[w.heap.size]? = some (.cells #[.int .u64 (s : Int), .int .i64 n] 24 (0, 0))) := fun V hV => ⟨row_later9 HX8.out hV, row_later9 HC.out hV⟩
        have HW : Hid (Below wq.heap.size wq wq.drew) := drawn_below wq
        have HCF := Lib.hid (fun W => ml_Conf wq s n (doE D o) cm HMM.out W)
        have hnc := fun W => neq_conf s n W
        refine wp_region_T (S := (fun V => V.heap[X]? = some (.cells cm 36 (0, 0)) ∧ V.heap[w.heap.size]? = some (.cells #[.int .u64 (s : Int), .int .i64 n] 24 (0, 0)))) [] (by kernel_rfl) (by exact HKS.out _ HW.out) (fun hHeld => ?_)
        refine wpAnyT_take (i := 0) (oi := ⟨some 61, _, _, _, _, _⟩) (v := ?vg4_0) rfl (by kernel_rfl) (by kernel_rfl) (by kernel_rfl) (by kernel_rfl) (fun _ _ _ h => h) (Or.inl ⟨by rfl, ?hg4_0⟩) (by assumption) ?rg4_0
        case hg4_0 => (intro w hSw; (try dsimp only at hSw); first | (go_simp; done) | (go_simp; with_reducible rfl))
        (try simp only [Act.put, List.setIfInBounds_toArray, List.set_cons_zero, List.set_cons_succ])
        refine wpAnyT_take (i := 1) (oi := ⟨some 62, _, _, _, _, _⟩) (v := ?vg4_1) rfl (by kernel_rfl) (by kernel_rfl) (by kernel_rfl) (by kernel_rfl) (fun _ _ _ h => h) (Or.inl ⟨by rfl, ?hg4_1⟩) (by assumption) ?rg4_1
        case hg4_1 => (intro w hSw; (try dsimp only at hSw); first | (go_simp; done) | (go_simp; with_reducible rfl))
        (try simp only [Act.put, List.setIfInBounds_toArray, List.set_cons_zero, List.set_cons_succ])
        refine wpAnyT_take (i := 2) (oi := ⟨some 63, _, _, _, _, _⟩) (v := ?vg4_2) rfl (by kernel_rfl) (by kernel_rfl) (by kernel_rfl) (by kernel_rfl) (fun _ _ _ h => h) (Or.inl ⟨by rfl, ?hg4_2⟩) (by assumption) ?rg4_2
        case hg4_2 => (intro w hSw; (try dsimp only at hSw); first | (go_simp; done) | (go_simp; with_reducible rfl))
        (try simp only [Act.put, List.setIfInBounds_toArray, List.set_cons_zero, List.set_cons_succ])
        refine wpAnyT_take (i := 3) (oi := ⟨some 64, _, _, _, _, _⟩) (v := ?vg4_3) rfl (by kernel_rfl) (by kernel_rfl) (by kernel_rfl) (by kernel_rfl) (fun _ _ _ h => h) (Or.inl ⟨by rfl, ?hg4_3⟩) (by assumption) ?rg4_3
        case hg4_3 => (intro w hSw; (try dsimp only at hSw); first | (go_simp; done) | (go_simp; with_reducible rfl))
        (try simp only [Act.put, List.setIfInBounds_toArray, List.set_cons_zero, List.set_cons_succ])
        refine wpAnyT_take (i := 4) (oi := ⟨some 65, _, _, _, _, _⟩) (v := ?vg4_4) rfl (by kernel_rfl) (by kernel_rfl) (by kernel_rfl) (by kernel_rfl) (fun _ _ _ h => h) (Or.inl ⟨by rfl, ?hg4_4⟩) (by assumption) ?rg4_4
        case hg4_4 => (intro w hSw; (try dsimp only at hSw); first | (go_simp; done) | (go_simp; with_reducible rfl))
        (try simp only [Act.put, List.setIfInBounds_toArray, List.set_cons_zero, List.set_cons_succ])
        refine wpAnyT_take (i := 5) (oi := ⟨some 66, _, _, _, _, _⟩) (v := ?vg4_5) rfl (by kernel_rfl) (by kernel_rfl) (by kernel_rfl) (by kernel_rfl) (fun _ _ _ h => h) (Or.inl ⟨by rfl, ?hg4_5⟩) (by assumption) ?rg4_5
        case hg4_5 => (intro w hSw; (try dsimp only at hSw); first | (go_simp; done) | (go_simp; with_reducible rfl))
        (try simp only [Act.put, List.setIfInBounds_toArray, List.set_cons_zero, List.set_cons_succ])
        refine wpAnyT_take (i := 6) (oi := ⟨some 67, _, _, _, _, _⟩) (v := ?vg4_6) rfl (by kernel_rfl) (by kernel_rfl) (by kernel_rfl) (by kernel_rfl) (fun _ _ _ h => h) (Or.inl ⟨by rfl, ?hg4_6⟩) (by assumption) ?rg4_6
        case hg4_6 => (intro w hSw; (try dsimp only at hSw); first | (go_simp; done) | (go_simp; with_reducible rfl))
        (try simp only [Act.put, List.setIfInBounds_toArray, List.set_cons_zero, List.set_cons_succ])
        refine wpAnyT_take (i := 7) (oi := ⟨some 68, _, _, _, _, _⟩) (v := ?vg4_7) rfl (by kernel_rfl) (by kernel_rfl) (by kernel_rfl) (by kernel_rfl) (fun _ _ _ h => h) (Or.inl ⟨by rfl, ?hg4_7⟩) (by assumption) ?rg4_7
        case hg4_7 => (intro w hSw; (try dsimp only at hSw); first | (go_simp; done) | (go_simp; with_reducible rfl))
        (try simp only [Act.put, List.setIfInBounds_toArray, List.set_cons_zero, List.set_cons_succ])
        refine wpAnyT_take (i := 8) (oi := ⟨some 69, _, _, _, _, _⟩) (v := ?vg4_8) rfl (by kernel_rfl) (by kernel_rfl) (by kernel_rfl) (by kernel_rfl) (fun _ _ _ h => h) (Or.inl ⟨by rfl, ?hg4_8⟩) (by assumption) ?rg4_8
        case hg4_8 => (intro w hSw; (try dsimp only at hSw); first | (go_simp; done) | (go_simp; with_reducible rfl))
        (try simp only [Act.put, List.setIfInBounds_toArray, List.set_cons_zero, List.set_cons_succ])
        refine wpAnyT_take (i := 9) (oi := ⟨some 70, _, _, _, _, _⟩) (v := _) rfl (by kernel_rfl) (by kernel_rfl) (by kernel_rfl) (by kernel_rfl) (fun _ _ _ h => h) (yieldsIf_load_row (by rfl) 36 _ rfl X rfl cm 36 (0, 0) _ (fun w hw => hw.1) Tryz.underlying36 rfl (by rw [HMZ.out]; exact map_size)) (by assumption) ?_
        (try simp only [Act.put, List.setIfInBounds_toArray, List.set_cons_zero, List.set_cons_succ])
        refine wpAnyT_take (i := 11) (oi := ⟨some 72, _, _, _, _, _⟩) (v := _) rfl (by kernel_rfl) (by kernel_rfl) (by kernel_rfl) (by kernel_rfl) (fun _ _ _ h => h) (yieldsIf_load_row (by rfl) 24 _ rfl w.heap.size rfl #[.int .u64 (s : Int), .int .i64 n] 24 (0, 0) _ (fun w hw => hw.2) Tryz.underlying24 rfl (by exact api_size)) (by assumption) ?_
        (try simp only [Act.put, List.setIfInBounds_toArray, List.set_cons_zero, List.set_cons_succ])
        refine wpAnyT_one (i := 10) (o := ⟨some 71, _, _, _, _, _⟩) (by kernel_rfl) rfl (fun K hK => ?_)
        go_simp
        go_at_call 12
        (with_reducible refine (HCF.out _).mono ?_)
        rintro e w7 ⟨rfl, hb⟩
        replace HW := Lib.hid (HW.out.trans (hb.mono HW.out.size))
        clear hb
        dsimp only
        refine hK.out _ _ (by exact HKS.out _ HW.out) (fun hHeld => ?_)
        clear hK K
        (try simp only [Act.put, List.setIfInBounds_toArray, List.set_cons_zero, List.set_cons_succ])
        refine wpAnyT_take (i := 12) (oi := ⟨some 73, _, _, _, _, _⟩) (v := ?vg4_12) rfl (by kernel_rfl) (by kernel_rfl) (by kernel_rfl) (by kernel_rfl) (fun _ _ _ h => h) (Or.inl ⟨by rfl, ?hg4_12⟩) (by assumption) ?rg4_12
        case hg4_12 => (intro w hSw; (try dsimp only at hSw); first | (go_simp; done) | (go_simp; with_reducible rfl))
        (try simp only [Act.put, List.setIfInBounds_toArray, List.set_cons_zero, List.set_cons_succ])
        refine wpAnyT_take (i := 13) (oi := ⟨some 74, _, _, _, _, _⟩) (v := ?vg4_13) rfl (by kernel_rfl) (by kernel_rfl) (by kernel_rfl) (by kernel_rfl) (fun _ _ _ h => h) (Or.inl ⟨by rfl, ?hg4_13⟩) (by assumption) ?rg4_13
        case hg4_13 => (intro w hSw; (try dsimp only at hSw); first | (go_simp; done) | (go_simp; with_reducible rfl))
        (try simp only [Act.put, List.setIfInBounds_toArray, List.set_cons_zero, List.set_cons_succ])
        refine wpAnyT_done (by kernel_rfl) ?_ _
        clear hHeld hnc HCF HKS
        replace HX8 := Lib.hid ((HW.out.block _ (Array.getElem?_eq_some_iff.1 HX8.out).1).trans HX8.out)
        replace HY8 := Lib.hid ((HW.out.block _ (Array.getElem?_eq_some_iff.1 HY8.out).1).trans HY8.out)
        replace HC := Lib.hid ((HW.out.block _ (Array.getElem?_eq_some_iff.1 HC.out).1).trans HC.out)
        replace HVM := Lib.hid (HVM.out.later HW.out)
        replace HVR := Lib.hid (HVR.out.later HW.out)
        replace HAL := Lib.hid (HAL.out.later HW.out)
        replace HMM := Lib.hid (HMM.out.later HW.out)
        replace HRR := Lib.hid (HRR.out.later HW.out)
        replace HB := Lib.hid (HB.out.trans (HW.out.mono HB.out.size))
        clear HW
        go_upto_region 14 with fail
        obtain ⟨wz, hwz⟩ : ∃ wz, wz = w7 := ⟨_, rfl⟩
        rw [← hwz] at HX8 HY8 HC HB HVM HVR HAL HMM HRR ⊢
        clear hwz
        have hbz := drawn_below wz
        replace HX8 := Lib.hid ((hbz.block _ (Array.getElem?_eq_some_iff.1 HX8.out).1).trans HX8.out)
        replace HY8 := Lib.hid ((hbz.block _ (Array.getElem?_eq_some_iff.1 HY8.out).1).trans HY8.out)
        replace HC := Lib.hid ((hbz.block _ (Array.getElem?_eq_some_iff.1 HC.out).1).trans HC.out)
        replace HVM := Lib.hid (HVM.out.later hbz)
        replace HVR := Lib.hid (HVR.out.later hbz)
        replace HAL := Lib.hid (HAL.out.later hbz)
        replace HMM := Lib.hid (HMM.out.later hbz)
        replace HRR := Lib.hid (HRR.out.later hbz)
        replace HB := Lib.hid (HB.out.trans (hbz.mono HB.out.size))
        clear hbz
        have HDB : Hid (w.heap.size < Bq ∧ X < Bq ∧ Y < Bq) := by show _ ∧ _ ∧ _; have h := HD.out; omega
        have HTNE : Hid (ts ≠ []) := fun e => HNVM.out (by rw [e]; rfl)
        have HT130 : Hid (ts.length ≤ 130) := by show _ ≤ _; have h1 := HTS.out; have h2 := HLT.out; have h3 := HFl.out.2; omega
        refine wp_region_T (S := (fun V => V.heap[X]? = some (.cells cm 36 (0, 0)) ∧ V.heap[Y]? = some (.cells cr 41 (0, 0)))) [] (by kernel_rfl) (by exact ⟨HX8.out, HY8.out⟩) (fun hHeld => ?_)
        refine wpAnyT_take (i := 0) (oi := ⟨some 75, _, _, _, _, _⟩) (v := ?vg5_0) rfl (by kernel_rfl) (by kernel_rfl) (by kernel_rfl) (by kernel_rfl) (fun _ _ _ h => h) (Or.inl ⟨by rfl, ?hg5_0⟩) (by assumption) ?rg5_0
        case hg5_0 => (intro w hSw; (try dsimp only at hSw); first | (go_simp; done) | (go_simp; with_reducible rfl))
        (try simp only [Act.put, List.setIfInBounds_toArray, List.set_cons_zero, List.set_cons_succ])
        refine wpAnyT_take (i := 4) (oi := ⟨some 79, _, _, _, _, _⟩) (v := ?vg5_4) rfl (by kernel_rfl) (by kernel_rfl) (by kernel_rfl) (by kernel_rfl) (fun _ _ _ h => h) (Or.inl ⟨by rfl, ?hg5_4⟩) (by assumption) ?rg5_4
        case hg5_4 => (intro w hSw; (try dsimp only at hSw); first | (go_simp; done) | (go_simp; with_reducible rfl))
        (try simp only [Act.put, List.setIfInBounds_toArray, List.set_cons_zero, List.set_cons_succ])
        refine wpAnyT_take (i := 1) (oi := ⟨some 76, _, _, _, _, _⟩) (v := _) rfl (by kernel_rfl) (by kernel_rfl) (by kernel_rfl) (by kernel_rfl) (fun _ _ _ h => h) (yieldsIf_load_row (by rfl) 36 _ rfl X rfl cm 36 (0, 0) _ (fun w hw => hw.1) Tryz.underlying36 rfl (by rw [HMZ.out]; exact map_size)) (by assumption) ?_
        (try simp only [Act.put, List.setIfInBounds_toArray, List.set_cons_zero, List.set_cons_succ])
        refine wpAnyT_take (i := 5) (oi := ⟨some 80, _, _, _, _, _⟩) (v := _) rfl (by kernel_rfl) (by kernel_rfl) (by kernel_rfl) (by kernel_rfl) (fun _ _ _ h => h) (yieldsIf_load_row (by rfl) 41 _ rfl Y rfl cr 41 (0, 0) _ (fun w hw => hw.2) Tryz.underlying41 rfl (by rw [HRZ.out]; exact refm_size)) (by assumption) ?_
        (try simp only [Act.put, List.setIfInBounds_toArray, List.set_cons_zero, List.set_cons_succ])
        refine wpAnyT_groupA (n := 2) [2, 3, 6, 7] (fun a0 m b V => ∃ val : Nat → Value, b = (((a0.put (some 77) (val 2)).put (some 78) (val 3)).put (some 81) (val 6)).put (some 82) (val 7) ∧ App9 w s n Bq X Y (doE D o) cm cr ts vm vr V m val) rfl (by kernel_rfl) ⟨fun k => if k = 2 then _ else if k = 3 then _ else if k = 6 then _ else _, rfl, { hb := HB.out, hX := HX8.out, hY := HY8.out, hC := HC.out, hm := HMM.out, hr := HRR.out, ha := HAL.out, x2 := fun h => (by cases h), x6 := fun h => (by cases h), r3n := fun _ => HVM.out, r3y := fun h => (by cases h), r7n := fun _ => HVR.out, r7y := fun h => (by cases h) }⟩ (by assumption) ?step14 ?done14
        case step14 =>
          as_aux_lemma =>
          clear hHeld
          rintro m i b V hi hni hwt ⟨val, rfl, hG⟩ hS
          (try simp only [Act.put, List.setIfInBounds_toArray, List.set_cons_zero, List.set_cons_succ])
          have HG := Lib.hid hG
          clear hG hS
          rcases (by simp only [List.mem_cons, List.not_mem_nil, or_false] at hi; omega : i = 2 ∨ i = 3 ∨ i = 6 ∨ i = 7) with rfl | rfl | rfl | rfl
          · refine group_one (o := ⟨some 77, _, _, _, _, _⟩) rfl (fun K hK => ?_)
            rw [if_pos (by rfl)]
            refine bs_wp 42 36 _ rfl cm 6 (.agg #[.int .u64 0, .int .i64 0, .int .i64 0, .int .u32 0, .slice none 0 0, .slice none 0 0]) rfl HMZ.out (by decide) (by decide) Tryz.underlying42 (by kernel_rfl) ?_
            intro V2 hx2 hb2 _
            exact hK _ _ ⟨row_later9 HG.out.hX hb2, row_later9 HG.out.hY hb2⟩ ⟨_, rfl, HG.out.bs2 hb2 hx2⟩
          · have h2m : 2 ∈ m := hwt 2 rfl (by kernel_rfl)
            obtain ⟨x, e, hx⟩ := HG.out.x2 h2m hni
            refine group_one (o := ⟨some 78, _, _, _, _, _⟩) rfl (fun K hK => ?_)
            rw [if_pos (by rfl)]
            refine rows_wp (z := .agg #[.int .u64 0, .int .i64 0, .int .i64 0, .int .u32 0, .slice none 0 0, .slice none 0 0]) (by_ := 80) 42 36 _ _ rfl rfl (HG.out.r3n hni) x (by exact e) hx HMZ.out HMO.out Tryz.underlying42 (by kernel_rfl) rfl (by decide) (by have h := HT130.out; rw [List.length_map]; omega) (by decide) ?_
            intro v2 V2 hrow hg
            have hap := App9.app3 HDB.out HTNE.out HG.out hni hrow hg
            exact hK _ _ ⟨hap.hX, hap.hY⟩ ⟨_, rfl, hap⟩
          · refine group_one (o := ⟨some 81, _, _, _, _, _⟩) rfl (fun K hK => ?_)
            rw [if_pos (by rfl)]
            refine bs_wp 43 41 _ rfl cr 2 (.agg #[.slice none 0 0, .slice none 0 0]) rfl HRZ.out (by decide) (by decide) Tryz.underlying43 (by kernel_rfl) ?_
            intro V2 hx2 hb2 _
            exact hK _ _ ⟨row_later9 HG.out.hX hb2, row_later9 HG.out.hY hb2⟩ ⟨_, rfl, HG.out.bs6 hb2 hx2⟩
          · have h6m : 6 ∈ m := hwt 6 rfl (by kernel_rfl)
            obtain ⟨x, e, hx⟩ := HG.out.x6 h6m hni
            refine group_one (o := ⟨some 82, _, _, _, _, _⟩) rfl (fun K hK => ?_)
            rw [if_pos (by rfl)]
            refine rows_wp (z := .agg #[.slice none 0 0, .slice none 0 0]) (by_ := 48) 43 41 _ _ rfl rfl (HG.out.r7n hni) x (by exact e) hx HRZ.out HRO.out Tryz.underlying43 (by kernel_rfl) rfl (by decide) (by have h := HT130.out; rw [List.length_map]; omega) (by decide) ?_
            intro v2 V2 hrow hg
            have hap := App9.app7 HDB.out HTNE.out HG.out hni hrow hg
            exact hK _ _ ⟨hap.hX, hap.hY⟩ ⟨_, rfl, hap⟩
        case done14 =>
          clear hHeld
          rintro m b V hm ⟨val, rfl, hG⟩ hHeld
          have HG := Lib.hid hG
          have HV3 := Lib.hid (hG.r3y (hm 3 rfl))
          have HV7 := Lib.hid (hG.r7y (hm 7 rfl))
          clear hG hm
          (try simp only [Act.put, List.setIfInBounds_toArray, List.set_cons_zero, List.set_cons_succ])
          refine wpAnyT_take (i := 8) (oi := ⟨some 9, _, _, _, _, _⟩) (v := ?v14_8) rfl (by kernel_rfl) (by kernel_rfl) (by kernel_rfl) (by kernel_rfl) (fun _ _ _ h => h) (Or.inl ⟨by rfl, ?h14_8⟩) (by assumption) ?r14_8
          case h14_8 => (intro w hSw; (try dsimp only at hSw); first | (go_simp; done) | (go_simp; with_reducible rfl))
          (try simp only [Act.put, List.setIfInBounds_toArray, List.set_cons_zero, List.set_cons_succ])
          refine wpAnyT_take (i := 9) (oi := ⟨some 10, _, _, _, _, _⟩) (v := ?v14_9) rfl (by kernel_rfl) (by kernel_rfl) (by kernel_rfl) (by kernel_rfl) (fun _ _ _ h => h) (Or.inl ⟨by rfl, ?h14_9⟩) (by assumption) ?r14_9
          case h14_9 => (intro w hSw; (try dsimp only at hSw); first | (go_simp; done) | (go_simp; with_reducible rfl))
          (try simp only [Act.put, List.setIfInBounds_toArray, List.set_cons_zero, List.set_cons_succ])
          refine wpAnyT_done (by kernel_rfl) ?_ _
          clear hHeld
          go_wp2_with fail
          go_roundw
          case rel =>
            refine ⟨_, _, j + 1, ts ++ [(cm, cr, doE D o)], rfl, rfl, by have := HLT.out; omega, by simp, ?_, ?_, ?_, HG.out.hC, ?_, ?_, ⟨HG.out.ha.snoc HG.out.hm HG.out.hr, fun t ht => ?_⟩, HG.out.hb⟩
            · show (ts ++ [(cm, cr, doE D o)]).length = j + 1 + 1
              rw [List.length_append, HTS.out]; rfl
            · rw [HEA.out]; exact ⟨cm, HG.out.hX, HG.out.hm⟩
            · rw [HEA.out]; exact ⟨cr, HG.out.hY, HG.out.hr⟩
            · rw [List.map_append]; exact HV3.out
            · rw [List.map_append]; exact HV7.out
            · rcases List.mem_append.1 ht with ht | ht
              · exact HGO.out t ht
              · simp at ht; subst ht; exact ⟨HRI2.out, HSH2.out, HL130.out⟩
          case measure => have := HLT.out; simp [intOf]; omega
      · obtain rfl : j = l.length := by omega
        as_aux_lemma =>
        have hRI := run_rise l l.length
        have hLN : (runE [] (l.take l.length)).length ≤ 120 := by have := run_len l l.length; have := HFl.out.2; omega
        have hSH := run_short l HFl.out.1 l.length
        obtain ⟨L, hL⟩ : ∃ L, L = runE [] (l.take l.length) := ⟨_, rfl⟩
        rw [← hL] at hRI hLN hSH HM HR
        have HRL := Lib.hid (And.intro hRI (And.intro hLN hSH))
        clear hL hRI hLN hSH
        obtain ⟨gr, cpr, _, _, hvr, _, _, _⟩ := HVM.out.at_ HNVM.out
        rw [List.length_map] at hvr
        subst hvr
        obtain ⟨gs, cps, _, _, hvs, _, _, _⟩ := HVR.out.at_ HNVR.out
        rw [List.length_map] at hvs
        subst hvs
        have hts130 : (ts.length : Int) ≤ 130 := by have h1 := HTS.out; have h3 := HFl.out.2; omega
        obtain ⟨N, hN⟩ : ∃ N, N = ts.length := ⟨_, rfl⟩
        rw [← hN] at HVM HVR HTS hts130 ⊢
        have HN := Lib.hid hN
        clear hN
        go_wp2_with fail
        obtain ⟨w0, hw0⟩ : ∃ w0, w0 = wr := ⟨_, rfl⟩
        rw [← hw0] at HM HR HC HB HVM HVR HAL ⊢
        clear hw0
        have HW0 : Hid (Below w0.heap.size w0 w0) := Below.refl _ _
        go_loopw [86] (fun iv wl => ∃ i : Nat, i ≤ N ∧ iv = .int .i64 (i : Int) ∧ Hid (Below w0.heap.size w0 wl)) (fun iv _ => N - (intOf iv).toNat)
        case atStart => exact ⟨0, Nat.zero_le _, rfl, HW0⟩
        case round =>
          clear HW0
          obtain ⟨i, hi, rfl, HW⟩ := hrel
          by_cases hlt2 : i < N
          · as_aux_lemma =>
            have hlt2' : (i : Int) < (N : Int) := by omega
            have i0 : (0 : Int) ≤ (i : Int) := by omega
            have hit : i < ts.length := by rw [← HN.out]; exact hlt2
            have hti : ts[i]? = some ts[i] := List.getElem?_eq_getElem hit
            have HAI := Lib.hid (HAL.out ts[i] (List.getElem_mem hit))
            have HGI := Lib.hid (HGO.out ts[i] (List.getElem_mem hit))
            have HRI := Lib.hid (HVM.out.read (i := i) (c := ts[i].1) rfl (by rw [List.getElem?_map, hti]; rfl))
            have HSI := Lib.hid (HVR.out.read (i := i) (c := ts[i].2.1) rfl (by rw [List.getElem?_map, hti]; rfl))
            obtain ⟨⟨ci, di, li⟩, hx⟩ : ∃ x, x = ts[i] := ⟨_, rfl⟩
            rw [← hx] at HAI HRI HSI HGI
            simp only at HAI HRI HSI HGI
            have HSZi := Lib.hid HAI.out.1.size
            have HSRi := Lib.hid HAI.out.2.size
            have HLT2 := Lib.hid hlt2
            clear hti hx hit
            have HSM := Lib.hid (fun W (hW : Below w0.heap.size w0 W) => same9 W s hss n li ci di (HAI.out.1.later hW) (HAI.out.2.later hW) HGI.out.1 HGI.out.2.1 (Nat.le_trans HGI.out.2.2 (by omega)) (HTB.out.later (HB.out.trans (hW.mono HB.out.size))).six)
            go_upto_region 19 with fail
            have hb := drawn_below wr
            replace HW := Lib.hid (HW.out.trans (hb.mono HW.out.size))
            have HKS : Hid (∀ V, Below w0.heap.size w0 V → V.rangeAt gr (i * 6) ci.toList ∧ V.rangeAt gs (i * 2) di.toList) := fun V h => ⟨rangeAt_later HRI.out h, rangeAt_later HSI.out h⟩
            clear hb
            refine wp_region_T (S := (fun V => V.rangeAt gr (i * 6) ci.toList ∧ V.rangeAt gs (i * 2) di.toList)) [] (by kernel_rfl) (by exact HKS.out _ HW.out) (fun hHeld => ?_)
            refine wpAnyT_take (i := 0) (oi := ⟨some 89, _, _, _, _, _⟩) (v := ?vg6_0) rfl (by kernel_rfl) (by kernel_rfl) (by kernel_rfl) (by kernel_rfl) (fun _ _ _ h => h) (Or.inl ⟨by rfl, ?hg6_0⟩) (by assumption) ?rg6_0
            case hg6_0 => (intro w hSw; (try dsimp only at hSw); first | (go_simp; done) | (go_simp; with_reducible rfl))
            (try simp only [Act.put, List.setIfInBounds_toArray, List.set_cons_zero, List.set_cons_succ])
            refine wpAnyT_take (i := 1) (oi := ⟨some 90, _, _, _, _, _⟩) (v := ?vg6_1) rfl (by kernel_rfl) (by kernel_rfl) (by kernel_rfl) (by kernel_rfl) (fun _ _ _ h => h) (Or.inl ⟨by rfl, ?hg6_1⟩) (by assumption) ?rg6_1
            case hg6_1 => (intro w hSw; (try dsimp only at hSw); first | (go_simp; done) | (go_simp; with_reducible rfl))
            (try simp only [Act.put, List.setIfInBounds_toArray, List.set_cons_zero, List.set_cons_succ])
            refine wpAnyT_take (i := 2) (oi := ⟨some 91, _, _, _, _, _⟩) (v := ?vg6_2) rfl (by kernel_rfl) (by kernel_rfl) (by kernel_rfl) (by kernel_rfl) (fun _ _ _ h => h) (Or.inl ⟨by rfl, ?hg6_2⟩) (by assumption) ?rg6_2
            case hg6_2 => (intro w hSw; (try dsimp only at hSw); first | (go_simp; done) | (go_simp; with_reducible rfl))
            (try simp only [Act.put, List.setIfInBounds_toArray, List.set_cons_zero, List.set_cons_succ])
            refine wpAnyT_take (i := 3) (oi := ⟨some 92, _, _, _, _, _⟩) (v := _) rfl (by kernel_rfl) (by kernel_rfl) (by kernel_rfl) (by kernel_rfl) (fun _ _ _ h => h) (yieldsIf_arr (by rfl) 36 _ rfl gr (i * 6) rfl ci _ (fun w hw => hw.1) Tryz.underlying36 rfl (by rw [HSZi.out]; exact map_size)) (by assumption) ?_
            (try simp only [Act.put, List.setIfInBounds_toArray, List.set_cons_zero, List.set_cons_succ])
            refine wpAnyT_take (i := 4) (oi := ⟨some 93, _, _, _, _, _⟩) (v := ?vg6_4) rfl (by kernel_rfl) (by kernel_rfl) (by kernel_rfl) (by kernel_rfl) (fun _ _ _ h => h) (Or.inl ⟨by rfl, ?hg6_4⟩) (by assumption) ?rg6_4
            case hg6_4 => (intro w hSw; (try dsimp only at hSw); first | (go_simp; done) | (go_simp; with_reducible rfl))
            (try simp only [Act.put, List.setIfInBounds_toArray, List.set_cons_zero, List.set_cons_succ])
            refine wpAnyT_take (i := 5) (oi := ⟨some 94, _, _, _, _, _⟩) (v := ?vg6_5) rfl (by kernel_rfl) (by kernel_rfl) (by kernel_rfl) (by kernel_rfl) (fun _ _ _ h => h) (Or.inl ⟨by rfl, ?hg6_5⟩) (by assumption) ?rg6_5
            case hg6_5 => (intro w hSw; (try dsimp only at hSw); first | (go_simp; done) | (go_simp; with_reducible rfl))
            (try simp only [Act.put, List.setIfInBounds_toArray, List.set_cons_zero, List.set_cons_succ])
            refine wpAnyT_take (i := 6) (oi := ⟨some 95, _, _, _, _, _⟩) (v := ?vg6_6) rfl (by kernel_rfl) (by kernel_rfl) (by kernel_rfl) (by kernel_rfl) (fun _ _ _ h => h) (Or.inl ⟨by rfl, ?hg6_6⟩) (by assumption) ?rg6_6
            case hg6_6 => (intro w hSw; (try dsimp only at hSw); first | (go_simp; done) | (go_simp; with_reducible rfl))
            (try simp only [Act.put, List.setIfInBounds_toArray, List.set_cons_zero, List.set_cons_succ])
            refine wpAnyT_take (i := 7) (oi := ⟨some 96, _, _, _, _, _⟩) (v := _) rfl (by kernel_rfl) (by kernel_rfl) (by kernel_rfl) (by kernel_rfl) (fun _ _ _ h => h) (yieldsIf_arr (by rfl) 41 _ rfl gs (i * 2) rfl di _ (fun w hw => hw.2) Tryz.underlying41 rfl (by rw [HSRi.out]; exact refm_size)) (by assumption) ?_
            (try simp only [Act.put, List.setIfInBounds_toArray, List.set_cons_zero, List.set_cons_succ])
            refine wpAnyT_one (i := 8) (o := ⟨some 97, _, _, _, _, _⟩) (by kernel_rfl) rfl (fun K hK => ?_)
            go_simp
            go_at_call 13
            (with_reducible refine (HSM.out _ HW.out).mono ?_)
            rintro e w6 ⟨rfl, hb⟩
            replace HW := Lib.hid (HW.out.trans (hb.mono HW.out.size))
            clear hb
            dsimp only
            refine hK.out _ _ (by exact HKS.out _ HW.out) (fun hHeld => ?_)
            clear hK K
            (try simp only [Act.put, List.setIfInBounds_toArray, List.set_cons_zero, List.set_cons_succ])
            refine wpAnyT_take (i := 9) (oi := ⟨some 98, _, _, _, _, _⟩) (v := ?vg6_9) rfl (by kernel_rfl) (by kernel_rfl) (by kernel_rfl) (by kernel_rfl) (fun _ _ _ h => h) (Or.inl ⟨by rfl, ?hg6_9⟩) (by assumption) ?rg6_9
            case hg6_9 => (intro w hSw; (try dsimp only at hSw); first | (go_simp; done) | (go_simp; with_reducible rfl))
            (try simp only [Act.put, List.setIfInBounds_toArray, List.set_cons_zero, List.set_cons_succ])
            refine wpAnyT_done (by kernel_rfl) ?_ _
            clear hHeld
            go_wp2_with fail
            go_roundw
            case rel => exact ⟨i + 1, by have := HLT2.out; omega, by simp, HW⟩
            case measure => have := HLT2.out; simp [intOf]; omega
          · as_aux_lemma =>
            have hlt2' : ¬ (i : Int) < (N : Int) := by omega
            have HB2 := Lib.hid (HB.out.trans (HW.out.mono HB.out.size))
            obtain ⟨cm, hXm, hmm⟩ := HM.out.later HW.out
            obtain ⟨cr, hXr, hrr⟩ := HR.out.later HW.out
            obtain ⟨kv, xv, rfl, hkv, hxv⟩ := hrr
            obtain ⟨a1, c1, rfl, _⟩ := hkv.shape
            have hcc := row_later9 HC.out HW.out
            clear HVM HVR HAL HM HR HC HB HW HN HGO HTS HNVM HNVR hts130 hlt2
            go_upto_region 22 with fail
            have HMZ := Lib.hid hmm.size
            have HSHP := Lib.hid (fun W (hW : Below wr.heap.size wr W) => ml_Shape W s n L cm (hmm.later hW) (Nat.le_trans HRL.out.2.1 (by omega)) (HTB.out.later (HB2.out.trans (hW.mono HB2.out.size))))
            have HRSP := Lib.hid (fun W (hW : Below wr.heap.size wr W) => ref_Shape9 s hss n W _ (keysE L) (hkv.later hW) (by rw [keysE_len]; exact Nat.le_trans HRL.out.2.1 (by omega)) (fun k hk => by
              obtain ⟨e, he, rfl⟩ := List.mem_map.1 hk
              exact Nat.le_trans (HRL.out.2.2 e he) (by decide)))
            have HSU1 := Lib.hid (fun W => ml_Sum wr s hss n L cm hmm ask HASK.out W)
            have HSU2 := Lib.hid (fun W => ref_Sum9 W s hss n ask HASK.out)
            obtain ⟨sh, hsh⟩ : ∃ sh : ByteArray, sh = ⟨(shapeF (hsN s n) 13 (keysE L)).toArray⟩ := ⟨_, rfl⟩
            obtain ⟨su, hsu⟩ : ∃ su, su = hsN s n ask := ⟨_, rfl⟩
            rw [← hsh] at HSHP HRSP
            rw [← hsu] at HSU1 HSU2
            obtain ⟨N1, hN1⟩ : ∃ N1, N1 = (keysE L).length := ⟨_, rfl⟩
            rw [← hN1] at HRSP hXr
            have HKS : Hid (∀ V, Below wr.heap.size wr V → V.heap[X]? = some (.cells cm 36 (0, 0)) ∧ V.heap[w.heap.size]? = some (.cells #[.int .u64 (s : Int), .int .i64 n] 24 (0, 0)) ∧ V.cell? ⟨Y, 0, none⟩ = some (.slice a1 N1 c1)) := fun V hV => ⟨row_later9 hXm hV, row_later9 hcc hV, cell_in (row_later9 hXr hV) rfl⟩
            have HW : Hid (Below wr.heap.size wr wr.drew) := drawn_below wr
            clear hXm hXr hkv hxv hsh hsu hN1 hmm hcc
            refine wp_region_T (S := (fun V => V.heap[X]? = some (.cells cm 36 (0, 0)) ∧ V.heap[w.heap.size]? = some (.cells #[.int .u64 (s : Int), .int .i64 n] 24 (0, 0)) ∧ V.cell? ⟨Y, 0, none⟩ = some (.slice a1 N1 c1))) [] (by kernel_rfl) (by exact HKS.out _ HW.out) (fun hHeld => ?_)
            refine wpAnyT_take (i := 0) (oi := ⟨some 100, _, _, _, _, _⟩) (v := _) rfl (by kernel_rfl) (by kernel_rfl) (by kernel_rfl) (by kernel_rfl) (fun _ _ _ h => h) (yieldsIf_load_row (by rfl) 36 _ rfl X rfl cm 36 (0, 0) _ (fun w hw => hw.1) Tryz.underlying36 rfl (by rw [HMZ.out]; exact map_size)) (by assumption) ?_
            (try simp only [Act.put, List.setIfInBounds_toArray, List.set_cons_zero, List.set_cons_succ])
            refine wpAnyT_take (i := 2) (oi := ⟨some 102, _, _, _, _, _⟩) (v := _) rfl (by kernel_rfl) (by kernel_rfl) (by kernel_rfl) (by kernel_rfl) (fun _ _ _ h => h) (yieldsIf_load_row (by rfl) 24 _ rfl w.heap.size rfl #[.int .u64 (s : Int), .int .i64 n] 24 (0, 0) _ (fun w hw => hw.2.1) Tryz.underlying24 rfl (by exact api_size)) (by assumption) ?_
            (try simp only [Act.put, List.setIfInBounds_toArray, List.set_cons_zero, List.set_cons_succ])
            refine wpAnyT_take (i := 3) (oi := ⟨some 103, _, _, _, _, _⟩) (v := ?vg7_3) rfl (by kernel_rfl) (by kernel_rfl) (by kernel_rfl) (by kernel_rfl) (fun _ _ _ h => h) (Or.inl ⟨by rfl, ?hg7_3⟩) (by assumption) ?rg7_3
            case hg7_3 => (intro w hSw; (try dsimp only at hSw); first | (go_simp; done) | (go_simp; with_reducible rfl))
            (try simp only [Act.put, List.setIfInBounds_toArray, List.set_cons_zero, List.set_cons_succ])
            refine wpAnyT_take (i := 4) (oi := ⟨some 104, _, _, _, _, _⟩) (v := ?vg7_4) rfl (by kernel_rfl) (by kernel_rfl) (by kernel_rfl) (by kernel_rfl) (fun _ _ _ h => h) (Or.inl ⟨by rfl, ?hg7_4⟩) (by assumption) ?rg7_4
            case hg7_4 => (intro w hSw; (try dsimp only at hSw); first | (go_simp; done) | (go_simp; with_reducible rfl))
            (try simp only [Act.put, List.setIfInBounds_toArray, List.set_cons_zero, List.set_cons_succ])
            refine wpAnyT_one (i := 1) (o := ⟨some 101, _, _, _, _, _⟩) (by kernel_rfl) rfl (fun K hK => ?_)
            go_simp
            go_at_call 14
            (with_reducible refine (HSHP.out _ HW.out).mono ?_)
            rintro e w7 ⟨rfl, hb⟩
            replace HW := Lib.hid (HW.out.trans (hb.mono HW.out.size))
            clear hb
            dsimp only
            refine hK.out _ _ (by exact HKS.out _ HW.out) (fun hHeld => ?_)
            clear hK K
            (try simp only [Act.put, List.setIfInBounds_toArray, List.set_cons_zero, List.set_cons_succ])
            refine wpAnyT_one (i := 5) (o := ⟨some 105, _, _, _, _, _⟩) (by kernel_rfl) rfl (fun K hK => ?_)
            go_simp
            go_at_call 15
            (with_reducible refine (HRSP.out _ HW.out).mono ?_)
            rintro e w8 ⟨rfl, hb⟩
            replace HW := Lib.hid (HW.out.trans (hb.mono HW.out.size))
            clear hb
            dsimp only
            refine hK.out _ _ (by exact HKS.out _ HW.out) (fun hHeld => ?_)
            clear hK K
            (try simp only [Act.put, List.setIfInBounds_toArray, List.set_cons_zero, List.set_cons_succ])
            refine wpAnyT_take (i := 6) (oi := ⟨some 106, _, _, _, _, _⟩) (v := ?vg7_6) rfl (by kernel_rfl) (by kernel_rfl) (by kernel_rfl) (by kernel_rfl) (fun _ _ _ h => h) (Or.inl ⟨by rfl, ?hg7_6⟩) (by assumption) ?rg7_6
            case hg7_6 => (intro w hSw; (try dsimp only at hSw); first | (go_simp; done) | (go_simp; with_reducible rfl))
            (try simp only [Act.put, List.setIfInBounds_toArray, List.set_cons_zero, List.set_cons_succ])
            refine wpAnyT_take (i := 7) (oi := ⟨some 107, _, _, _, _, _⟩) (v := ?vg7_7) rfl (by kernel_rfl) (by kernel_rfl) (by kernel_rfl) (by kernel_rfl) (fun _ _ _ h => h) (Or.inl ⟨by rfl, ?hg7_7⟩) (by assumption) ?rg7_7
            case hg7_7 => (intro w hSw; (try dsimp only at hSw); first | (go_simp; done) | (go_simp; with_reducible rfl))
            (try simp only [Act.put, List.setIfInBounds_toArray, List.set_cons_zero, List.set_cons_succ])
            refine wpAnyT_take (i := 8) (oi := ⟨some 108, _, _, _, _, _⟩) (v := _) rfl (by kernel_rfl) (by kernel_rfl) (by kernel_rfl) (by kernel_rfl) (fun _ _ _ h => h) (yieldsIf_load_row (by rfl) 36 _ rfl X rfl cm 36 (0, 0) _ (fun w hw => hw.1) Tryz.underlying36 rfl (by rw [HMZ.out]; exact map_size)) (by assumption) ?_
            (try simp only [Act.put, List.setIfInBounds_toArray, List.set_cons_zero, List.set_cons_succ])
            refine wpAnyT_take (i := 9) (oi := ⟨some 109, _, _, _, _, _⟩) (v := ?vg7_9) rfl (by kernel_rfl) (by kernel_rfl) (by kernel_rfl) (by kernel_rfl) (fun _ _ _ h => h) (Or.inl ⟨by rfl, ?hg7_9⟩) (by assumption) ?rg7_9
            case hg7_9 => (intro w hSw; (try dsimp only at hSw); first | (go_simp; done) | (go_simp; with_reducible rfl))
            (try simp only [Act.put, List.setIfInBounds_toArray, List.set_cons_zero, List.set_cons_succ])
            refine wpAnyT_take (i := 11) (oi := ⟨some 111, _, _, _, _, _⟩) (v := _) rfl (by kernel_rfl) (by kernel_rfl) (by kernel_rfl) (by kernel_rfl) (fun _ _ _ h => h) (yieldsIf_load_row (by rfl) 24 _ rfl w.heap.size rfl #[.int .u64 (s : Int), .int .i64 n] 24 (0, 0) _ (fun w hw => hw.2.1) Tryz.underlying24 rfl (by exact api_size)) (by assumption) ?_
            (try simp only [Act.put, List.setIfInBounds_toArray, List.set_cons_zero, List.set_cons_succ])
            refine wpAnyT_take (i := 12) (oi := ⟨some 112, _, _, _, _, _⟩) (v := ?vg7_12) rfl (by kernel_rfl) (by kernel_rfl) (by kernel_rfl) (by kernel_rfl) (fun _ _ _ h => h) (Or.inl ⟨by rfl, ?hg7_12⟩) (by assumption) ?rg7_12
            case hg7_12 => (intro w hSw; (try dsimp only at hSw); first | (go_simp; done) | (go_simp; with_reducible rfl))
            (try simp only [Act.put, List.setIfInBounds_toArray, List.set_cons_zero, List.set_cons_succ])
            refine wpAnyT_one (i := 10) (o := ⟨some 110, _, _, _, _, _⟩) (by kernel_rfl) rfl (fun K hK => ?_)
            go_simp
            go_at_call 16
            (with_reducible refine (HSU1.out _).mono ?_)
            rintro e w9 ⟨rfl, hb⟩
            replace HW := Lib.hid (HW.out.trans (hb.mono HW.out.size))
            clear hb
            dsimp only
            refine hK.out _ _ (by exact HKS.out _ HW.out) (fun hHeld => ?_)
            clear hK K
            (try simp only [Act.put, List.setIfInBounds_toArray, List.set_cons_zero, List.set_cons_succ])
            refine wpAnyT_one (i := 13) (o := ⟨some 113, _, _, _, _, _⟩) (by kernel_rfl) rfl (fun K hK => ?_)
            go_simp
            go_at_call 17
            (with_reducible refine (HSU2.out _).mono ?_)
            rintro e w10 ⟨rfl, hb⟩
            replace HW := Lib.hid (HW.out.trans (hb.mono HW.out.size))
            clear hb
            dsimp only
            refine hK.out _ _ (by exact HKS.out _ HW.out) (fun hHeld => ?_)
            clear hK K
            (try simp only [Act.put, List.setIfInBounds_toArray, List.set_cons_zero, List.set_cons_succ])
            refine wpAnyT_take (i := 14) (oi := ⟨some 114, _, _, _, _, _⟩) (v := ?vg7_14) rfl (by kernel_rfl) (by kernel_rfl) (by kernel_rfl) (by kernel_rfl) (fun _ _ _ h => h) (Or.inl ⟨by rfl, ?hg7_14⟩) (by assumption) ?rg7_14
            case hg7_14 => (intro w hSw; (try dsimp only at hSw); first | (go_simp; done) | (go_simp; with_reducible rfl))
            (try simp only [Act.put, List.setIfInBounds_toArray, List.set_cons_zero, List.set_cons_succ])
            refine wpAnyT_take (i := 15) (oi := ⟨some 115, _, _, _, _, _⟩) (v := ?vg7_15) rfl (by kernel_rfl) (by kernel_rfl) (by kernel_rfl) (by kernel_rfl) (fun _ _ _ h => h) (Or.inl ⟨by rfl, ?hg7_15⟩) (by assumption) ?rg7_15
            case hg7_15 => (intro w hSw; (try dsimp only at hSw); first | (go_simp; done) | (go_simp; with_reducible rfl))
            (try simp only [Act.put, List.setIfInBounds_toArray, List.set_cons_zero, List.set_cons_succ])
            refine wpAnyT_take (i := 16) (oi := ⟨some 6, _, _, _, _, _⟩) (v := ?vg7_16) rfl (by kernel_rfl) (by kernel_rfl) (by kernel_rfl) (by kernel_rfl) (fun _ _ _ h => h) (Or.inl ⟨by rfl, ?hg7_16⟩) (by assumption) ?rg7_16
            case hg7_16 => (intro w hSw; (try dsimp only at hSw); first | (go_simp; done) | (go_simp; with_reducible rfl))
            (try simp only [Act.put, List.setIfInBounds_toArray, List.set_cons_zero, List.set_cons_succ])
            refine wpAnyT_done (by kernel_rfl) ?_ _
            clear hHeld
            go_wp2_with fail
            go_ret
            exact ⟨rfl, HB2.out.trans (HW.out.mono HB2.out.size)⟩
theorem hamtDoes_walk (s : Nat) (n : Int) (va : Value) (l : List Op9) (ask : ByteArray) (hss : s < 18446744073709551616) (hask : ask.size ≤ maxLen) (w : World) (hl : Ops9 w va l) (hT : Tabs w) : Calls Tryz.prog 3 #[.agg #[.int .u64 (s : Int), .int .i64 n], va, .string ask] w fun e w' => e = .returned (.bool true) ∧ Below w.heap.size w w' := hamtDoes_of s n va l ask w hss hask hl hT
end Go.Proofs.YtlngjabjeodkpaaGreatDoor
