/- Lists whose elements have any number of cells: what they read as, place by place; 'make', 'copy'; one element read, or stored. -/
import Derived.Test.YtldemoflgahdgaaSeg
import Derived.Laws.MakeOwn
import Derived.Laws.IdiomCopy
import Derived.Deep.MidRow
namespace Go.Proofs.Ytldemoflgahdgaa
open Go.RowKit
set_option maxRecDepth 1000000
set_option linter.unusedSimpArgs false

/-- v reads as n elements of s cells each, wherever they lie. -/
def PlacesAt (W : World) (s : Nat) (v : Value) (F : Nat → Value) (n : Nat) : Prop := ∃ (a : Option Addr) (cap : Nat), v = .slice a n cap ∧ (0 < n → ∃ ad, a = some ad ∧ ∀ j, j < n * s → W.cell? (ad.add j) = some (F j))
/-- v is a list of n elements of s cells each, in a block of the kind S that nothing else is written into: nil, if there is none. -/
def RunAt (S : Nat → Prop) (W : World) (T : TypeId) (s : Nat) (v : Value) (F : Nat → Value) (n : Nat) : Prop :=
  (n = 0 ∧ v = .slice none 0 0) ∨ (0 < n ∧ ∃ (g c : Nat) (cs : Array Value) (fr : Nat × Nat), v = .slice (some ⟨g, 0, none⟩) n c ∧ n ≤ c ∧ S g ∧ W.heap[g]? = some (.cells cs T fr) ∧ ∀ j, j < n * s → cs[j]? = some (F j))
section
variable {S S' : Nat → Prop} {W W' : World} {T : TypeId} {s n : Nat} {v : Value} {F G : Nat → Value}
theorem RunAt.none (S : Nat → Prop) (W : World) (T : TypeId) (s : Nat) (F : Nat → Value) : RunAt S W T s (.slice .none 0 0) F 0 := .inl ⟨rfl, rfl⟩
theorem RunAt.weak (h : RunAt S W T s v F n) (hs : ∀ g, S g → S' g) : RunAt S' W T s v F n := by
  rcases h with h | ⟨h0, g, c, cs, fr, h1, h2, h3, h4⟩
  · exact .inl h
  · exact .inr ⟨h0, g, c, cs, fr, h1, h2, hs g h3, h4⟩
theorem RunAt.old (h : RunAt S W T s v F n) : RunAt (fun g => S g ∧ g < W.heap.size) W T s v F n := by
  rcases h with h | ⟨h0, g, c, cs, fr, h1, h2, h3, h4, h5⟩
  · exact .inl h
  · exact .inr ⟨h0, g, c, cs, fr, h1, h2, ⟨h3, (Array.getElem?_eq_some_iff.1 h4).1⟩, h4, h5⟩
theorem RunAt.kept {row : Option Nat} (h : RunAt S W T s v F n) (hg : W.grownBy W' row) (hr : ∀ X, row = some X → ¬ S X) : RunAt S W' T s v F n := by
  rcases h with h | ⟨h0, g, c, cs, fr, h1, h2, h3, h4, h5⟩
  · exact .inl h
  · exact .inr ⟨h0, g, c, cs, fr, h1, h2, h3, (hg.block g (Array.getElem?_eq_some_iff.1 h4).1 (fun e => hr g e.symm h3)).trans h4, h5⟩
theorem RunAt.keptT {row : Option Nat} (h : RunAt S W T s v F n) (hg : W.grownBy W' row) (hT : ∀ X, row = some X → ∃ o : Obj, W.heap[X]? = some o ∧ ∀ cs fr, o ≠ .cells cs T fr) : RunAt S W' T s v F n := by
  rcases h with h | ⟨h0, g, c, cs, fr, h1, h2, h3, h4, h5⟩
  · exact .inl h
  · refine .inr ⟨h0, g, c, cs, fr, h1, h2, h3, (hg.block g (Array.getElem?_eq_some_iff.1 h4).1 (fun e => ?_)).trans h4, h5⟩
    obtain ⟨o, ho, hne⟩ := hT g e.symm
    rw [h4] at ho
    exact hne _ _ (Option.some.inj ho).symm
theorem RunAt.later (h : RunAt S W T s v F n) (hb : Below W.heap.size W W') : RunAt S W' T s v F n :=
  h.kept (row := .none) ⟨hb.os, hb.tape, hb.output, hb.size, fun k hk _ => hb.block k hk⟩ (fun _ e => by cases e)
theorem RunAt.congr (h : RunAt S W T s v F n) (e : ∀ j, j < n * s → F j = G j) : RunAt S W T s v G n := by
  rcases h with h | ⟨h0, g, c, cs, fr, h1, h2, h3, h4, h5⟩
  · exact .inl h
  · exact .inr ⟨h0, g, c, cs, fr, h1, h2, h3, h4, fun j hj => by rw [← e j hj]; exact h5 j hj⟩
theorem RunAt.places (h : RunAt S W T s v F n) : PlacesAt W s v F n := by
  rcases h with ⟨rfl, rfl⟩ | ⟨h0, g, c, cs, fr, rfl, h2, h3, h4, h5⟩
  · exact ⟨_, 0, rfl, fun h => absurd h (by omega)⟩
  · refine ⟨_, c, rfl, fun _ => ⟨_, rfl, fun j hj => ?_⟩⟩
    rw [add_at, Nat.zero_add]
    exact cell_in h4 (h5 j hj)
theorem RunAt.shape (h : RunAt S W T s v F n) : ∃ a c, v = .slice a n c ∧ n ≤ c := by
  rcases h with ⟨rfl, rfl⟩ | ⟨_, g, c, _, _, rfl, h, _⟩
  · exact ⟨_, 0, rfl, Nat.le_refl _⟩
  · exact ⟨_, c, rfl, h⟩
theorem RunAt.pos (h : RunAt S W T s v F n) (h0 : 0 < n) : ∃ (g c : Nat) (cs : Array Value) (fr : Nat × Nat), v = .slice (some ⟨g, 0, .none⟩) n c ∧ n ≤ c ∧ S g ∧ W.heap[g]? = some (.cells cs T fr) ∧ ∀ j, j < n * s → cs[j]? = some (F j) := by
  rcases h with ⟨rfl, _⟩ | ⟨_, h⟩
  · omega
  · exact h
theorem PlacesAt.later (h : PlacesAt W s v F n) (hb : Below W.heap.size W W') : PlacesAt W' s v F n := by
  obtain ⟨a, cap, rfl, h2⟩ := h
  refine ⟨a, cap, rfl, fun h0 => ?_⟩
  obtain ⟨ad, rfl, hc⟩ := h2 h0
  exact ⟨ad, rfl, fun j hj => (hb.cell (p := ad.add j) (World.block_lt_of_cell? W _ (hc j hj))).trans (hc j hj)⟩
theorem PlacesAt.congr (h : PlacesAt W s v F n) (e : ∀ j, j < n * s → F j = G j) : PlacesAt W s v G n := by
  obtain ⟨a, cap, rfl, h2⟩ := h
  refine ⟨a, cap, rfl, fun h0 => ?_⟩
  obtain ⟨ad, rfl, hc⟩ := h2 h0
  exact ⟨ad, rfl, fun j hj => by rw [← e j hj]; exact hc j hj⟩
end

/-- Numbers, place by place. -/
def fi (f : Nat → Int) : Nat → Value := fun j => .int .i64 (f j)
/-- The first n numbers of f. -/
def lsF (f : Nat → Int) (n : Nat) : List Int := (List.range n).map f
theorem lsF_len (f : Nat → Int) (n : Nat) : (lsF f n).length = n := by simp [lsF]
theorem lsF_at (f : Nat → Int) (n j : Nat) (h : j < n) : (lsF f n)[j]? = some (f j) := by simp [lsF, h]
theorem lsF_getD (l : List Int) : lsF (fun i => l.getD i 0) l.length = l := by
  apply List.ext_getElem?
  intro j
  rcases Nat.lt_or_ge j l.length with h | h
  · rw [lsF_at _ _ _ h, List.getElem?_eq_getElem h, List.getD_eq_getElem?_getD, List.getElem?_eq_getElem h]; rfl
  · rw [List.getElem?_eq_none (by rw [lsF_len]; exact h), List.getElem?_eq_none h]
theorem lsF_congr {f g : Nat → Int} {n : Nat} (h : ∀ j, j < n → f j = g j) : lsF f n = lsF g n := by
  unfold lsF
  exact List.map_congr_left fun j hj => h j (by simpa using hj)
theorem iv_at (zs : List Int) (j : Nat) (h : j < zs.length) : (iv zs)[j]? = some (.int .i64 (zs.getD j 0)) := by
  rw [iv, List.getElem?_map, List.getElem?_eq_getElem h, List.getD_eq_getElem?_getD, List.getElem?_eq_getElem h]; rfl
theorem SegAt.places {W : World} {v : Value} {zs : List Int} (h : SegAt W v zs) : PlacesAt W 1 v (fi fun i => zs.getD i 0) zs.length := by
  obtain ⟨a, cap, rfl, h2⟩ := h
  refine ⟨a, cap, rfl, fun h0 => ?_⟩
  obtain ⟨ad, rfl, hc⟩ := h2 h0
  exact ⟨ad, rfl, fun j hj => hc j _ (iv_at zs j (by omega))⟩
theorem PlacesAt.seg {W : World} {v : Value} {f : Nat → Int} {n : Nat} (h : PlacesAt W 1 v (fi f) n) : SegAt W v (lsF f n) := by
  obtain ⟨a, cap, rfl, h2⟩ := h
  refine ⟨a, cap, by rw [lsF_len], fun h0 => ?_⟩
  rw [lsF_len] at h0
  obtain ⟨ad, rfl, hc⟩ := h2 h0
  refine ⟨ad, rfl, fun j u hu => ?_⟩
  have hj := (List.getElem?_eq_some_iff.1 hu).1
  rw [iv_len, lsF_len] at hj
  rw [iv, List.getElem?_map, lsF_at _ _ _ hj] at hu
  rw [← hu]
  exact hc j (by omega)

section
variable {P : Program}
/-- 'make([]T, n)'. -/
theorem wpList_make_s (w : World) {ops : Array Oper} {rest : List Oper} {o : Oper} {a : Act} {Q : Exit → Act → World → Prop} (hg : o.guard = none) (l c : Operand) (t : TypeId) (hop : o.op = Op.makeSlice t l c)
    (e : TypeId) (i : TypeInfo) (z : Value) (s : Nat) (ht : P.underlying t = some (.slice e)) (hi : P.info? e = some i) (hz : i.zero = some z) (hsize : i.size = s)
    (kl kc : IntKind) (n : Nat) (hl : a.eval l = .int kl (n : Int)) (hc : a.eval c = .int kc (n : Int)) (hbytes : i.bytes * n ≤ 281474976710656) (h63 : n ≤ 9223372036854775807)
    (hK : wpList P ops Q rest (a.put o.dst (.slice (some ⟨w.heap.size, 0, none⟩) n n)) (w.alloc (.cells (madeCells z.cells (n * s)) e))) : wpList P ops Q (o :: rest) a w := by
  subst hsize
  refine wpList_plain hg fun K hK' => ?_
  have hrun := run_make (P := P) w t e i z ht hi hz kl kc n n (by omega) (Int.le_refl _) (by
    have h : ((i.bytes * n : Nat) : Int) ≤ 281474976710656 := by omega
    rwa [Int.natCast_mul] at h) (by omega)
  simp only [Int.toNat_natCast] at hrun
  unfold Oper.wp
  simp [execOp, hop, hl, hc, hrun, Result.andThen]
  exact hK' _ _ hK
theorem run_storeVar_at (w : World) (g o : Nat) (T ty : TypeId) (cur : Array Value) (v : Value) (vs : List Value) (hv : v.cells = vs.toArray) (hg : w.heap[g]? = some (.cells cur T (0, 0))) (hk : o + vs.length ≤ cur.size)
    (hi : (P.info? ty).map (·.size) = some vs.length) (h1 : ∀ x ∈ vs, x.oneCell' = true) :
    (storeVar ty ⟨g, o, none⟩ v).run P w = .ok () (w.setRow g (cur.toList.take o ++ vs ++ cur.toList.drop (o + vs.length)).toArray) := by
  have := run_storeCells_at (P := P) g o T vs 0 cur w hg (by simpa using hk) h1
  cases hq : P.info? ty with
  | none => simp [hq] at hi
  | some i =>
    have hs : i.size = vs.length := by simpa [hq] using hi
    simp only [Nat.add_zero] at this
    simp [storeVar, sizeOf, typeInfo, hq, hv, hs, this]
theorem laid_at (cur : Array Value) (o : Nat) (vs : List Value) (hk : o + vs.length ≤ cur.size) (j : Nat) :
    (cur.toList.take o ++ vs ++ cur.toList.drop (o + vs.length)).toArray[j]? = if o ≤ j ∧ j < o + vs.length then vs[j - o]? else cur[j]? := by
  have hl : (cur.toList.take o).length = o := by simp; omega
  rw [List.getElem?_toArray, List.append_assoc]
  by_cases h1 : j < o
  · rw [if_neg (by omega), List.getElem?_append_left (by omega), List.getElem?_take_of_lt h1, Array.getElem?_toList]
  · rw [List.getElem?_append_right (by omega), hl]
    by_cases h2 : j < o + vs.length
    · rw [if_pos ⟨by omega, h2⟩, List.getElem?_append_left (by omega)]
    · rw [if_neg (by omega), List.getElem?_append_right (by omega), List.getElem?_drop, Array.getElem?_toList]
      congr 1
      omega
theorem laid_size (cur : Array Value) (o : Nat) (vs : List Value) (hk : o + vs.length ≤ cur.size) : (cur.toList.take o ++ vs ++ cur.toList.drop (o + vs.length)).toArray.size = cur.size := by simp; omega
/-- An element of some cells goes into a block that is known whole. -/
theorem wpList_store_s {w : World} {ops : Array Oper} {rest : List Oper} {o : Oper} {a : Act} {Q : Exit → Act → World → Prop} (hgd : o.guard = none) (ty : TypeId) (x y : Operand) (ho : o.op = .store ty x y)
    (g k : Nat) (hx : a.eval x = .pointer (some ⟨g, k, none⟩)) (cells : Array Value) (hy : a.eval y = .agg cells) (T : TypeId) (cur : Array Value) (hg : w.heap[g]? = some (.cells cur T (0, 0)))
    (hi : (P.info? ty).map (·.size) = some cells.size) (hk : k + cells.size ≤ cur.size) (h1 : cells.all (·.oneCell') = true)
    (h : ∀ w' cur', w'.heap[g]? = some (.cells cur' T (0, 0)) → cur'.size = cur.size → (∀ j, cur'[j]? = if k ≤ j ∧ j < k + cells.size then cells[j - k]? else cur[j]?) → Only g w w' → wpList P ops Q rest (a.put o.dst undef) w') : wpList P ops Q (o :: rest) a w :=
  wpList_plain hgd fun _ hK => by
    have hrun := run_storeVar_at (P := P) w g k T ty cur (.agg cells) cells.toList (by simp [Value.cells]) hg (by simpa using hk) (by simpa using hi) (fun v hv => (Array.all_eq_true_iff_forall_mem.1 h1) v (by simpa using hv))
    unfold Oper.wp execOp
    simp only [ho, hx, hy, Instr.storeAt, Instr.sureAddr, Sem.run_bind, Sem.run_pure, Result.andThen_ok, hrun]
    refine hK _ _ (h _ _ (setRow_heap w g _ _ _ _ hg) (laid_size cur k cells.toList (by simpa using hk)) (fun j => ?_) (only_setRow _ _ _))
    rw [laid_at cur k cells.toList (by simpa using hk) j]
    simp
/-- 'copy(dst, src)' into a list that has room for all of src, from its beginning on. -/
theorem run_copy_s (w : World) (dT sT ty elem : TypeId) (g dLen dCap s : Nat) (a : Addr) (sLen sCap : Nat) (cur : Array Value) (t : TypeId) (cs : List Value)
    (hu : P.underlying dT = some (.slice elem)) (hs : (P.info? elem).map (·.size) = some s)
    (hg : w.heap[g]? = some (.cells cur t (0, 0))) (hle : sLen ≤ dLen) (hn : cs.length = sLen * s)
    (hsrc : ∀ j v, cs[j]? = some v → w.cell? (a.add j) = some v) (hfit : cs.length ≤ cur.size) (h1 : ∀ v ∈ cs, v.oneCell' = true) :
    (Builtin.copy_ #[dT, sT] ty #[.slice (some ⟨g, 0, none⟩) dLen dCap, .slice (some a) sLen sCap]).run P w =
      .ok (goInt sLen) (w.setRow g (cur.toList.take 0 ++ cs ++ cur.toList.drop (0 + cs.length)).toArray) := by
  have hl := run_loadCells_list (P := P) w a cs hsrc
  have hst := run_storeCells_at P g 0 t cs 0 cur w hg (by simpa using hfit) h1
  have hmin : Nat.min sLen dLen = sLen := Nat.min_eq_left hle
  cases hq : P.info? elem with
  | none => simp [hq] at hs
  | some i =>
    have hi : i.size = s := by simpa [hq] using hs
    rw [hn] at hl
    simp only [Nat.add_zero, Nat.zero_add] at hst ⊢
    simp [Builtin.copy_, run_underlying hu, Builtin.lenOf, Builtin.firstCells, sizeOf, typeInfo, hq, hi, hmin, hl, hst]
theorem run_copy_s0 (w : World) (dT sT ty elem : TypeId) (d sp : Option Addr) (dLen dCap s sCap : Nat) (hu : P.underlying dT = some (.slice elem)) (hs : (P.info? elem).map (·.size) = some s) :
    (Builtin.copy_ #[dT, sT] ty #[.slice d dLen dCap, .slice sp 0 sCap]).run P w = .ok (goInt 0) w := by
  have hmin : Nat.min 0 dLen = 0 := Nat.zero_min _
  cases hq : P.info? elem with
  | none => simp [hq] at hs
  | some i =>
    cases d <;> cases sp <;> simp [Builtin.copy_, run_underlying hu, Builtin.lenOf, Builtin.firstCells, sizeOf, typeInfo, hq, hmin, storeCells, loadCells, loadCellsFrom, Result.andThen]
theorem wpList_copy_s {w : World} {ops : Array Oper} {rest : List Oper} {o : Oper} {a : Act} {Q : Exit → Act → World → Prop} (hgd : o.guard = none) (d x : Operand) (dT sT : TypeId)
    (ho : o.op = .call { callee := .builtin .copy, args := #[d, x], argTypes := #[dT, sT] }) (elem : TypeId) (hu : P.underlying dT = some (.slice elem)) (s : Nat) (hsz : (P.info? elem).map (·.size) = some s)
    (g dLen dCap : Nat) (hd : a.eval d = .slice (some ⟨g, 0, none⟩) dLen dCap) (v : Value) (hv : a.eval x = v) (F : Nat → Value) (n : Nat) (hF : PlacesAt w s v F n) (hle : n ≤ dLen)
    (T : TypeId) (cur : Array Value) (hg : w.heap[g]? = some (.cells cur T (0, 0))) (hfit : n * s ≤ cur.size) (h1 : ∀ j, j < n * s → (F j).oneCell' = true)
    (h : ∀ w' cur', w'.heap[g]? = some (.cells cur' T (0, 0)) → cur'.size = cur.size → (∀ j, cur'[j]? = if j < n * s then some (F j) else cur[j]?) → Only g w w' → wpList P ops Q rest (a.put o.dst (goInt n)) w') : wpList P ops Q (o :: rest) a w := by
  refine wpList_plain hgd fun K hK => ?_
  obtain ⟨ap, cap, rfl, h2⟩ := hF
  by_cases h0 : n = 0
  · subst h0
    have hrun := run_copy_s0 (P := P) w dT sT o.type elem (some ⟨g, 0, none⟩) ap dLen dCap s cap hu hsz
    unfold Oper.wp
    simp [execOp, ho, resolve, invoke, builtin, hd, hv, hrun, Result.andThen]
    exact hK _ _ (h w cur hg rfl (fun j => by simp) (Only.refl _ _))
  · obtain ⟨ad, rfl, hc⟩ := h2 (by omega)
    have hlen : ((List.range (n * s)).map F).length = n * s := by simp
    have hrun := run_copy_s (P := P) w dT sT o.type elem g dLen dCap s ad n cap cur T ((List.range (n * s)).map F) hu hsz hg hle hlen (fun j u hu => by
      have hj : j < n * s := by have := (List.getElem?_eq_some_iff.1 hu).1; simpa using this
      rw [List.getElem?_map, List.getElem?_range hj] at hu
      rw [hc j hj]; exact hu) (by rw [hlen]; exact hfit) (fun u hu => by
      obtain ⟨j, hj, rfl⟩ := List.mem_map.1 hu
      exact h1 j (by simpa using hj))
    unfold Oper.wp
    simp [execOp, ho, resolve, invoke, builtin, hd, hv, hrun, Result.andThen]
    refine hK _ _ (h _ _ (by simpa using setRow_heap w g _ (cur.toList.take 0 ++ (List.range (n * s)).map F ++ cur.toList.drop (0 + ((List.range (n * s)).map F).length)).toArray _ _ hg) (by simpa using laid_size cur 0 ((List.range (n * s)).map F) (by rw [hlen]; omega)) (fun j => ?_) (by simpa using only_setRow w g (cur.toList.take 0 ++ (List.range (n * s)).map F ++ cur.toList.drop (0 + ((List.range (n * s)).map F).length)).toArray))
    have := laid_at cur 0 ((List.range (n * s)).map F) (by rw [hlen]; omega) j
    simp only [hlen, Nat.zero_add, Nat.zero_le, true_and, Nat.sub_zero] at this
    by_cases hj : j < n * s
    · rw [if_pos hj]
      rw [if_pos hj, List.getElem?_map, List.getElem?_range hj] at this
      simpa using this
    · rw [if_neg hj]
      rw [if_neg hj] at this
      simpa using this
end
theorem made_at (z : Array Value) (n j : Nat) (h : j < n) : (madeCells z n)[j]? = some (z[j % z.size]!) := by simp [madeCells, h]
end Go.Proofs.Ytldemoflgahdgaa
