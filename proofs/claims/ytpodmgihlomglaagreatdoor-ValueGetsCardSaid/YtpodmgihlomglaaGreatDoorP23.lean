import Derived.Test.YtpodmgihlomglaaGreatDoorP20
import Derived.ChangeSlices
import Derived.LaidMore
import Derived.Lay
import Derived.Lib.LaidTab
import Derived.Lib.OwnBridge
import Derived.OpenShut
import Derived.ProofKit
import Derived.SevenTiedAt
import Derived.Sort.Grow
import Derived.Sort.OwnSorted
import Derived.Stop.Joined
import Derived.Stop.LaidErr
import Derived.Test.YtpodmgihlomglaaGreatDoorRows
import Derived.WideKeyPair
namespace Go.Proofs.YtpodmgihlomglaaGreatDoor
open Go.RowKit
set_option maxRecDepth 1000000
set_option linter.unusedSimpArgs false
theorem st_mid {ops : Array Oper} {rest : List Oper} {o : Oper} {a : Act} {w : World} {Q : Exit → Act → World → Prop} (hgd : o.guard = none) (ty : TypeId) (x y : Operand) (ho : o.op = .store ty x y)
  (X k : Nat) (c' : Array Value) (hx : a.eval x = .pointer (some ⟨X, k, none⟩)) (hy : a.eval y = .agg c') (T : TypeId) (c : Array Value) (hB : w.heap[X]? = some (.cells c T (0, 0)))
  (hi : (Tryz.prog.info? ty).map (·.size) = some c'.size) (hk : k + c'.size ≤ c.size) (h1 : c'.all (·.oneCell') = true) (d : Array Value) (hd : (c.toList.take k ++ c'.toList ++ c.toList.drop (k + c'.size)).toArray = d)
  (h : ∀ w', w'.heap[X]? = some (.cells d T (0, 0)) → Only X w w' → wpList Tryz.prog ops Q rest (a.put o.dst undef) w') : wpList Tryz.prog ops Q (o :: rest) a w :=
 wpList_plain hgd fun _ hK => by
  have := run_storeCells_at (P := Tryz.prog) X k T c'.toList 0 c w hB (by simpa using hk) (fun v hv => (Array.all_eq_true_iff_forall_mem.1 h1) v (by simpa using hv))
  simp only [Nat.add_zero, Array.length_toList, hd] at this
  have hrun : (storeVar ty ⟨X, k, none⟩ (.agg c')).run Tryz.prog w = .ok () (w.setRow X d) := by
   cases hq : Tryz.prog.info? ty with
   | none => simp [hq] at hi
   | some i =>
    have hs : c'.size = i.size := by simp [hq] at hi; omega
    simp [storeVar, sizeOf, typeInfo, hq, Value.cells, hs, this]
  unfold Oper.wp execOp
  simp only [ho, hx, hy, Instr.storeAt, Instr.sureAddr, Sem.run_bind, Sem.run_pure, Result.andThen_ok, hrun]
  exact hK _ _ (h _ (setRow_heap w X _ _ _ _ hB) (only_setRow _ _ _))
theorem map_mid (x0 x1 x2 y0 y1 y2 z0 z1 z2 : Value) : ((#[x0, x1, x2, y0, y1, y2] : Array Value).toList.take 3 ++ (#[z0, z1, z2] : Array Value).toList ++ (#[x0, x1, x2, y0, y1, y2] : Array Value).toList.drop (3 + (#[z0, z1, z2] : Array Value).size)).toArray = #[x0, x1, x2, z0, z1, z2] := rfl
theorem api_size : (Tryz.prog.info? 24).map (·.size) = some 2 := by kernel_rfl
set_option maxHeartbeats 2000000 in
theorem hm_New (w : World) (s : Nat) (n : Int) (S : Nat → Prop) :
  Calls Tryz.prog 80 #[.agg #[.int .u64 (s : Int), .int .i64 n]] w fun r w' => ∃ c, r = .returned (.agg c) ∧ MapAt S w' s n [] c ∧ Below w.heap.size w w' := by
 obtain ⟨w1, hw1⟩ : ∃ w1, (w.alloc (.cells #[.int .u64 (s : Int), .int .i64 n] 24)).alloc (.cells #[.int .u64 0, .int .i64 0, .int .i64 0, .int .u32 0, .slice none 0 0, .slice none 0 0] 121) = w1 := ⟨_, rfl⟩
 obtain ⟨hb1, hx1, hy1, hs1⟩ := two_newG hw1
 have HX1 := Lib.hid hx1
 have HY1 := Lib.hid hy1
 have HB1 := Lib.hid hb1
 clear hx1 hy1 hb1 hs1
 go_enter Tryz.func80, Tryz.ntmps80
 go_upto_region 1 with fail
 clear hw1
 go_wp2_with (first
  | (refine ld_if (by rfl) 24 _ rfl w.heap.size rfl 24 _ _ _ HX1.out Tryz.underlying24 rfl api_size ?_)
  | (refine st_agg rfl 121 _ _ rfl (w.heap.size + 1) #[.int .u64 (s : Int), .int .i64 n, .int .i64 0, .int .u32 0, .slice none 0 0, .slice none 0 0] rfl rfl 121 _ HY1.out map_size rfl (by simp [Value.oneCell']) ?_; intro w6 h6 k6))
 exact bodyPost_ret (results_cell_row rfl _ _ (w.heap.size + 1) 121 _ (0, 0) _ rfl h6 Tryz.underlying121 rfl map_size) rfl ⟨_, rfl, MapAt.zero S _ s n, HB1.out.trans (k6.below (by omega))⟩
end Go.Proofs.YtpodmgihlomglaaGreatDoor
namespace Go.Proofs.YtpodmgihlomglaaGreatDoor
open Go.ChangeShapes Go.WideShapes Go.ChangeAt Go.RowKit
theorem ints_read {W : World} {a : Addr} {len cap : Nat} {zs : List Int} (hl : len ≤ zs.length) (hm : len ≤ maxLen)
  (hcell : ∀ i, i < zs.length → W.cell? (a.add i) = some (.int .i64 (zs.getD i 0))) (hw : ∀ n ∈ zs, (Lit.int .i64 n).wf = true) :
  ∃ ys, IntsAt W (.slice (some a) len cap) ys := by
 have hlen : (zs.take len).length = len := by rw [List.length_take]; omega
 refine ⟨zs.take len, some a, cap, a.block, a.off, by rw [hlen], ?_, ?_, ?_, by rw [hlen]; exact hm⟩
 ·intro h0
  rw [hlen] at h0
  obtain ⟨b, off, spot⟩ := a
  have hspot : spot = none := by simpa [Addr.add] using World.cell?_spot (hcell 0 (by omega))
  subst hspot
  rfl
 ·intro j hj
  rw [hlen] at hj
  have hspot : a.spot = none := by
   have := World.cell?_spot (hcell 0 (by omega))
   simpa [Addr.add] using this
  have ha : a.add j = ⟨a.block, a.off + j, none⟩ := by
   unfold Addr.add
   split
   ·subst_vars; obtain ⟨b, off, spot⟩ := a; simp only at hspot; subst hspot; rfl
   ·rfl
  rw [← ha, hcell j (by omega)]
  congr 2
  rw [List.getD_eq_getElem?_getD, List.getD_eq_getElem?_getD, List.getElem?_take_of_lt hj]
 ·intro n hn
  exact bounds_i64 (hw n (List.mem_of_mem_take hn))
theorem ints_open {H : Type} {enc : TypeId × Value → H} {P : Program} {W : World} {sp : Nat → Bool} {held : Bool} {r : Reach} {b0 base : Nat} {t e : TypeId} {v : Value} {d : DataW H} {ps : List MemPlace}
  (ht : P.underlying t = some (.slice e)) (he : P.underlying e = some (.int .i64)) (hc : P.cellsOf e = 1) (hval : Value.okWide P W r b0 t v) (hd : DataW.Trod enc P W base sp held t v d ps) : ∃ ys, IntsAt W v ys := by
 obtain ⟨a0, len, cap, rfl⟩ := okWide_slice ht hval
 obtain ⟨fuel, hf⟩ := hd
 rcases open_ints ht he hc hf with ⟨hcs, _⟩ | ⟨a, len', cap', zs, hcs, _, hl, hm, hz, _, hcell, hwz⟩
 ·simp [Value.cells] at hcs
  obtain ⟨rfl, rfl, rfl⟩ := hcs
  exact ⟨[], none, 0, 0, 0, rfl, fun h => absurd h (by simp), fun j h => absurd h (by simp), fun n h => absurd h (by simp), by simp⟩
 ·simp [Value.cells] at hcs
  obtain ⟨rfl, rfl, rfl⟩ := hcs
  exact ints_read (by rw [hz]; split <;> omega) (by omega) hcell hwz
end Go.Proofs.YtpodmgihlomglaaGreatDoor
namespace Go.Proofs.YtpodmgihlomglaaGreatDoor
open Go.RowKit Go.Shelf
set_option maxRecDepth 1000000
set_option linter.unusedSimpArgs false
def IterRM {α : Type} (P : Program) (gf : Nat) (lb : Array Value) (encs : α → Array Value) (RK IK : Nat → World → World → Prop) (S Sp Pr : List α → Prop) (w0 : World) : Prop :=
 ∀ (l : Nat) (J Jx : List α → World → Prop) (W : World), Below w0.heap.size w0 W → (∀ s A B, J s A → IK W.heap.size A B → J s B) →
  (∀ m pre x V, J pre V → W.heap.size + 2 ≤ V.heap.size → Pr (pre ++ [x]) → YieldAt Fence.wide m P l (encs x) V fun e V' =>
   (e = .returned (.bool true) ∧ J (pre ++ [x]) V' ∧ RK W.heap.size V V') ∨ (e = .returned (.bool false) ∧ Jx (pre ++ [x]) V')) →
  J [] W → ∀ m, CallsIn Fence.wide m P gf (#[.func (.yield l) #[] #[]] ++ lb) W fun e W' => (∃ v, e = .returned v) ∧ ((∃ ys, S ys ∧ J ys W') ∨ (∃ pre, Sp pre ∧ Jx pre W'))
def IterM {α : Type} (P : Program) (gf : Nat) (lb : Array Value) (encs : α → Array Value) (RK IK : Nat → World → World → Prop) (S Pr : List α → Prop) (w0 : World) : Prop :=
 ∀ (l : Nat) (J : List α → World → Prop) (W : World), Below w0.heap.size w0 W → (∀ s A B, J s A → IK W.heap.size A B → J s B) →
  (∀ m pre x V, J pre V → W.heap.size + 2 ≤ V.heap.size → Pr (pre ++ [x]) → YieldAt Fence.wide m P l (encs x) V fun e V' => e = .returned (.bool true) ∧ J (pre ++ [x]) V' ∧ RK W.heap.size V V') →
  J [] W → ∀ m, CallsIn Fence.wide m P gf (#[.func (.yield l) #[] #[]] ++ lb) W fun e W' => (∃ v, e = .returned v) ∧ ∃ ys, S ys ∧ J ys W'
theorem IterRM.n {α : Type} {P : Program} {gf : Nat} {lb : Array Value} {encs : α → Array Value} {RK IK : Nat → World → World → Prop} {S Sp Pr : List α → Prop} {w0 : World} (h : IterRM P gf lb encs RK IK S Sp Pr w0) : IterM P gf lb encs RK IK S Pr w0 := fun l J W hW hA hY h0 m =>
 (h l J (fun _ _ => False) W hW hA (fun m pre x V a b c => (hY m pre x V a b c).mono fun _ _ h => .inl h) h0 m).mono fun _ _ ⟨h1, h2⟩ => ⟨h1, h2.elim id fun ⟨_, _, h⟩ => h.elim⟩
end Go.Proofs.YtpodmgihlomglaaGreatDoor
namespace Go.Proofs.YtpodmgihlomglaaGreatDoor
open Go.RowKit
set_option maxRecDepth 1000000
set_option linter.unusedSimpArgs false
mutual
def sameT : Tr → Tr → Bool
 | .nd k n t ks xs, b => decide (k = b.k) && (decide (n = b.n) && (decide (t = b.t) && (decide (ks = b.ks) && sameL xs b.xs)))
def sameL : List Tr → List Tr → Bool
 | [], l => l.isEmpty
 | x :: r, l => match l with
  | [] => false
  | y :: s => sameT x y && sameL r s
end
theorem same_iff (a : Tr) : ∀ b, sameT a b = true ↔ a = b := by
 induction a using tr_ind with
 | h k n t ks xs ih =>
  intro b
  obtain ⟨k', n', t', ks', xs'⟩ := b
  have hL : ∀ (xs xs' : List Tr), (∀ x ∈ xs, ∀ b, sameT x b = true ↔ x = b) → (sameL xs xs' = true ↔ xs = xs') := by
   intro xs
   induction xs with
   | nil => intro xs' _; rw [sameL]; cases xs' <;> simp
   | cons x r ih2 =>
    intro xs' hi
    cases xs' with
    | nil => rw [sameL]; simp
    | cons y s =>
     rw [sameL, Bool.and_eq_true, hi x (List.mem_cons_self ..), ih2 s fun z hz => hi z (List.mem_cons_of_mem _ hz)]
     simp
  rw [sameT]
  show (decide (k = k') && (decide (n = n') && (decide (t = t') && (decide (ks = ks') && sameL xs xs')))) = true ↔ _
  rw [Bool.and_eq_true, Bool.and_eq_true, Bool.and_eq_true, Bool.and_eq_true, hL xs xs' ih, Tr.nd.injEq, decide_eq_true_iff, decide_eq_true_iff, decide_eq_true_iff, decide_eq_true_iff]
end Go.Proofs.YtpodmgihlomglaaGreatDoor
namespace Go.Proofs.YtpodmgihlomglaaGreatDoor
open Go.RowKit Go.Shelf
set_option maxRecDepth 1000000
set_option linter.unusedSimpArgs false
def enS (k : ByteArray) : List Value := [.string k]
theorem enS_at (ks : List ByteArray) : ∀ (j : Nat), (en enS ks)[j]? = (ks[j]?).map fun k => Value.string k := by
 induction ks with
 | nil => intro j; simp [en]
 | cons q qs ih =>
  intro j
  cases j with
  | zero => simp [en, enS]
  | succ j => simpa [en, enS] using ih j
theorem str_info : (Tryz.prog.info? 9).map (fun i => (i.zero, i.size, i.bytes)) = some (some (.string ⟨#[]⟩), 1, 16) := by kernel_rfl
def CutS (S : Nat → Prop) (w : World) (v : Value) (ks : List ByteArray) : Prop := CutAt S w 1 v (en enS ks) ks.length
def Strs (B : Nat) (v : Value) (ps : List ByteArray) (w : World) : Prop := w.ownsRow B 9 1 v ps.length (en enS ps) ∧ B ≤ w.heap.size
section
variable {B : Nat} {v : Value} {ps : List ByteArray} {w w1 : World}
theorem Strs.nil (h : B ≤ w.heap.size) : Strs B (.slice none 0 0) [] w := ⟨World.ownsRow_nil _ _ _ _, h⟩
theorem Strs.grown {row : Option Nat} (h : Strs B v ps w) (hg : w.grownBy w1 row) (hne : v.ownBlock = none ∨ v.ownBlock ≠ row) : Strs B v ps w1 := ⟨h.1.kept hg hne, Nat.le_trans h.2 hg.size⟩
theorem Strs.later (h : Strs B v ps w) (hb : Below w.heap.size w w1) : Strs B v ps w1 := h.grown (row := none) ⟨hb.os, hb.tape, hb.output, hb.size, fun k hk _ => hb.block k hk⟩ (by cases v.ownBlock <;> simp)
theorem Strs.low {B' : Nat} (h : Strs B v ps w) (hB : B' ≤ B) : Strs B' v ps w := by
 obtain ⟨⟨h1, h2⟩, h3⟩ := h
 refine ⟨⟨h1, ?_⟩, by omega⟩
 rcases h2 with h2 | ⟨g, cap, cur, a1, a2, a3⟩
 ·exact .inl h2
 ·exact .inr ⟨g, cap, cur, a1, by omega, a3⟩
theorem Strs.len (h : Strs B v ps w) : ∃ a c, v = .slice a ps.length c := by
 obtain ⟨⟨_, h2⟩, _⟩ := h
 rcases h2 with ⟨rfl, h2⟩ | ⟨g, cap, cur, rfl, _⟩
 ·exact ⟨none, 0, by rw [h2]⟩
 ·exact ⟨_, _, rfl⟩
theorem Strs.cut (h : Strs B v ps w) : CutAt (fun _ => True) w 1 v (en enS ps) ps.length := (ownsRow_cut h.1).weak fun _ _ => trivial
theorem strs_not {L : Nat} {cs : Array Value} {T : TypeId} {fr : Nat × Nat} (h : Strs B v ps w) (hb : w.heap[L]? = some (.cells cs T fr)) (hT : T ≠ 9) : v.ownBlock ≠ some L := by
 intro e
 obtain ⟨⟨_, h2⟩, _⟩ := h
 rcases h2 with ⟨rfl, _⟩ | ⟨g, cap, cur, rfl, _, hg, _⟩
 ·cases e
 ·obtain rfl : g = L := by simpa [Value.ownBlock] using e
  rw [hb] at hg
  cases hg
  exact hT rfl
theorem Strs.only {L : Nat} {cs : Array Value} {T : TypeId} {fr : Nat × Nat} (h : Strs B v ps w) (k : Only L w w1) (hb : w.heap[L]? = some (.cells cs T fr)) (hT : T ≠ 9) : Strs B v ps w1 := h.grown k.by_ (.inr (strs_not h hb hT))
end
section
variable {B : Nat} {v : Value} {ks : List ByteArray} {w w1 : World} {S S' : Nat → Prop}
theorem CutS.later (h : CutS S w v ks) (hb : Below w.heap.size w w1) : CutS S w1 v ks := CutAt.later h hb
theorem CutS.any (h : CutS S w v ks) : CutS (fun _ => True) w v ks := CutAt.weak h fun _ _ => trivial
theorem CutS.shape (h : CutS S w v ks) : ∃ a c, v = .slice a ks.length c ∧ ks.length ≤ c := CutAt.shape h
theorem CutS.kept {row : Option Nat} (h : CutS S w v ks) (hg : w.grownBy w1 row) (hr : ∀ X, row = some X → ¬ S X) : CutS S w1 v ks := CutAt.kept h hg hr
theorem CutS.cell (h : CutS S w v ks) {j : Nat} (hj : j < ks.length) : ∃ g o c, v = .slice (some ⟨g, o, none⟩) ks.length c ∧ S g ∧ w.cell? ⟨g, o + j, none⟩ = some (.string ks[j]) := by
 obtain ⟨g, o, c, h1, _, hS, _, h2⟩ := CutAt.pos h (by omega)
 exact ⟨g, o, c, h1, hS, h2 j _ (by rw [enS_at, List.getElem?_eq_getElem hj]; rfl)⟩
end
end Go.Proofs.YtpodmgihlomglaaGreatDoor
namespace Go.Proofs.YtpodmgihlomglaaGreatDoor
open Go.RowKit
set_option maxRecDepth 1000000
set_option linter.unusedSimpArgs false
theorem nd_k (k n : Int) (t : ByteArray) (ks : List ByteArray) (xs : List Tr) : (Tr.nd k n t ks xs).k = k := rfl
end Go.Proofs.YtpodmgihlomglaaGreatDoor
namespace Go.Proofs.YtpodmgihlomglaaGreatDoor
open Go.RowKit Go.Shelf
set_option maxRecDepth 1000000
set_option linter.unusedSimpArgs false
attribute [local go_sem] Oper.semAt_some
theorem ld_at {ops : Array Oper} {rest : List Oper} {o : Oper} {a : Act} {w : World} {Q : Exit → Act → World → Prop} (hwd : Region.wanted o (yielded ops a.tmps) = true) (T : TypeId) (y : Operand) (ho : o.op = .load T y)
  (b k : Nat) (hx : a.eval y = .pointer (some ⟨b, k, none⟩)) (cs : Array Value) (d : TypeDesc) (hR : w.rangeAt b k cs.toList) (hu : Tryz.prog.underlying T = some d) (hd : d.isRow = true) (hs : (Tryz.prog.info? T).map (·.size) = some cs.size)
  (h : wpList Tryz.prog ops Q rest (a.put o.dst (.agg cs)) w) : wpList Tryz.prog ops Q (o :: rest) a w :=
 wpList_step fun _ hK => by
  rw [if_pos hwd]
  exact wp_load_mid T y ho b k hx _ _ hR hu hd (by rw [hs, Array.length_toList]) (hK _ _ h)
end Go.Proofs.YtpodmgihlomglaaGreatDoor
namespace Go.Proofs.YtpodmgihlomglaaGreatDoor
open Go.RowKit Go.Shelf Go.Sort
set_option maxRecDepth 1000000
set_option linter.unusedSimpArgs false
set_option maxHeartbeats 2000000 in
theorem twice_tail (n : Nat) (a : Option Addr) (cp : Nat) (ss : List (List UInt8)) (w : World) (hn : n ≤ 1000000) (hss : ss.length = n) (hpos : 0 < n)
    (hclone : Calls Tryz.prog 130 #[.slice a n cp] w fun e w' => ∃ v', e = .returned v' ∧ w'.ownsRow w.heap.size 9 1 v' n (ss.map encStr) ∧ v' ≠ .slice none 0 0 ∧ Below w.heap.size w w') :
    Calls Tryz.prog 105 #[.slice a n cp] w fun e w' => e = .returned (.bool (decide (¬ ss.Nodup))) ∧ Below w.heap.size w w' := by
  obtain ⟨z, hz⟩ : ∃ z, z = (Lib.compact (ss.mergeSort fun x y => decide (x ≤ y))).length := ⟨_, rfl⟩
  have hcs := compact_sorted ss
  rw [← hz, hss] at hcs
  obtain ⟨R, hR⟩ : ∃ R, R = decide (¬ ss.Nodup) := ⟨_, rfl⟩
  rw [← hR]
  have hlt : decide (z < n) = R := by
    rw [hR]
    by_cases h : z < n
    · rw [decide_eq_true h, decide_eq_true (hcs.1 h)]
    · rw [decide_eq_false h, decide_eq_false (fun h' => h (hcs.2 h'))]
  have HLT := Lib.hid hlt
  have HZ := Lib.hid hz
  have HSS := Lib.hid hss
  clear hz hcs hR hlt hss
  go_enter Tryz.func105, Tryz.ntmps105
  go_wp2_with (first
    | (go_at_call 130; refine hclone.mono ?_; rintro e w1 ⟨v1, rfl, hown, hnn, hbel⟩
       obtain ⟨g, cap, rfl, hbg, hgl, hncap, hcm, hlen, hH⟩ := Lib.holds_of_ownsRow hown hnn
       have hsort := Tryz.slices_Sort_string g 0 cap ss w1 hH hgl (by omega)
       rw [hlen] at hsort
       have X := Lib.hid (And.intro hown (And.intro hbel (And.intro hbg (And.intro hgl (And.intro hncap (And.intro hcm (And.intro hlen hH)))))))
       clear hown hbel hH hnn)
    | (go_at_call 131; refine hsort.mono ?_; rintro e w2 ⟨rfl, nn, os, rfl⟩
       have hl2 : (ss.mergeSort fun x y => decide (x ≤ y)).length = n := by rw [List.length_mergeSort]; exact HSS.out
       have hH2 : Holds encStr (grow (putRow encStr (Sort.ahead w1 nn) g 0 (ss.mergeSort fun x y => decide (x ≤ y)).toArray) os) g 0 (ss.mergeSort fun x y => decide (x ≤ y)).toArray :=
         holds_grow encStr _ os g 0 _ (by simpa [putRow, mapBlock, Sort.ahead] using X.out.2.2.2.1) (holds_putRow encStr _ g 0 _ _ (holds_ahead encStr w1 nn g 0 _ X.out.2.2.2.2.2.2.2) (by simp))
       have hcomp := Tryz.slices_Compact_string g 0 cap (ss.mergeSort fun x y => decide (x ≤ y)) _ hH2 (by omega) (by have := X.out.2.2.2.2.1; omega)
       rw [hl2, ← HZ.out] at hcomp
       have HBB : Hid (Below w.heap.size w (grow (putRow encStr (Sort.ahead w1 nn) g 0 (ss.mergeSort fun x y => decide (x ≤ y)).toArray) os)) := X.out.2.1.grown (grownBy_sorted _) X.out.2.1.size (fun j hj => by cases hj; exact X.out.2.2.1)
       clear hH2 hsort)
    | (go_at_call 132; refine hcomp.mono ?_; rintro e w3 ⟨rfl, q, rfl⟩))
  go_ret
  refine ⟨?_, Lib.below_putRow HBB.out X.out.2.2.1⟩
  rw [← HLT.out]
  rfl
set_option maxHeartbeats 1000000 in
theorem va_twice (v : Value) (ks : List ByteArray) (w : World) (h : TxV w v ks) (hl : ks.length ≤ 1000000) : Calls Tryz.prog 105 #[v] w fun e w' => e = .returned (.bool (decide (¬ ks.Nodup))) ∧ Below w.heap.size w w' := by
  obtain ⟨a, cap, b, o, rfl, ha, hc, hm⟩ := h
  have hnd : (ks.map kb).Nodup ↔ ks.Nodup := nodup_kb
  rcases Nat.eq_zero_or_pos ks.length with h0 | h0
  · obtain rfl := List.eq_nil_of_length_eq_zero h0
    rw [decide_eq_false (by simp)]
    show Calls _ _ #[.slice a 0 cap] _ _
    cases a with
    | none =>
      go_enter Tryz.func105, Tryz.ntmps105
      go_wp2_with (first
        | (go_at_call 130; refine (Tryz.slices_Clone_string_nil _ _ _).mono ?_; rintro e w1 ⟨rfl, rfl⟩)
        | (go_at_call 131; refine (Tryz.slices_Sort_string_none _ _ _).mono ?_; rintro e w2 ⟨rfl, rfl⟩)
        | (go_at_call 132; refine (Tryz.slices_Compact_string_empty _ _ _).mono ?_; rintro e w3 ⟨rfl, rfl⟩))
      go_ret
      exact ⟨rfl, Below.refl _ _⟩
    | some p =>
      go_enter Tryz.func105, Tryz.ntmps105
      go_wp2_with (first
        | (go_at_call 130; refine (Tryz.slices_Clone_string_zero _ _ _).mono ?_; rintro e w1 ⟨v1, rfl, hown, hnn, hbel⟩; obtain ⟨a1, c1, rfl⟩ : ∃ a1 c1, v1 = .slice a1 0 c1 := by (rcases hown.2 with ⟨e, _⟩ | ⟨g, cp, cur, e, _⟩ <;> exact ⟨_, _, e⟩)
           have HB := Lib.hid hbel
           clear hown hnn hbel)
        | (go_at_call 131; refine (Tryz.slices_Sort_string_none _ _ _).mono ?_; rintro e w2 ⟨rfl, rfl⟩)
        | (go_at_call 132; refine (Tryz.slices_Compact_string_empty _ _ _).mono ?_; rintro e w3 ⟨rfl, rfl⟩))
      go_ret
      exact ⟨rfl, HB.out⟩
  · obtain rfl := ha h0
    have hcl := Tryz.slices_Clone_string b o ks.length cap ks w (Nat.le_refl _) (by omega) (fun j hj => by rw [hc j hj, List.getD_eq_getElem?_getD, List.getElem?_eq_getElem hj]; rfl)
    have := twice_tail ks.length (some ⟨b, o, none⟩) cap (ks.map kb) w hl (by simp) h0 (hcl.mono fun e w' ⟨v', he, hown, hnn, hbel⟩ => ⟨v', he, by
      have e2 : (ks.map kb).map encStr = (ks.take ks.length).map Value.string := by
        rw [List.take_length, List.map_map]
        apply List.map_congr_left
        intro k _
        show encStr (kb k) = Value.string k
        first | rfl | simp [encStr, kb]
      rw [e2]
      exact hown, hnn, hbel⟩)
    rw [show decide (¬ ks.Nodup) = decide (¬ (ks.map kb).Nodup) from by simp only [hnd]]
    exact this
end Go.Proofs.YtpodmgihlomglaaGreatDoor
