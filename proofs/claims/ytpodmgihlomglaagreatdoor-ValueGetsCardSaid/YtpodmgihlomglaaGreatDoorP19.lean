import Derived.Test.YtpodmgihlomglaaGreatDoorP16
import Derived.Laws.StructEq
import Derived.Lib.ItoaNum
import Derived.OwnWalk
namespace Go.Proofs.YtpodmgihlomglaaGreatDoor
open Go.RowKit
set_option maxRecDepth 1000000
theorem strCells_bv (s : ByteArray) : Lib.strCells s = bv (kb s) := by
 first | rfl | simp [Lib.strCells, bv, kb]
section
variable {B : Nat} {v : Value} {l : List UInt8} {w w' : World}
theorem Buf.own (h : Buf B v l w) : v.ownBlock = none ∨ ∃ g cur fz, v.ownBlock = some g ∧ B ≤ g ∧ w.heap[g]? = some (.cells cur 5 fz) := by
 obtain ⟨⟨_, h2⟩, _⟩ := h
 rcases h2 with ⟨rfl, _⟩ | ⟨g, cap, cur, fz, rfl, a2, a3, _⟩
 ·exact .inl rfl
 ·exact .inr ⟨g, cur, fz, rfl, a2, a3⟩
theorem Buf.kw {Ts : TypeId → Prop} {n₀ Y : Nat} (h : Buf B v l w) (hg : w.grownBy w' v.ownBlock) (hn : n₀ ≤ B) (he : Ts 5) : KW Ts n₀ Y w w' := by
 rcases h.own with h1 | ⟨g, cur, fz, h1, h2, h3⟩
 ·rw [h1] at hg
  exact KW.below ⟨hg.os, hg.tape, hg.output, hg.size, fun k hk => hg.block k hk (by simp)⟩ (Nat.le_trans hn h.2)
 ·rw [h1] at hg
  exact KW.grown hg (Nat.le_trans hn h2) (Array.getElem?_eq_some_iff.1 h3).1 h3 he
theorem Buf.ikw {Ts : TypeId → Prop} {Y : Nat} (h : Buf B v l w) (k : IKW Ts Y w w') (he : Ts 5) : Buf B v l w' := by
 obtain ⟨⟨h1, h2⟩, h3⟩ := h
 refine ⟨⟨h1, h2.imp_right ?_⟩, Nat.le_trans h3 k.1⟩
 rintro ⟨g, cap, cur, fz, a1, a2, a3, a4⟩
 exact ⟨g, cap, cur, fz, a1, a2, k.2.2 _ _ _ _ a3 he, a4⟩
theorem Buf.grown {row : Option Nat} (h : Buf B v l w) (hg : w.grownBy w' row) (hne : v.ownBlock = none ∨ v.ownBlock ≠ row) : Buf B v l w' := ⟨h.1.kept hg hne, Nat.le_trans h.2 hg.size⟩
theorem Buf.keepsT (h : Buf B v l w) (hg : w.grownBy w' v.ownBlock) {Y : Nat} {c : Array Value} {T : TypeId} {fr : Nat × Nat} (hT : 5 ≠ T) (ho : w.heap[Y]? = some (.cells c T fr)) : w'.heap[Y]? = some (.cells c T fr) := by
 refine (hg.block Y (Array.getElem?_eq_some_iff.1 ho).1 ?_).trans ho
 rcases h.own with h1 | ⟨g, _, _, h1, _, h3⟩
 ·rw [h1]; simp
 ·rw [h1]
  intro x
  obtain rfl := Option.some.inj x
  rw [h3] at ho
  simp only [Option.some.injEq, Obj.cells.injEq] at ho
  exact hT ho.2.1
theorem Buf.ne_box {X : Nat} {T : TypeId} {u : Value} (h : Buf B v l w) (hb : Boxed w X T u) (hT : 5 ≠ T) : v.ownBlock = none ∨ v.ownBlock ≠ some X := by
 rcases h.own with h1 | ⟨g, cur, fz, h1, h2, h3⟩
 ·exact .inl h1
 ·refine .inr fun h' => ?_
  rw [h1] at h'
  obtain rfl := Option.some.inj h'
  rw [show w.heap[g]? = _ from hb] at h3
  simp only [Option.some.injEq, Obj.cells.injEq] at h3
  exact hT h3.2.1.symm
end
theorem bufg_wp {o : Oper} {a : Act} {K : Act → World → Prop} {Q : Exit → Act → World → Prop} {w : World} (s x : Operand)
  (ho : o.op = .call { callee := .builtin .append, args := #[s, x], argTypes := #[104, 104] })
  {B : Nat} {v : Value} {l : List UInt8} (hs : a.eval s = v) (hb : Buf B v l w) (r : List UInt8) (ad : Addr) (c : Nat) (hx : a.eval x = .slice (some ad) r.length c)
  (hc : ∀ j u, (bv r)[j]? = some u → w.cell? (ad.add j) = some u) (hlen : l.length + r.length ≤ 140737488355328)
  (h : ∀ v' w', Buf B v' (l ++ r) w' → w.grownBy w' v.ownBlock → K (a.put o.dst v') w') : o.wp Tryz.prog a w K Q := by
 obtain ⟨i, hi, hz, h1, h2⟩ := info_parts u8_info
 obtain ⟨v', w', hr, g1, g2, _⟩ := run_append_ownF (P := Tryz.prog) w B 104 o.type 5 i (.int .u8 0) 1 1 Tryz.underlying104 hi hz h1 h2 rfl (by decide) v l.length (bv l) hb.1 ad r.length c (bv r) (by rw [bv_len]; omega) hc bv_one
  (by unfold maxLen; omega) (by omega) hb.2
 unfold Oper.wp execOp
 simp only [ho, resolve, invoke, builtin, Sem.run_bind, Sem.run_pure, Result.andThen_ok, List.map_toArray, List.map_cons, List.map_nil, hs, hx, hr]
 exact h v' w' ⟨by rw [List.length_append, bv_app]; exact g1, Nat.le_trans hb.2 g2.size⟩ g2
theorem bufg_new {ops : Array Oper} {rest : List Oper} {o : Oper} {a : Act} {Q : Exit → Act → World → Prop} {w : World} (hgd : o.guard = none) (s x : Operand)
  (ho : o.op = .call { callee := .builtin .append, args := #[s, x], argTypes := #[104, 104] })
  {B : Nat} {v : Value} {l : List UInt8} (hs : a.eval s = v) (hb : Buf B v l w) (r : List UInt8) (cs : Array Value) (hcs : cs = (bv r).toArray) (n c : Nat) (hn : n = r.length) (hx : a.eval x = .slice (some ⟨w.heap.size, 0, none⟩) n c)
  (hlen : l.length + r.length ≤ 140737488355328)
  (h : ∀ v' w', Buf B v' (l ++ r) w' → (w.alloc (.cells cs 5)).grownBy w' v.ownBlock → wpList Tryz.prog ops Q rest (a.put o.dst v') w') : wpList Tryz.prog ops Q (o :: rest) a (w.alloc (.cells cs 5)) := by
 subst hn
 exact wpList_plain hgd fun _ hK => bufg_wp s x ho hs (hb.alloc _) r ⟨w.heap.size, 0, none⟩ c hx (new_cells w r cs hcs) hlen fun v' w' h1 h2 => hK _ _ (h v' w' h1 h2)
theorem bufs_wp {o : Oper} {a : Act} {K : Act → World → Prop} {Q : Exit → Act → World → Prop} {w : World} (s x : Operand)
  (ho : o.op = .call { callee := .builtin .append, args := #[s, x], argTypes := #[104, 9] })
  {B : Nat} {v : Value} {l : List UInt8} (hs : a.eval s = v) (hb : Buf B v l w) (t : ByteArray) (hx : a.eval x = .string t) (hlen : l.length + t.size ≤ 140737488355328)
  (h : ∀ v' w', Buf B v' (l ++ kb t) w' → w.grownBy w' v.ownBlock → K (a.put o.dst v') w') : o.wp Tryz.prog a w K Q := by
 obtain ⟨i, hi, hz, h1, h2⟩ := info_parts u8_info
 obtain ⟨v', w', hr, g1, g2, _⟩ := Lib.run_append_own_stringF (P := Tryz.prog) w B 104 9 o.type 5 i Tryz.underlying104 Tryz.underlying9 hi hz h1 h2 v l.length (bv l) hb.1 t (by unfold maxLen; omega) hlen hb.2
 unfold Oper.wp execOp
 simp only [ho, resolve, invoke, builtin, Sem.run_bind, Sem.run_pure, Result.andThen_ok, List.map_toArray, List.map_cons, List.map_nil, hs, hx, hr]
 refine h v' w' ⟨?_, Nat.le_trans hb.2 g2.size⟩ g2
 have e : (kb t).length = t.size := Array.length_toList
 rw [List.length_append, bv_app, e, ← strCells_bv]
 exact g1
end Go.Proofs.YtpodmgihlomglaaGreatDoor
namespace Go.Proofs.YtpodmgihlomglaaGreatDoor
open Go.RowKit
set_option maxRecDepth 1000000
set_option linter.unusedSimpArgs false
theorem buf_make {ops : Array Oper} {rest : List Oper} {o : Oper} {a : Act} {Q : Exit → Act → World → Prop} {w : World} (hgd : o.guard = none) (l c : Operand) (hop : o.op = .makeSlice 104 l c)
  {B : Nat} (kl kc : IntKind) (C : Int) (n : Nat) (hl : a.eval l = .int kl 0) (hc : a.eval c = .int kc C) (hC : C = (n : Int)) (hn : n ≤ 10000000) (hB : B ≤ w.heap.size)
  (h : ∀ v w', Buf B v [] w' → Below w.heap.size w w' → wpList Tryz.prog ops Q rest (a.put o.dst v) w') : wpList Tryz.prog ops Q (o :: rest) a w := by
 obtain ⟨i, hi, hz, h1, h2⟩ := info_parts u8_info
 refine wpList_make_own w hgd l c 104 hop B 5 i (.int .u8 0) 1 Tryz.underlying104 hi hz h1 kl kc C n hl hc hC (by rw [h2]; omega) (by unfold maxLen; omega) hB fun w' r1 r2 => ?_
 have hb : Below w.heap.size w w' := (Below.refl _ _).grown r2 (Nat.le_refl _) (fun k hk => by cases hk)
 exact h _ _ ⟨World.ownsRowF_of r1, Nat.le_trans hB hb.size⟩ hb
abbrev scT (k n : Int) (t : ByteArray) : Sc := (k, n, t.data.toList)
noncomputable def cv1X (w : World) (a : Addr) : Result Value := (convert 104 9 (.slice (some a) 1 1)).run Tryz.prog w
open Classical in
noncomputable def cv1 (w : World) (a : Addr) (c : Option Value) : Result Value := if ∃ v, 0 ≤ v ∧ v < 256 ∧ c = some (.int .u8 v) then
 match c with
 | some (.int .u8 v) => .ok (.string ⟨#[bt8 v]⟩) w
 | _ => cv1X w a
 else cv1X w a
theorem cv1_run (w : World) (a : Addr) : (convert 104 9 (.slice (some a) 1 1)).run Tryz.prog w = cv1 w a (w.cell? a) := by
 unfold cv1
 split
 ·rename_i h
  obtain ⟨v, h0, h1, hc⟩ := h
  rw [hc]
  have := run_convert_bytes_back (P := Tryz.prog) w 104 9 5 a 1 [bt8 v] Tryz.underlying104 Tryz.underlying5 Tryz.underlying9 (fun j hj => by
   have hj' : j = 0 := by simp at hj; exact hj
   subst hj'
   rw [show a.add 0 = a from by simp [Addr.add], hc]
   simp [bt8_toNat]; omega)
  exact this
 ·rfl
theorem cv1_at (w : World) (a : Addr) (v : Int) (h0 : 0 ≤ v) (h1 : v < 256) : cv1 w a (some (.int .u8 v)) = .ok (.string ⟨#[bt8 v]⟩) w := by
 unfold cv1
 rw [if_pos ⟨v, h0, h1, rfl⟩]
theorem cat_mk (l r : List UInt8) : (⟨l.toArray⟩ : ByteArray) ++ ⟨r.toArray⟩ = ⟨(l ++ r).toArray⟩ := by
 apply ByteArray.ext
 simp [ByteArray.data_append]
def Drawn (w w' : World) : Prop := ∃ n, w' = w.drewN n
theorem Drawn.refl (w : World) : Drawn w w := ⟨0, rfl⟩
theorem Drawn.more {w w1 : World} (h : Drawn w w1) (n : Nat) : Drawn w (w1.drewN n) := by
 obtain ⟨k, rfl⟩ := h
 exact ⟨k + n, by rw [World.drewN_drewN]⟩
theorem Drawn.below {w w1 : World} (h : Drawn w w1) : Below w.heap.size w w1 := by
 obtain ⟨n, rfl⟩ := h
 exact ⟨rfl, rfl, rfl, Nat.le_refl _, fun _ _ => rfl⟩
theorem len_bytes (s : ByteArray) : s.data.toList.length = s.size := by simp
theorem take_bytes (s : ByteArray) (k : Nat) (h : k < s.size) : s.data.toList.take (k + 1) = s.data.toList.take k ++ [s[k]] := by
 rw [List.take_succ_eq_append_getElem (by simpa using h)]; rfl
theorem get_bytes (s : ByteArray) (k : Nat) (h : k < s.size) : s.data.toList[k]? = some s[k] := by
 rw [List.getElem?_eq_getElem (by simpa using h)]; rfl
theorem ret_nat {x y : Int} (h : x = y) : Ending.returned (.int .i64 x) = .returned (.int .i64 y) := by rw [h]
set_option maxHeartbeats 1000000 in
theorem ref_Common (a b : ByteArray) (w : World) (ha : a.size ≤ maxLen) : Calls Tryz.prog 29 #[.string a, .string b] w fun e w' => e = .returned (.int .i64 (commonS a.data.toList b.data.toList : Nat)) ∧ Drawn w w' := by
 unfold maxLen at ha
 go_enter Tryz.func29, Tryz.ntmps29
 go_wp2
 go_loopw [5] (fun n wr => ∃ k : Nat, k ≤ a.size ∧ k ≤ b.size ∧ n = .int .i64 k ∧ a.data.toList.take k = b.data.toList.take k ∧ Drawn w wr) (fun n _ => a.size - (intOf n).toNat)
 case atStart => exact ⟨0, Nat.zero_le _, Nat.zero_le _, rfl, rfl, Drawn.refl _⟩
 case round =>
  obtain ⟨k, hka, hkb, rfl, ht, hd⟩ := hrel
  have HT := Lib.hid ht
  have HD := Lib.hid hd
  clear ht hd
  by_cases h1 : k < a.size
  ·by_cases h2 : k < b.size
   ·have h1' : decide ((k : Int) < (a.size : Int)) = true := by simp; omega
    have h2' : decide ((k : Int) < (b.size : Int)) = true := by simp; omega
    by_cases h3 : a[k] = b[k]
    ·have HS : Hid (a.data.toList.take (k + 1) = b.data.toList.take (k + 1)) := by
      show _ = _
      rw [take_bytes a k h1, take_bytes b k h2, HT.out, h3]
     have h4 : ((a[k].toNat : Int) == (b[k].toNat : Int)) = true := by rw [h3]; exact beq_self_eq_true _
     have h5 : (a[k].toNat : Int) = (b[k].toNat : Int) := by rw [h3]
     clear h3
     go_wp2
     go_quiet (fail)
     go_wp2
     go_roundw
     case rel => exact ⟨k + 1, by omega, by omega, by go_num, HS.out, HD.out.more _⟩
     case measure => simp [intOf]; omega
    ·have HF : Hid (commonS a.data.toList b.data.toList = k) := by
      refine commonS_of k _ _ HT.out (by rw [len_bytes]; omega) (by rw [len_bytes]; omega) (.inr (.inr ?_))
      rw [get_bytes a k h1, get_bytes b k h2]; simpa using h3
     have h5 : ¬ (a[k].toNat : Int) = (b[k].toNat : Int) := fun e => h3 (UInt8.toNat_inj.1 (by omega))
     have h4 : ((a[k].toNat : Int) == (b[k].toNat : Int)) = false := beq_eq_false_iff_ne.2 h5
     clear h3
     go_wp2
     go_quiet (fail)
     go_wp2
     go_ret
     exact ⟨ret_nat (by rw [HF.out]), HD.out.more _⟩
   ·have HF : Hid (commonS a.data.toList b.data.toList = k) :=
     commonS_of k _ _ HT.out (by rw [len_bytes]; omega) (by rw [len_bytes]; omega) (.inr (.inl (by rw [len_bytes]; omega)))
    have h1' : decide ((k : Int) < (a.size : Int)) = true := by simp; omega
    have h2' : decide ((k : Int) < (b.size : Int)) = false := by simp; omega
    go_wp2
    go_quiet (fail)
    go_wp2
    go_ret
    exact ⟨ret_nat (by rw [HF.out]), HD.out.more _⟩
  ·have HF : Hid (commonS a.data.toList b.data.toList = k) :=
    commonS_of k _ _ HT.out (by rw [len_bytes]; omega) (by rw [len_bytes]; omega) (.inl (by rw [len_bytes]; omega))
   have h1' : decide ((k : Int) < (a.size : Int)) = false := by simp; omega
   go_wp2
   go_quiet (fail)
   go_wp2
   go_ret
   exact ⟨ret_nat (by rw [HF.out]), HD.out.more _⟩
theorem order_bytes (a b : ByteArray) (k : Nat) (ht : a.data.toList.take k = b.data.toList.take k) (ha : k ≤ a.size) (hb : k ≤ b.size) :
  (k = a.size → k = b.size → orderS a.data.toList b.data.toList = 0) ∧ (k = a.size → ¬ k = b.size → orderS a.data.toList b.data.toList = -1) ∧ (¬ k = a.size → k = b.size → orderS a.data.toList b.data.toList = 1) ∧
  (∀ (h1 : k < a.size) (h2 : k < b.size), ((a[k].toNat : Int) < (b[k].toNat : Int) → orderS a.data.toList b.data.toList = -1) ∧ ((b[k].toNat : Int) < (a[k].toNat : Int) → orderS a.data.toList b.data.toList = 1)) := by
 obtain ⟨h1, h2, h3, h4⟩ := order_of a.data.toList b.data.toList k ht (by rw [len_bytes]; exact ha) (by rw [len_bytes]; exact hb)
 rw [len_bytes, len_bytes] at h1 h2 h3
 refine ⟨h1, h2, h3, fun g1 g2 => ?_⟩
 have := h4 (by rw [len_bytes]; exact g1) (by rw [len_bytes]; exact g2)
 exact ⟨fun h => this.1 (by rw [UInt8.lt_iff_toNat_lt]; show a[k].toNat < b[k].toNat; omega), fun h => this.2 (by rw [UInt8.lt_iff_toNat_lt]; show b[k].toNat < a[k].toNat; omega)⟩
set_option maxHeartbeats 1000000 in
theorem ref_Order (a b : ByteArray) (w : World) (ha : a.size ≤ maxLen) : Calls Tryz.prog 84 #[.string a, .string b] w fun e w' => e = .returned (.int .i64 (orderS a.data.toList b.data.toList)) ∧ Drawn w w' := by
 have HC := Lib.hid (ref_Common a b w ha)
 unfold maxLen at ha
 obtain ⟨k, hk⟩ : ∃ k, commonS a.data.toList b.data.toList = k := ⟨_, rfl⟩
 obtain ⟨h1, h2, h3, h4⟩ := commonS_le a.data.toList b.data.toList
 rw [hk] at h1 h2 h3 h4 HC
 rw [len_bytes] at h1 h2
 clear hk
 obtain ⟨o1, o2, o3, o4⟩ := order_bytes a b k h3 h1 h2
 have H4 : Hid (∀ (g1 : k < a.size) (g2 : k < b.size), (a[k].toNat : Int) < (b[k].toNat : Int) ∨ (b[k].toNat : Int) < (a[k].toNat : Int)) := by
  intro g1 g2
  rcases h4 with h4 | h4 | h4
  ·rw [len_bytes] at h4; omega
  ·rw [len_bytes] at h4; omega
  ·rw [get_bytes a k g1, get_bytes b k g2] at h4
   have : ¬ a[k].toNat = b[k].toNat := fun e => h4 (by rw [UInt8.toNat_inj.1 e])
   omega
 have O1 := Lib.hid o1
 have O2 := Lib.hid o2
 have O3 := Lib.hid o3
 have O4 := Lib.hid o4
 clear o1 o2 o3 o4 h3 h4
 by_cases e1 : k = a.size <;> by_cases e2 : k = b.size
 ·have H := Lib.hid (O1.out e1 e2)
  have b1 : ((k : Int) == (a.size : Int)) = true := beq_iff_eq.2 (by omega)
  have b2 : ((k : Int) == (b.size : Int)) = true := beq_iff_eq.2 (by omega)
  have i1 : (k : Int) = (a.size : Int) := by omega
  have i2 : (k : Int) = (b.size : Int) := by omega
  clear e1 e2
  go_enter Tryz.func84, Tryz.ntmps84
  go_wp2_with fail
  refine HC.out.mono ?_
  rintro e w1 ⟨rfl, hd⟩
  have HD := Lib.hid hd; clear hd
  go_wp2_with fail
  go_ret
  exact ⟨by rw [H.out]; rfl, HD.out⟩
 ·have H := Lib.hid (O2.out e1 e2)
  have b1 : ((k : Int) == (a.size : Int)) = true := beq_iff_eq.2 (by omega)
  have b2 : ((k : Int) == (b.size : Int)) = false := beq_eq_false_iff_ne.2 (by omega)
  have i1 : (k : Int) = (a.size : Int) := by omega
  have i2 : ¬ (k : Int) = (b.size : Int) := by omega
  clear e1 e2
  go_enter Tryz.func84, Tryz.ntmps84
  go_wp2_with fail
  refine HC.out.mono ?_
  rintro e w1 ⟨rfl, hd⟩
  have HD := Lib.hid hd; clear hd
  go_wp2_with fail
  go_ret
  exact ⟨by rw [H.out]; rfl, HD.out⟩
 ·have H := Lib.hid (O3.out e1 e2)
  have b1 : ((k : Int) == (a.size : Int)) = false := beq_eq_false_iff_ne.2 (by omega)
  have b2 : ((k : Int) == (b.size : Int)) = true := beq_iff_eq.2 (by omega)
  have i1 : ¬ (k : Int) = (a.size : Int) := by omega
  have i2 : (k : Int) = (b.size : Int) := by omega
  clear e1 e2
  go_enter Tryz.func84, Tryz.ntmps84
  go_wp2_with fail
  refine HC.out.mono ?_
  rintro e w1 ⟨rfl, hd⟩
  have HD := Lib.hid hd; clear hd
  go_wp2_with fail
  go_ret
  exact ⟨by rw [H.out]; rfl, HD.out⟩
 ·have g1 : k < a.size := by omega
  have g2 : k < b.size := by omega
  have b1 : ((k : Int) == (a.size : Int)) = false := beq_eq_false_iff_ne.2 (by omega)
  have b2 : ((k : Int) == (b.size : Int)) = false := beq_eq_false_iff_ne.2 (by omega)
  have i1 : ¬ (k : Int) = (a.size : Int) := by omega
  have i2 : ¬ (k : Int) = (b.size : Int) := by omega
  clear e1 e2
  rcases H4.out g1 g2 with hlt | hlt
  ·have H := Lib.hid ((O4.out g1 g2).1 hlt)
   go_enter Tryz.func84, Tryz.ntmps84
   go_wp2_with fail
   refine HC.out.mono ?_
   rintro e w1 ⟨rfl, hd⟩
   have HD := Lib.hid hd; clear hd
   go_wp2_with fail
   go_quiet (fail)
   go_wp2_with fail
   go_ret
   exact ⟨by rw [H.out]; rfl, HD.out.more _⟩
  ·have H := Lib.hid ((O4.out g1 g2).2 hlt)
   have hge : ¬ (a[k].toNat : Int) < (b[k].toNat : Int) := by omega
   have hge2 : (b[k].toNat : Int) ≤ (a[k].toNat : Int) := by omega
   go_enter Tryz.func84, Tryz.ntmps84
   go_wp2_with fail
   refine HC.out.mono ?_
   rintro e w1 ⟨rfl, hd⟩
   have HD := Lib.hid hd; clear hd
   go_wp2_with fail
   go_quiet (fail)
   go_wp2_with fail
   go_ret
   exact ⟨by rw [H.out]; rfl, HD.out.more _⟩
abbrev scV (k n : Int) (t : ByteArray) : Value := .agg #[.int .i64 k, .int .i64 n, .string t]
theorem txt_empty (t : ByteArray) : t.data.toList = [] ↔ t = ⟨#[]⟩ := by
 constructor
 ·intro h
  apply ByteArray.ext
  apply Array.toList_inj.1
  simpa using h
 ·rintro rfl; rfl
theorem toL_isEmpty (t : ByteArray) : t.toList.isEmpty = decide (t.data.toList = []) := by
 rw [ByteArray.toList_eq]
 cases t.data.toList <;> simp
set_option maxHeartbeats 4000000 in
theorem ref_Check5 (k n : Int) (t : ByteArray) (w : World) :
  Calls Tryz.prog 107 #[scV k n t] w fun e w' => e = .returned (.int .i64 (chkSc (k, n, t.data.toList))) ∧ Below w.heap.size w w' := by
 have HN := Lib.hid (Below.newly' w (.cells #[.int .i64 k, .int .i64 n, .string t] 32))
 have te := toL_isEmpty t
 by_cases h1 : k < 0
 ·clear te
  go_enter Tryz.func107, Tryz.ntmps107
  go_wp2
  go_ret
  exact ⟨ret_nat (by simp [chkSc, h1]), HN.out⟩
 by_cases h2 : 3 < k
 ·clear te
  go_enter Tryz.func107, Tryz.ntmps107
  go_wp2
  go_ret
  exact ⟨ret_nat (by simp [chkSc, h2]), HN.out⟩
 by_cases ht0 : t.data.toList = []
 ·rw [decide_eq_true ht0] at te
  have HT := Lib.hid ht0
  clear ht0
  rcases (show k = 0 ∨ k = 1 ∨ k = 2 ∨ k = 3 by omega) with rfl | rfl | rfl | rfl
  ·by_cases hn : n = 0
   ·subst hn
    go_enter Tryz.func107, Tryz.ntmps107
    go_wp2
    go_ret
    exact ⟨ret_nat (by rw [HT.out]; rfl), HN.out⟩
   ·have hn' : (n != 0) = true := bne_iff_ne.2 hn
    go_enter Tryz.func107, Tryz.ntmps107
    go_wp2
    go_ret
    exact ⟨ret_nat (by simp [chkSc, hn]), HN.out⟩
  ·by_cases hn : n = 0
   ·subst hn
    go_enter Tryz.func107, Tryz.ntmps107
    go_wp2
    go_ret
    exact ⟨ret_nat (by rw [HT.out]; rfl), HN.out⟩
   ·by_cases hm : n = 1
    ·subst hm
     go_enter Tryz.func107, Tryz.ntmps107
     go_wp2
     go_ret
     exact ⟨ret_nat (by rw [HT.out]; rfl), HN.out⟩
    ·have hn' : (n != 0) = true := bne_iff_ne.2 hn
     have hm' : (n != 1) = true := bne_iff_ne.2 hm
     go_enter Tryz.func107, Tryz.ntmps107
     go_wp2
     go_ret
     exact ⟨ret_nat (by rw [HT.out]; simp [chkSc, hn, hm]), HN.out⟩
  ·go_enter Tryz.func107, Tryz.ntmps107
   go_wp2
   go_ret
   exact ⟨ret_nat (by rw [HT.out, chk_int]), HN.out⟩
  ·by_cases hn : n = 0
   ·subst hn
    go_enter Tryz.func107, Tryz.ntmps107
    go_wp2
    go_ret
    exact ⟨ret_nat (by rw [chk_text]), HN.out⟩
   ·have hn' : (n != 0) = true := bne_iff_ne.2 hn
    go_enter Tryz.func107, Tryz.ntmps107
    go_wp2
    go_ret
    exact ⟨ret_nat (by simp [chkSc, hn]), HN.out⟩
 ·rw [decide_eq_false ht0] at te
  have HT := Lib.hid ht0
  clear ht0
  by_cases h3 : k = 3
  ·subst h3
   by_cases hn : n = 0
   ·subst hn
    go_enter Tryz.func107, Tryz.ntmps107
    go_wp2
    go_ret
    exact ⟨ret_nat (by rw [chk_text]), HN.out⟩
   ·have hn' : (n != 0) = true := bne_iff_ne.2 hn
    go_enter Tryz.func107, Tryz.ntmps107
    go_wp2
    go_ret
    exact ⟨ret_nat (by simp [chkSc, hn]), HN.out⟩
  ·by_cases h0 : k = 0
   ·subst h0
    by_cases hn : n = 0
    ·subst hn
     go_enter Tryz.func107, Tryz.ntmps107
     go_wp2
     go_ret
     exact ⟨ret_nat (by simp only [chkSc]; simp [HT.out]), HN.out⟩
    ·have hn' : (n != 0) = true := bne_iff_ne.2 hn
     go_enter Tryz.func107, Tryz.ntmps107
     go_wp2
     go_ret
     exact ⟨ret_nat (by simp [chkSc, hn]), HN.out⟩
   ·have h3' : (k != 3) = true := bne_iff_ne.2 h3
    have h3'' : (k == 3) = false := beq_eq_false_iff_ne.2 h3
    have h0' : (k == 0) = false := beq_eq_false_iff_ne.2 h0
    have hk1 : 0 ≤ k := by omega
    have hk2 : k ≤ 3 := by omega
    have HC : Hid (chkSc (k, n, t.data.toList) = 1) := by
     show _ = _
     simp [chkSc, h1, h2, h3, h0, HT.out]
    clear h1 h2
    go_enter Tryz.func107, Tryz.ntmps107
    go_wp2
    go_ret
    exact ⟨ret_nat (by rw [HC.out]), HN.out⟩
theorem cut_one (s : ByteArray) (k : Nat) (h : k < s.size) : s.extract k (k + 1) = ⟨#[s[k]]⟩ := by
 apply ByteArray.ext
 apply Array.toList_inj.1
 have h1 : (s.extract k (k + 1)).data.toList = (s.data.toList.drop k).take 1 := by
  simp [ByteArray.data_extract]
 rw [h1, List.drop_eq_getElem_cons (by simpa using h)]
 rfl
theorem cov_take (s : ByteArray) (k : Nat) (h : k < s.size) : covS (s.data.toList.take (k + 1)) = covS (s.data.toList.take k) ++ covOne s[k] := by
 rw [take_bytes s k h]
 simp [covS]
set_option maxHeartbeats 4000000 in
theorem ref_Covered (s : ByteArray) (w : World) (hs : s.size ≤ 1000000) :
  Calls Tryz.prog 109 #[.string s] w fun e w' => e = .returned (.string ⟨(covS s.data.toList).toArray⟩) ∧ w' = w := by
 go_enter Tryz.func109, Tryz.ntmps109
 go_wp2
 go_loopw [3, 7] (fun x n wl => ∃ (k : Nat) (txt : List UInt8), k ≤ s.size ∧ n = .int .i64 k ∧ x = .string ⟨txt.toArray⟩ ∧ txt = covS (s.data.toList.take k) ∧ wl = w) (fun _ n _ => s.size - (intOf n).toNat)
 case atStart => exact ⟨0, [], Nat.zero_le _, rfl, rfl, by simp [covS], rfl⟩
 case round =>
  obtain ⟨k, txt, hk, rfl, rfl, ht, rfl⟩ := hrel
  have htl : txt.length ≤ 2000000 := by
   have h := cov_len (s.data.toList.take k)
   rw [ht]
   have h2 : (s.data.toList.take k).length ≤ 1000000 := by rw [List.length_take]; omega
   omega
  have HT := Lib.hid ht
  clear ht
  by_cases h1 : k < s.size
  ·have hcut := cut_one s k h1
   have HCT := Lib.hid (cov_take s k h1)
   by_cases h0 : s[k] = 0
   ·have h0' : (s[k].toNat : Int) = 0 := by rw [h0]; rfl
    go_wp2_with fail
    go_roundw
    case rel => exact ⟨k + 1, txt ++ [0] ++ [255], by omega, by go_num, by rw [← cat_mk, ← cat_mk], by rw [HCT.out, HT.out, h0]; simp [covOne], trivial⟩
    case measure => simp [intOf]; omega
   ·have h0' : ¬ (s[k].toNat : Int) = 0 := fun e => h0 (UInt8.toNat_inj.1 (by simpa using e))
    go_wp2_with fail
    go_roundw
    case rel => exact ⟨k + 1, txt ++ [s[k]], by omega, by go_num, by rw [← cat_mk], by rw [HCT.out, HT.out]; simp [covOne, h0], trivial⟩
    case measure => simp [intOf]; omega
  ·have e : Hid (s.data.toList.take k = s.data.toList) := List.take_of_length_le (by rw [len_bytes]; omega)
   rw [e.out] at HT
   have HT2 := Lib.hid HT.out
   clear HT e
   go_wp2_with fail
   go_ret
   exact ⟨by rw [← HT2.out]; rfl, rfl⟩
set_option maxHeartbeats 4000000 in
theorem ref_Key5 (k n : Int) (t : ByteArray) (w : World) (hn : InR n) (ht : t.size ≤ 1000000) :
  Calls Tryz.prog 83 #[scV k n t] w fun e w' => e = .returned (.string ⟨(keySc (k, n, t.data.toList)).toArray⟩) ∧ Below w.heap.size w w' := by
 have hb0 : Below w.heap.size w (w.alloc (.cells #[.int .i64 k, .int .i64 n, .string t] 32)) := Below.newly' w _
 have HN := Lib.hid hb0
 have HC := Lib.hid (fun W => ref_Check5 k n t W)
 have hcov := cov_len t.data.toList
 rw [len_bytes] at hcov
 have HCL := Lib.hid hcov
 have HV := Lib.hid (fun W => ref_Covered t W ht)
 have HB := Lib.hid (fun W => ref_Bytes n W hn)
 clear hn hb0 hcov
 by_cases hc : chkSc (k, n, t.data.toList) = 0
 ·have key : ∀ (W : World), Below (w.alloc (.cells #[.int .i64 k, .int .i64 n, .string t] 32)).heap.size (w.alloc (.cells #[.int .i64 k, .int .i64 n, .string t] 32)) W →
    W.cell? ⟨w.heap.size, 0, none⟩ = some (.int .i64 k) ∧ W.cell? ⟨w.heap.size, 1, none⟩ = some (.int .i64 n) ∧ W.cell? ⟨w.heap.size, 2, none⟩ = some (.string t) ∧ Below w.heap.size w W := fun W h =>
   ⟨(h.cell (p := ⟨w.heap.size, 0, none⟩) (by simp)).trans (by simp), (h.cell (p := ⟨w.heap.size, 1, none⟩) (by simp)).trans (by simp), (h.cell (p := ⟨w.heap.size, 2, none⟩) (by simp)).trans (by simp), tW HN.out h⟩
  have KEY := Lib.hid key
  clear key
  rcases chk_cases _ hc with h | h | h | ⟨m, h⟩ | ⟨u, h⟩
  ·simp only [Prod.mk.injEq] at h
   obtain ⟨rfl, rfl, h3⟩ := h
   have H3 := Lib.hid h3
   rw [h3] at HC hc
   clear h3 hc
   go_enter Tryz.func83, Tryz.ntmps83
   go_wp2_with fail
   refine (HC.out _).mono ?_
   rintro e w1 ⟨rfl, hb⟩
   obtain ⟨c0, c1, c2, hb1⟩ := KEY.out _ hb
   have H1 := Lib.hid hb1
   clear hb hb1
   rw [chk_null]
   go_wp2_with fail
   go_ret
   exact ⟨by rw [H3.out, key_null]; rfl, H1.out⟩
  ·simp only [Prod.mk.injEq] at h
   obtain ⟨rfl, rfl, h3⟩ := h
   have H3 := Lib.hid h3
   rw [h3] at HC hc
   clear h3 hc
   have hcv := cv1_run
   have hca : ∀ (w : World) (a : Addr), cv1 w a (some (.int .u8 0)) = .ok (.string ⟨#[0]⟩) w := fun w a => cv1_at w a 0 (by decide) (by decide)
   go_enter Tryz.func83, Tryz.ntmps83
   go_wp2_with fail
   refine (HC.out _).mono ?_
   rintro e w1 ⟨rfl, hb⟩
   obtain ⟨c0, c1, c2, hb1⟩ := KEY.out _ hb
   have H1 := Lib.hid hb1
   clear hb hb1
   rw [chk_false]
   go_wp2_with fail
   go_ret
   exact ⟨by rw [H3.out, key_false]; rfl, Below.more H1.out _⟩
  ·simp only [Prod.mk.injEq] at h
   obtain ⟨rfl, rfl, h3⟩ := h
   have H3 := Lib.hid h3
   rw [h3] at HC hc
   clear h3 hc
   have hcv := cv1_run
   have hca : ∀ (w : World) (a : Addr), cv1 w a (some (.int .u8 1)) = .ok (.string ⟨#[1]⟩) w := fun w a => cv1_at w a 1 (by decide) (by decide)
   go_enter Tryz.func83, Tryz.ntmps83
   go_wp2_with fail
   refine (HC.out _).mono ?_
   rintro e w1 ⟨rfl, hb⟩
   obtain ⟨c0, c1, c2, hb1⟩ := KEY.out _ hb
   have H1 := Lib.hid hb1
   clear hb hb1
   rw [chk_true]
   go_wp2_with fail
   go_ret
   exact ⟨by rw [H3.out, key_true]; rfl, Below.more H1.out _⟩
  ·simp only [Prod.mk.injEq] at h
   obtain ⟨rfl, rfl, h3⟩ := h
   have H3 := Lib.hid h3
   rw [h3] at HC hc
   clear h3 hc
   go_enter Tryz.func83, Tryz.ntmps83
   go_wp2_with fail
   refine (HC.out _).mono ?_
   rintro e w1 ⟨rfl, hb⟩
   obtain ⟨c0, c1, c2, hb1⟩ := KEY.out _ hb
   have H1 := Lib.hid hb1
   clear hb hb1
   rw [chk_int]
   go_wp2_with fail
   refine (HB.out _).mono ?_
   rintro e w2 ⟨rfl, hb⟩
   have H2 := Lib.hid (tW H1.out hb)
   have hl : (bytesS n).length = 8 := bytesS_len n
   clear hb
   go_wp2_with fail
   go_ret
   exact ⟨by rw [H3.out, key_int, show (3 :: bytesS n) = [3] ++ bytesS n from rfl, ← cat_mk]; rfl, H2.out⟩
  ·simp only [Prod.mk.injEq] at h
   obtain ⟨rfl, rfl, h3⟩ := h
   have HK : Hid (chkSc (3, 0, t.data.toList) = 0) := hc
   clear h3 hc
   go_enter Tryz.func83, Tryz.ntmps83
   go_wp2_with fail
   refine (HC.out _).mono ?_
   rintro e w1 ⟨rfl, hb⟩
   obtain ⟨c0, c1, c2, hb1⟩ := KEY.out _ hb
   have H1 := Lib.hid hb1
   clear hb hb1
   rw [HK.out]
   go_wp2_with fail
   refine (HV.out _).mono ?_
   rintro e w2 ⟨rfl, rfl⟩
   have hl : (covS t.data.toList).length ≤ 2000000 := by have := HCL.out; omega
   go_wp2_with fail
   go_ret
   exact ⟨by rw [key_text, show (4 :: (covS t.data.toList ++ [0, 0])) = [4] ++ covS t.data.toList ++ [0, 0] from rfl, ← cat_mk, ← cat_mk]; rfl, H1.out⟩
 ·have h0 : (chkSc (k, n, t.data.toList) != 0) = true := bne_iff_ne.2 hc
  have HK := Lib.hid (key_bad _ hc)
  go_enter Tryz.func83, Tryz.ntmps83
  go_wp2_with fail
  refine (HC.out _).mono ?_
  rintro e w1 ⟨rfl, hb⟩
  have H1 := Lib.hid (tW HN.out hb)
  clear hb
  go_wp2_with fail
  go_ret
  exact ⟨by rw [HK.out]; rfl, H1.out⟩
def TxV (w : World) (v : Value) (l : List ByteArray) : Prop :=
 ∃ (a : Option Addr) (cap b o : Nat), v = .slice a l.length cap ∧ (0 < l.length → a = some ⟨b, o, none⟩) ∧ (∀ j (h : j < l.length), w.cell? ⟨b, o + j, none⟩ = some (.string l[j])) ∧ l.length ≤ maxLen
theorem TxV.later {w w' : World} {v : Value} {l : List ByteArray} (h : TxV w v l) (hb : Below w.heap.size w w') : TxV w' v l := by
 obtain ⟨a, cap, b, o, h1, h2, h3, h4⟩ := h
 exact ⟨a, cap, b, o, h1, h2, fun j hj => (hb.cell (World.block_lt_of_cell? w _ (h3 j hj))).trans (h3 j hj), h4⟩
abbrev trC (k n : Int) (t : ByteArray) (kv xv : Value) : Array Value := #[.int .i64 k, .int .i64 n, .string t, kv, xv]
mutual
def TrV (w : World) : Tr → Value → Prop
 | .nd k n t ks xs, v => ∃ kv xv, v = .agg (trC k n t kv xv) ∧ t.size ≤ maxLen ∧ InR k ∧ InR n ∧ TxV w kv ks ∧ ∃ (a : Option Addr) (cap b o : Nat), xv = .slice a xs.length cap ∧ (0 < xs.length → a = some ⟨b, o, none⟩) ∧ xs.length ≤ maxLen ∧ TrL w xs b o
def TrL (w : World) : List Tr → Nat → Nat → Prop
 | [], _, _ => True
 | x :: r, b, o => (∃ cs : Array Value, cs.size = 5 ∧ w.rangeAt b o cs.toList ∧ TrV w x (.agg cs)) ∧ TrL w r b (o + 5)
end
theorem trL_at {w : World} : ∀ {xs : List Tr} {b o j : Nat} (_ : TrL w xs b o) (hj : j < xs.length), ∃ cs : Array Value, cs.size = 5 ∧ w.rangeAt b (o + j * 5) cs.toList ∧ TrV w xs[j] (.agg cs)
 | [], _, _, _, _, hj => by simp at hj
 | x :: r, b, o, 0, h, _ => by rw [TrL] at h; simpa using h.1
 | x :: r, b, o, j + 1, h, hj => by
  rw [TrL] at h
  have := trL_at (j := j) h.2 (by simpa using hj)
  rw [show o + (j + 1) * 5 = o + 5 + j * 5 by omega]
  simpa using this
theorem trL_of {w : World} : ∀ {xs : List Tr} {b o : Nat}, (∀ j (hj : j < xs.length), ∃ cs : Array Value, cs.size = 5 ∧ w.rangeAt b (o + j * 5) cs.toList ∧ TrV w xs[j] (.agg cs)) → TrL w xs b o
 | [], _, _, _ => by rw [TrL]; trivial
 | x :: r, b, o, h => by
  rw [TrL]
  refine ⟨?_, trL_of fun j hj => ?_⟩
  ·obtain ⟨cs, h1, h2, h3⟩ := h 0 (by simp)
   exact ⟨cs, h1, by simpa using h2, h3⟩
  have := h (j + 1) (by simpa using hj)
  rw [show o + (j + 1) * 5 = o + 5 + j * 5 by omega] at this
  simpa using this
theorem trV_later {w w' : World} (hb : Below w.heap.size w w') (a : Tr) : ∀ v, TrV w a v → TrV w' a v := by
 induction a using tr_ind with
 | h k n t ks xs ih =>
  intro v hv
  rw [TrV] at hv ⊢
  obtain ⟨kv, xv, h1, h2, h3, h4, h5, a, cap, b, o, h6, h7, h8, h9⟩ := hv
  refine ⟨kv, xv, h1, h2, h3, h4, h5.later hb, a, cap, b, o, h6, h7, h8, trL_of fun j hj => ?_⟩
  obtain ⟨cs, c1, c2, c3⟩ := trL_at h9 hj
  exact ⟨cs, c1, fun i v hv => (hb.cell (World.block_lt_of_cell? w _ (c2 i v hv))).trans (c2 i v hv), ih _ (List.getElem_mem hj) _ c3⟩
theorem TrV.later {w w' : World} {a : Tr} {v : Value} (h : TrV w a v) (hb : Below w.heap.size w w') : TrV w' a v := trV_later hb a v h
theorem TrV.open' {w : World} {k n : Int} {t : ByteArray} {ks : List ByteArray} {xs : List Tr} {v : Value} (h : TrV w (.nd k n t ks xs) v) :
  ∃ kv xv, v = .agg (trC k n t kv xv) ∧ t.size ≤ maxLen ∧ InR k ∧ InR n ∧ TxV w kv ks ∧ ∃ (a : Option Addr) (cap b o : Nat), xv = .slice a xs.length cap ∧ (0 < xs.length → a = some ⟨b, o, none⟩) ∧ xs.length ≤ maxLen ∧ ∀ j (hj : j < xs.length), ∃ cs : Array Value, cs.size = 5 ∧ w.rangeAt b (o + j * 5) cs.toList ∧ TrV w xs[j] (.agg cs) := by
 rw [TrV] at h
 obtain ⟨kv, xv, h1, h2, h3, h4, h5, a, cap, b, o, h6, h7, h8, h9⟩ := h
 exact ⟨kv, xv, h1, h2, h3, h4, h5, a, cap, b, o, h6, h7, h8, fun j hj => trL_at h9 hj⟩
theorem tr_size : (Tryz.prog.info? 28).map (·.size) = some 5 := by kernel_rfl
theorem ld_tr {ops : Array Oper} {rest : List Oper} {o : Oper} {a : Act} {w : World} {Q : Exit → Act → World → Prop} (hwd : Region.wanted o (yielded ops a.tmps) = true) (y : Operand) (ho : o.op = .load 28 y)
  (b k : Nat) (hx : a.eval y = .pointer (some ⟨b, k, none⟩)) (cs : Array Value) (hR : w.rangeAt b k cs.toList) (hs : cs.size = 5)
  (h : wpList Tryz.prog ops Q rest (a.put o.dst (.agg cs)) w) : wpList Tryz.prog ops Q (o :: rest) a w :=
 wpList_step fun _ hK => by
  rw [if_pos hwd]
  exact wp_load_mid 28 y ho b k hx _ _ hR Tryz.underlying28 rfl (by rw [tr_size, Array.length_toList, hs]) (hK _ _ h)
theorem nodL_take {l : List Tr} {j : Nat} (h : j < l.length) : nodL (l.take (j + 1)) = nodL (l.take j) + nodT l[j] := by
 rw [List.take_succ_eq_append_getElem h, nodL_app]
 simp [nodL]
theorem depL_take {l : List Tr} {j : Nat} (h : j < l.length) : depL (l.take (j + 1)) = max (depL (l.take j)) (depT l[j]) := by
 rw [List.take_succ_eq_append_getElem h, depL_app]
 simp [depL]
theorem nodL_take_le (l : List Tr) (j : Nat) : nodL (l.take j) ≤ nodL l := nodL_sub (List.take_sublist ..)
theorem TrV.cells {w : World} {y : Tr} {cs : Array Value} (h : TrV w y (.agg cs)) : ∃ k n t a l c a' l' c', cs = trC k n t (.slice a l c) (.slice a' l' c') := by
 cases y with
 | nd k n t ks xs =>
  obtain ⟨kv, xv, e, _, _, _, ⟨a, c, _, _, rfl, _⟩, a', c', _, _, rfl, _⟩ := h.open'
  exact ⟨k, n, t, a, _, c, a', _, c', Value.agg.inj e⟩
theorem depL_le (l : List Tr) : depL l ≤ nodL l := by
 induction l with
 | nil => simp [depL]
 | cons x l ih => rw [depL, nodL]; have := dep_le_nod x; omega
set_option maxHeartbeats 2000000 in
theorem rf_Nodes11 (a : Tr) : ∀ (v : Value) (w : World), TrV w a v → nodT a ≤ 1000000 → Calls Tryz.prog 25 #[v] w fun e w' => e = .returned (.int .i64 (nodT a : Int)) ∧ Below w.heap.size w w' := by
 induction a using tr_ind with
 | h k n t ks xs ih =>
  intro v w hv hn
  obtain ⟨kv, xv, rfl, _, _, _, _, ad, cap, bb, oo, rfl, h1, hmax, h2⟩ := hv.open'
  have HIH := Lib.hid ih
  have HLO := Lib.hid h1
  have HLC := Lib.hid h2
  rw [nodT] at hn
  have HN := Lib.hid hn
  rw [nodT]
  have hm63 : (xs.length : Int) ≤ 9223372036854775807 := by unfold maxLen at hmax; omega
  have HB0 := Lib.hid (Below.newly' w (.cells (trC k n t kv (.slice ad xs.length cap)) 28))
  clear ih h1 h2 hn hmax hv
  go_enter Tryz.func25, Tryz.ntmps25
  go_wp2_with fail
  go_loopw [3, 9] (fun m i wl => ∃ j : Nat, j ≤ xs.length ∧ i = .int .i64 (j : Int) ∧ m = .int .i64 ((nodL (xs.take j) + 1) : Int) ∧ Below w.heap.size w wl) (fun _ i _ => xs.length - (intOf i).toNat)
  case atStart => exact ⟨0, Nat.zero_le _, rfl, by simp [nodL, depL], HB0.out⟩
  case round =>
   obtain ⟨j, hj, rfl, rfl, hb⟩ := hrel
   have HB := Lib.hid hb
   clear hb
   by_cases hlt : j < xs.length
   ·have hlt' : (j : Int) < (xs.length : Int) := by omega
    have i0 : (0 : Int) ≤ (j : Int) := by omega
    have had : ad = some ⟨bb, oo, none⟩ := HLO.out (by omega)
    subst had
    obtain ⟨cs, c1, c2, c3⟩ := HLC.out j hlt
    have HMEM := Lib.hid (List.getElem_mem hlt)
    have HTK := Lib.hid (nodL_take hlt)
    have HLE := Lib.hid (nodL_mem (List.getElem_mem hlt))
    have HLE2 := Lib.hid (nodL_take_le xs (j + 1))
    have HTN := Lib.hid (nodL_take hlt)
    obtain ⟨y, hy⟩ : ∃ y, y = xs[j] := ⟨_, rfl⟩
    rw [← hy] at c3 HMEM HTK HLE HTN
    obtain ⟨k', n', t', pa, pl, pc, qa, ql, qc, rfl⟩ := c3.cells
    have HR := Lib.hid (show wr.rangeAt bb (oo + j * 5) (trC k' n' t' (.slice pa pl pc) (.slice qa ql qc)).toList from fun i v hv => (HB.out.cell (World.block_lt_of_cell? w _ (c2 i v hv))).trans (c2 i v hv))
    have HT := Lib.hid (c3.later HB.out)
    have HNW := Lib.hid (show Below w.heap.size w (wr.alloc (.cells (trC k' n' t' (.slice pa pl pc) (.slice qa ql qc)) 28)) from Below.alloc HB.out HB.out.size _)
    have HCL := Lib.hid (HIH.out y HMEM.out _ _ (HT.out.later (Below.newly' wr (.cells (trC k' n' t' (.slice pa pl pc) (.slice qa ql qc)) 28))) (by have := HLE.out; have := HN.out; omega))
    clear c1 c2 c3 hy
    go_wp2_with (first
     | (refine ld_tr (by rfl) _ rfl bb (oo + j * 5) rfl (trC k' n' t' (.slice pa pl pc) (.slice qa ql qc)) HR.out rfl ?_)
     | (go_at_call 25; (with_reducible refine HCL.out.mono ?_); rintro e w5 ⟨rfl, hb⟩; have HB5 := Lib.hid (tW HNW.out hb); clear hb))
    go_roundw
    case rel =>
     refine ⟨j + 1, by omega, by go_num, ?_, HB5.out⟩
     have h1 := HTK.out
     have h2 := HLE2.out
     have h3 := HN.out
     congr 1
     unfold wrap64
     omega
    case measure => simp [intOf]; omega
   ·obtain rfl : j = xs.length := by omega
    go_wp2_with fail
    go_ret
    exact ⟨by simp, HB.out⟩
set_option maxHeartbeats 2000000 in
theorem rf_Depth11 (a : Tr) : ∀ (v : Value) (w : World), TrV w a v → nodT a ≤ 1000000 → Calls Tryz.prog 44 #[v] w fun e w' => e = .returned (.int .i64 (depT a : Int)) ∧ Below w.heap.size w w' := by
 induction a using tr_ind with
 | h k n t ks xs ih =>
  intro v w hv hn
  obtain ⟨kv, xv, rfl, _, _, _, _, ad, cap, bb, oo, rfl, h1, hmax, h2⟩ := hv.open'
  have HIH := Lib.hid ih
  have HLO := Lib.hid h1
  have HLC := Lib.hid h2
  rw [nodT] at hn
  have HN := Lib.hid hn
  rw [depT]
  have hm63 : (xs.length : Int) ≤ 9223372036854775807 := by unfold maxLen at hmax; omega
  have HB0 := Lib.hid (Below.newly' w (.cells (trC k n t kv (.slice ad xs.length cap)) 28))
  clear ih h1 h2 hn hmax hv
  go_enter Tryz.func44, Tryz.ntmps44
  go_wp2_with fail
  go_loopw [3, 9] (fun m i wl => ∃ j : Nat, j ≤ xs.length ∧ i = .int .i64 (j : Int) ∧ m = .int .i64 ((depL (xs.take j)) : Int) ∧ Below w.heap.size w wl) (fun _ i _ => xs.length - (intOf i).toNat)
  case atStart => exact ⟨0, Nat.zero_le _, rfl, by simp [nodL, depL], HB0.out⟩
  case round =>
   obtain ⟨j, hj, rfl, rfl, hb⟩ := hrel
   have HB := Lib.hid hb
   clear hb
   by_cases hlt : j < xs.length
   ·have hlt' : (j : Int) < (xs.length : Int) := by omega
    have i0 : (0 : Int) ≤ (j : Int) := by omega
    have had : ad = some ⟨bb, oo, none⟩ := HLO.out (by omega)
    subst had
    obtain ⟨cs, c1, c2, c3⟩ := HLC.out j hlt
    have HMEM := Lib.hid (List.getElem_mem hlt)
    have HTK := Lib.hid (depL_take hlt)
    have HLE := Lib.hid (nodL_mem (List.getElem_mem hlt))
    have HLE2 := Lib.hid (nodL_take_le xs (j + 1))
    have HTN := Lib.hid (nodL_take hlt)
    obtain ⟨y, hy⟩ : ∃ y, y = xs[j] := ⟨_, rfl⟩
    rw [← hy] at c3 HMEM HTK HLE HTN
    obtain ⟨k', n', t', pa, pl, pc, qa, ql, qc, rfl⟩ := c3.cells
    have HR := Lib.hid (show wr.rangeAt bb (oo + j * 5) (trC k' n' t' (.slice pa pl pc) (.slice qa ql qc)).toList from fun i v hv => (HB.out.cell (World.block_lt_of_cell? w _ (c2 i v hv))).trans (c2 i v hv))
    have HT := Lib.hid (c3.later HB.out)
    have HNW := Lib.hid (show Below w.heap.size w (wr.alloc (.cells (trC k' n' t' (.slice pa pl pc) (.slice qa ql qc)) 28)) from Below.alloc HB.out HB.out.size _)
    have HCL := Lib.hid (HIH.out y HMEM.out _ _ (HT.out.later (Below.newly' wr (.cells (trC k' n' t' (.slice pa pl pc) (.slice qa ql qc)) 28))) (by have := HLE.out; have := HN.out; omega))
    clear c1 c2 c3 hy
    go_wp2_with (first
     | (refine ld_tr (by rfl) _ rfl bb (oo + j * 5) rfl (trC k' n' t' (.slice pa pl pc) (.slice qa ql qc)) HR.out rfl ?_)
     | (go_at_call 44; (with_reducible refine HCL.out.mono ?_); rintro e w5 ⟨rfl, hb⟩; have HB5 := Lib.hid (tW HNW.out hb); clear hb))
    go_roundw
    case rel =>
     refine ⟨j + 1, by omega, by go_num, ?_, HB5.out⟩
     have h1 := HTK.out
     congr 1
     rw [h1]
     omega
    case measure => simp [intOf]; omega
   ·obtain rfl : j = xs.length := by omega
    go_wp2_with fail
    go_ret
    refine ⟨?_, HB.out⟩
    have h1 := HN.out
    have h2 := depL_le xs
    simp
    unfold wrap64
    omega
theorem box_new {W : World} {c : Array Value} {T : TypeId} {w1 : World} (e : W.alloc (.cells c T) = w1) : Below W.heap.size W w1 ∧ w1.heap[W.heap.size]? = some (.cells c T (0, 0)) ∧ w1.heap.size = W.heap.size + 1 := by
 subst e
 exact ⟨Below.newly' _ _, heap_alloc_last _ _, by simp⟩
theorem RootR.four {S : Nat → Prop} {W : World} {c : Array Value} {l : List Cel} (h : RootR S W c l) : ∃ (x y : Int) (q1 : Option Addr) (n1 c1 : Nat) (q2 : Option Addr) (n2 c2 : Nat), c = #[.int .i64 x, .int .i64 y, .slice q1 n1 c1, .slice q2 n2 c2] := by
 obtain ⟨d, q1, n1, c1, q2, n2, c2, rfl, _⟩ := h.cells
 exact ⟨_, _, _, _, _, _, _, _, rfl⟩
set_option maxHeartbeats 1000000 in
theorem rp_has {S : Nat → Prop} {c : Array Value} {l : List Cel} (w : World) (h : RootR S w c l) (i : Int) : Calls Tryz.prog 97 #[.agg c, .int .i64 i] w fun e w' => e = .returned (.bool (decide (0 ≤ i ∧ i < l.length))) ∧ Below w.heap.size w w' := by
 obtain ⟨w1, hw1⟩ : ∃ w1, w.alloc (.cells c 112) = w1 := ⟨_, rfl⟩
 obtain ⟨hb1, hx1, hs1⟩ := box_new hw1
 have HX1 := Lib.hid hx1
 have HB1 := Lib.hid hb1
 have HS := Lib.hid h.size
 have HLEN := Lib.hid (rp_Len w1 (h.later hb1))
 obtain ⟨n, hn⟩ : ∃ n, n = l.length := ⟨_, rfl⟩
 rw [← hn] at HLEN ⊢
 clear h hb1 hx1 hs1 hn
 by_cases h0 : 0 ≤ i
 ·by_cases h1 : i < n
  ·rw [show decide (0 ≤ i ∧ i < n) = true by simp [h0, h1]]
   go_enter Tryz.func97, Tryz.ntmps97
   go_upto_region 1 with fail
   clear hw1
   go_wp2_with (first
    | (refine ld_if rfl 112 _ rfl w.heap.size rfl 112 _ _ _ HX1.out Tryz.underlying112 rfl (by rw [HS.out]; exact rope_size) ?_)
    | (go_at_call 65; refine HLEN.out.mono ?_; rintro e w2 ⟨rfl, rfl⟩))
   go_ret
   exact ⟨rfl, HB1.out.trans ((Below.newly' _ _).mono HB1.out.size)⟩
  ·rw [show decide (0 ≤ i ∧ i < n) = false by simp [h1]]
   go_enter Tryz.func97, Tryz.ntmps97
   go_upto_region 1 with fail
   clear hw1
   go_wp2_with (first
    | (refine ld_if rfl 112 _ rfl w.heap.size rfl 112 _ _ _ HX1.out Tryz.underlying112 rfl (by rw [HS.out]; exact rope_size) ?_)
    | (go_at_call 65; refine HLEN.out.mono ?_; rintro e w2 ⟨rfl, rfl⟩))
   go_ret
   exact ⟨by show Ending.returned (Value.bool (decide (i < (n : Int)))) = _; simp [h1], HB1.out.trans ((Below.newly' _ _).mono HB1.out.size)⟩
 ·rw [show decide (0 ≤ i ∧ i < n) = false by simp [h0]]
  go_enter Tryz.func97, Tryz.ntmps97
  go_wp2_with fail
  go_ret
  exact ⟨rfl, HB1.out⟩
set_option maxHeartbeats 2000000 in
theorem rp_Of (W : World) {S : Nat → Prop} (v : Value) (l : List Cel) (hv : CutAt S W 4 v (ivV l) l.length) (hN : l.length ≤ 100000) :
    Calls Tryz.prog 106 #[v] W fun e W' => ∃ c, e = .returned (.agg c) ∧ RootR (fun g => W.heap.size ≤ g) W' c l ∧ Below W.heap.size W W' := by
  obtain ⟨w1, hw1⟩ : ∃ w1, W.alloc (.cells #[.int .i64 0, .int .i64 0, .slice none 0 0, .slice none 0 0] 112) = w1 := ⟨_, rfl⟩
  obtain ⟨hb1, hx1, hs1⟩ := box_new hw1
  have HX1 := Lib.hid hx1
  have HB1 := Lib.hid hb1
  have HS1 := Lib.hid hs1
  have HL := Lib.hid (leaves_new (S := S) w1 [(v, l)] (fun p hp => by simp only [List.mem_singleton] at hp; subst hp; exact hv.later hb1) l (by simp [catE]) hN (by simp))
  obtain ⟨a, cap, rfl, _⟩ := hv.shape
  have HN := Lib.hid hN
  clear hb1 hx1 hs1 hv hN
  go_enter Tryz.func106, Tryz.ntmps106
  go_upto_region 1 with fail
  clear hw1
  go_wp2_with (first
    | (go_at_call 126
       refine HL.out.mono ?_
       rintro e w4 ⟨v4, rfl, ks, hn4, hc4, hf4, hb4⟩
       have HT := Lib.hid (rp_top w4 0 v4 ks hn4 (fun p hp => ⟨fun h => (hf4.2 p hp).1 h, fun _ => .inl rfl⟩) (by rw [hc4]; exact HN.out))
       rw [hc4] at HT
       have HB4 := Lib.hid hb4
       have HX4 := Lib.hid ((hb4.block W.heap.size (by have := HS1.out; omega)).trans HX1.out)
       clear hn4 hc4 hf4 hb4)
    | (go_at_call 98
       refine HT.out.mono ?_
       rintro e w5 ⟨c5, rfl, hr5, hb5⟩
       obtain ⟨x, y, q1, n1, c1, q2, n2, c2, rfl⟩ := hr5.four
       have HR5 := Lib.hid hr5
       have HB5 := Lib.hid hb5
       have HX5 := Lib.hid ((hb5.block W.heap.size (by have := HS1.out; have := HB4.out.size; omega)).trans HX4.out)
       clear hr5 hb5)
    | (refine st_agg rfl 112 _ _ rfl W.heap.size _ rfl rfl 112 _ HX5.out rope_size rfl (one4 rfl rfl rfl rfl) ?_; intro w6 h6 k6))
  refine bodyPost_ret (results_cell_row rfl _ _ W.heap.size 112 _ (0, 0) _ rfl h6 Tryz.underlying112 rfl rope_size) rfl ⟨_, rfl, ?_, ?_⟩
  · have hs1 := HS1.out
    have hs4 := HB4.out.size
    refine (HR5.out.kept k6.by_ (fun X e => by cases e; rintro (h | h) <;> omega)).weak fun g hg => ?_
    rcases hg with hg | hg <;> omega
  · have hs1 := HS1.out
    have hs4 := HB4.out.size
    exact ((HB1.out.trans (HB4.out.mono (by omega))).trans (HB5.out.mono (by omega))).trans (k6.below (by omega))
theorem cat_split {ks : List Kid} {k : Nat} (hk : k < ks.length) : catK ks = catK (ks.take k) ++ ks[k].l ++ catK (ks.drop (k + 1)) := by
 rw [← catK_one ks[k], ← catK_app, ← catK_app, ← List.take_succ_eq_append_getElem hk, List.take_append_drop]
def WayAt (i : Nat) (ks : List Kid) (k r : Nat) : Prop := ∃ hk : k < ks.length, i = (catK (ks.take k)).length + r ∧ r ≤ ks[k].l.length ∧ (i < (catK ks).length → r < ks[k].l.length)
set_option maxHeartbeats 2000000 in
theorem rp_way (w : World) {S : Nat → Prop} (h n i : Nat) (p : Kid) (ks : List Kid) (hh : HeadAt S w 110 4 p.a (en (kidc h) ks) n) (hkl : ks.length = n) (hn1 : 1 ≤ n) (hn16 : n ≤ 16) (hi : i ≤ (catK ks).length) (hN : (catK ks).length ≤ 200000) :
  Calls Tryz.prog 115 #[.agg (kidc (h + 1) p).toArray, .int .i64 (i : Int)] w fun e w' => ∃ k r : Nat, e = .returned (.tuple #[.int .i64 (k : Int), .int .i64 (r : Int)]) ∧
   WayAt i ks k r ∧ Below w.heap.size w w' := by
 obtain ⟨w1, hw1⟩ : ∃ w1, w.alloc (.cells (kidc (h + 1) p).toArray 110) = w1 := ⟨_, rfl⟩
 obtain ⟨hb1, hx1, hs1⟩ := nodes_new hw1
 obtain ⟨g, c, cur, fr, hpa, hcap, hS, hg, hcs⟩ := hh.pos hn1
 have ca2 : w1.cell? ⟨w.heap.size, 2, none⟩ = some (.slice (some ⟨g, 0, none⟩) n c) := by rw [← hpa]; exact cell_in hx1 rfl
 have hg1 := (hb1.block g (Array.getElem?_eq_some_iff.1 hg).1).trans hg
 have HC : Hid (∀ k (hk : k < ks.length), w1.cell? ⟨g, k * 4, none⟩ = some (.int .i64 (ks[k].l.length : Int))) := fun k hk => by
  have := en_range (h := h) hg1 hcs hk 0 _ rfl
  rwa [Nat.add_zero] at this
 have HB1 := Lib.hid hb1
 have HKL := Lib.hid (And.intro hkl (And.intro hn1 hi))
 have HN := Lib.hid hN
 have hn16' : (n : Int) ≤ 16 := by omega
 have hi5 : (i : Int) ≤ 200000 := by omega
 clear hh hkl hn1 hn16 hi hN hb1 hx1 hs1 hpa hcap hS hg hcs hg1
 go_enter Tryz.func115, Tryz.ntmps115
 go_upto_region 1 with fail
 clear hw1
 go_wp2_with fail
 go_loopw [1, 6] (fun iv kv wr => ∃ k r : Nat, kv = .int .i64 (k : Int) ∧ iv = .int .i64 (r : Int) ∧ k < n ∧ Hid (i = (catK (ks.take k)).length + r) ∧ w1 = wr) (fun _ kv _ => n - (intOf kv).toNat)
 case atStart => exact ⟨0, i, rfl, rfl, by have := HKL.out; omega, (by show _ = _; simp [catK]), rfl⟩
 case round =>
  obtain ⟨k, r, rfl, rfl, hk, HI, rfl⟩ := hrel
  have hkl := HKL.out
  have hkk : k < ks.length := by omega
  have hc := HC.out k hkk
  have hsum := cat_take_succ hkk
  have hsp := congrArg List.length (cat_split hkk)
  rw [List.length_append, List.length_append] at hsp
  obtain ⟨z, hz⟩ : ∃ z, z = ks[k].l.length := ⟨_, rfl⟩
  rw [← hz] at hc hsum hsp
  have hr5 : (r : Int) ≤ 200000 := by have := HI.out; omega
  have HZ := Lib.hid hz
  have HSP := Lib.hid hsp
  have HSUM := Lib.hid hsum
  have hki : (k : Int) < (n : Int) := by omega
  clear hz hsp hsum hkl
  by_cases h1 : k + 1 < n
  ·have h1' : (k : Int) < (n : Int) - 1 := by omega
   by_cases h2 : z ≤ r
   ·have h2' : (r : Int) ≥ (z : Int) := by omega
    have h2d : (z : Int) ≤ (r : Int) := by omega
    obtain ⟨d, hd⟩ : ∃ d : Nat, (r : Int) - (z : Int) = d := ⟨r - z, by omega⟩
    have HD : Hid (r = z + d) := (by show _ = _; omega)
    clear h2
    go_wp2_with fail
    go_roundw
    case rel => exact ⟨k + 1, d, by simp, by first | rfl | rw [hd], by omega, (by show _ = _; have := HI.out; have := HSUM.out; have := HD.out; omega), trivial⟩
    case measure => simp [intOf]; omega
   ·have h2' : ¬ (r : Int) ≥ (z : Int) := by omega
    have h2d : ¬ (z : Int) ≤ (r : Int) := by omega
    have H2 := Lib.hid h2
    clear h2
    go_wp2_with fail
    go_ret2
    exact ⟨k, r, rfl, ⟨hkk, HI.out, by have := H2.out; have := HZ.out; omega, fun _ => by have := H2.out; have := HZ.out; omega⟩, HB1.out⟩
  ·have h1' : ¬ (k : Int) < (n : Int) - 1 := by omega
   go_wp2_with fail
   go_ret2
   have hkl := HKL.out
   have hd : catK (ks.drop (k + 1)) = [] := by rw [List.drop_of_length_le (by omega)]; rfl
   have hsp := HSP.out
   rw [hd, List.length_nil] at hsp
   have hz := HZ.out
   have hI := HI.out
   exact ⟨k, r, rfl, ⟨hkk, hI, by omega, fun h => by omega⟩, HB1.out⟩
set_option maxHeartbeats 4000000 in
theorem sc_Check (k n : Int) (t : ByteArray) (w : World) :
  Calls Tryz.prog 104 #[scV k n t] w fun e w' => e = .returned (.int .i64 (chkSc (scT k n t))) ∧ Below w.heap.size w w' := by
 have HN := Lib.hid (Below.newly' w (.cells #[.int .i64 k, .int .i64 n, .string t] 32))
 have te := toL_isEmpty t
 by_cases hk : k = 0 ∨ k = 1 ∨ k = 2 ∨ k = 3
 case neg =>
  have q0 : (k == 0) = false := beq_eq_false_iff_ne.2 (by omega)
  have q1 : (k == 1) = false := beq_eq_false_iff_ne.2 (by omega)
  have q2 : (k == 2) = false := beq_eq_false_iff_ne.2 (by omega)
  have q3 : (k == 3) = false := beq_eq_false_iff_ne.2 (by omega)
  have HC : Hid (chkSc (scT k n t) = 3) := by show _ = _; unfold chkSc; rw [if_pos (by simp only; omega)]
  clear hk te
  go_enter Tryz.func104, Tryz.ntmps104
  go_wp2
  go_ret
  exact ⟨ret_nat (by rw [HC.out]), HN.out⟩
 by_cases ht0 : t.data.toList = []
 ·rw [decide_eq_true ht0] at te
  have HT := Lib.hid ht0
  clear ht0
  rcases hk with rfl | rfl | rfl | rfl
  ·by_cases n0 : n = 0
   ·subst n0
    go_enter Tryz.func104, Tryz.ntmps104
    go_wp2
    go_ret
    exact ⟨ret_nat (by simp only [chkSc]; simp [HT.out]), HN.out⟩
   ·have hn' : (n != 0) = true := bne_iff_ne.2 n0
    go_enter Tryz.func104, Tryz.ntmps104
    go_wp2
    go_ret
    exact ⟨ret_nat (by simp only [chkSc]; simp [HT.out, n0]), HN.out⟩
  ·by_cases n0 : n = 0
   ·subst n0
    go_enter Tryz.func104, Tryz.ntmps104
    go_wp2
    go_ret
    exact ⟨ret_nat (by simp only [chkSc]; simp [HT.out]), HN.out⟩
   ·have hn' : (n != 0) = true := bne_iff_ne.2 n0
    by_cases n1 : n = 1
    ·subst n1
     go_enter Tryz.func104, Tryz.ntmps104
     go_wp2
     go_ret
     exact ⟨ret_nat (by simp only [chkSc]; simp [HT.out]), HN.out⟩
    ·have hm' : (n != 1) = true := bne_iff_ne.2 n1
     go_enter Tryz.func104, Tryz.ntmps104
     go_wp2
     go_ret
     exact ⟨ret_nat (by simp only [chkSc]; simp [HT.out, n0, n1]), HN.out⟩
  ·by_cases n0 : n = 0
   ·subst n0
    go_enter Tryz.func104, Tryz.ntmps104
    go_wp2
    go_ret
    exact ⟨ret_nat (by simp only [chkSc]; simp [HT.out]), HN.out⟩
   ·have hn' : (n != 0) = true := bne_iff_ne.2 n0
    go_enter Tryz.func104, Tryz.ntmps104
    go_wp2
    go_ret
    exact ⟨ret_nat (by simp only [chkSc]; simp [HT.out, n0]), HN.out⟩
  ·by_cases n0 : n = 0
   ·subst n0
    go_enter Tryz.func104, Tryz.ntmps104
    go_wp2
    go_ret
    exact ⟨ret_nat (by simp only [chkSc]; simp [HT.out]), HN.out⟩
   ·have hn' : (n != 0) = true := bne_iff_ne.2 n0
    go_enter Tryz.func104, Tryz.ntmps104
    go_wp2
    go_ret
    exact ⟨ret_nat (by simp only [chkSc]; simp [HT.out, n0]), HN.out⟩
 ·rw [decide_eq_false ht0] at te
  have HT := Lib.hid ht0
  clear ht0
  rcases hk with rfl | rfl | rfl | rfl
  ·by_cases n0 : n = 0
   ·subst n0
    go_enter Tryz.func104, Tryz.ntmps104
    go_wp2
    go_ret
    exact ⟨ret_nat (by simp only [chkSc]; simp [HT.out]), HN.out⟩
   ·have hn' : (n != 0) = true := bne_iff_ne.2 n0
    go_enter Tryz.func104, Tryz.ntmps104
    go_wp2
    go_ret
    exact ⟨ret_nat (by simp only [chkSc]; simp [HT.out, n0]), HN.out⟩
  ·by_cases n0 : n = 0
   ·subst n0
    go_enter Tryz.func104, Tryz.ntmps104
    go_wp2
    go_ret
    exact ⟨ret_nat (by simp only [chkSc]; simp [HT.out]), HN.out⟩
   ·have hn' : (n != 0) = true := bne_iff_ne.2 n0
    by_cases n1 : n = 1
    ·subst n1
     go_enter Tryz.func104, Tryz.ntmps104
     go_wp2
     go_ret
     exact ⟨ret_nat (by simp only [chkSc]; simp [HT.out]), HN.out⟩
    ·have hm' : (n != 1) = true := bne_iff_ne.2 n1
     go_enter Tryz.func104, Tryz.ntmps104
     go_wp2
     go_ret
     exact ⟨ret_nat (by simp only [chkSc]; simp [HT.out, n0, n1]), HN.out⟩
  ·by_cases n0 : n = 0
   ·subst n0
    go_enter Tryz.func104, Tryz.ntmps104
    go_wp2
    go_ret
    exact ⟨ret_nat (by simp only [chkSc]; simp [HT.out]), HN.out⟩
   ·have hn' : (n != 0) = true := bne_iff_ne.2 n0
    go_enter Tryz.func104, Tryz.ntmps104
    go_wp2
    go_ret
    exact ⟨ret_nat (by simp only [chkSc]; simp [HT.out, n0]), HN.out⟩
  ·by_cases n0 : n = 0
   ·subst n0
    go_enter Tryz.func104, Tryz.ntmps104
    go_wp2
    go_ret
    exact ⟨ret_nat (by simp only [chkSc]; simp [HT.out]), HN.out⟩
   ·have hn' : (n != 0) = true := bne_iff_ne.2 n0
    go_enter Tryz.func104, Tryz.ntmps104
    go_wp2
    go_ret
    exact ⟨ret_nat (by simp only [chkSc]; simp [HT.out, n0]), HN.out⟩
theorem nodes_some' (p : Addr) (n c : Nat) (w : World) : (binOp .neq 108 (.slice (some p) n c) (.slice none 0 0)).run Tryz.prog w = .ok (.bool true) w := by
 have hu := run_underlying (w := w) Tryz.underlying108
 have hm : Op.maxDepth = (Op.maxDepth - 1) + 1 := by decide
 unfold binOp
 simp only []
 unfold Op.equal
 rw [hm]
 unfold Op.equalIn
 simp [Sem.run_bind, hu, Result.andThen]
theorem nodes_none' (w : World) : (binOp .neq 108 (.slice none 0 0) (.slice none 0 0)).run Tryz.prog w = .ok (.bool false) w := by
 have hu := run_underlying (w := w) Tryz.underlying108
 have hm : Op.maxDepth = (Op.maxDepth - 1) + 1 := by decide
 unfold binOp
 simp only []
 unfold Op.equal
 rw [hm]
 unfold Op.equalIn
 simp [Sem.run_bind, hu, Result.andThen]
theorem trV_rng {w : World} (a : Tr) : ∀ v, TrV w a v → RngT a := by
 induction a using tr_ind with
 | h k n t ks xs ih =>
  intro v hv
  obtain ⟨kv, xv, _, _, _, hn, _, _, _, _, _, _, _, _, h⟩ := hv.open'
  refine rngT_iff.2 ⟨hn, fun x hx => ?_⟩
  obtain ⟨j, hj, rfl⟩ := List.mem_iff_getElem.1 hx
  obtain ⟨cs, _, _, h3⟩ := h j hj
  exact ih _ hx _ h3
def Nums3 (w : World) (rb : Nat) : Prop := ∃ (k1 k2 k3 : IntKind) (x1 x2 x3 : Int) (T : TypeId) (fr : Nat × Nat), w.heap[rb]? = some (.cells #[.int k1 x1, .int k2 x2, .int k3 x3] T fr)
theorem Nums3.no {w : World} {rb o : Nat} {t : ByteArray} (h : Nums3 w rb) : w.cell? ⟨rb, o, none⟩ ≠ some (.string t) := by
 obtain ⟨k1, k2, k3, x1, x2, x3, T, fr, h⟩ := h
 intro e
 match o, e with
 | 0, e => simp [World.cell?, h] at e
 | 1, e => simp [World.cell?, h] at e
 | 2, e => simp [World.cell?, h] at e
 | o + 3, e => simp [World.cell?, h] at e
theorem cell_kept {w w' : World} {row : Option Nat} {b o : Nat} {u : Value} (hg : w.grownBy w' row) (hb : some b ≠ row) (h : w.cell? ⟨b, o, none⟩ = some u) : w'.cell? ⟨b, o, none⟩ = some u :=
 (World.cell?_of_block (a := ⟨b, o, none⟩) (hg.block b (World.block_lt_of_cell? w _ h) hb)).trans h
theorem trV_but {w w' : World} {rb : Nat} (hg : w.grownBy w' (some rb)) (hr : Nums3 w rb) (a : Tr) : ∀ v, TrV w a v → TrV w' a v := by
 induction a using tr_ind with
 | h k n t ks xs ih =>
  intro v hv
  rw [TrV] at hv ⊢
  obtain ⟨kv, xv, h1, h2, h3, h4, ⟨ka, kc, kb', ko, k1, k2, k3, k4⟩, ad, cap, b, o, h6, h7, h8, h9⟩ := hv
  refine ⟨kv, xv, h1, h2, h3, h4, ⟨ka, kc, kb', ko, k1, k2, fun j hj => ?_, k4⟩, ad, cap, b, o, h6, h7, h8, trL_of fun j hj => ?_⟩
  ·have hc := k3 j hj
   exact cell_kept hg (fun e => by cases e; exact hr.no hc) hc
  ·obtain ⟨cs, c1, c2, c3⟩ := trL_at h9 hj
   refine ⟨cs, c1, fun i u hu => cell_kept hg (fun e => ?_) (c2 i u hu), ih _ (List.getElem_mem hj) _ c3⟩
   cases e
   obtain ⟨k', n', t', pa, pl, pc, qa, ql, qc, rfl⟩ := c3.cells
   exact hr.no (c2 2 (.string t') rfl)
theorem TrV.but {w w' : World} {rb : Nat} {a : Tr} {v : Value} (h : TrV w a v) (hg : w.grownBy w' (some rb)) (hr : Nums3 w rb) : TrV w' a v := trV_but hg hr a v h
theorem grown_trans {A B C : World} {row : Option Nat} (h : A.grownBy B row) (k : B.grownBy C row) : A.grownBy C row :=
 ⟨k.os.trans h.os, k.tape.trans h.tape, k.output.trans h.output, Nat.le_trans h.size k.size, fun i hi hne => (k.block i (Nat.lt_of_lt_of_le hi h.size) hne).trans (h.block i hi hne)⟩
theorem grown_of {A B : World} (h : Below A.heap.size A B) (row : Option Nat) : A.grownBy B row := ⟨h.os, h.tape, h.output, h.size, fun i hi _ => h.block i hi⟩
end Go.Proofs.YtpodmgihlomglaaGreatDoor
