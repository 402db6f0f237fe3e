import Derived.Test.YtpodmgihlomglaaGreatDoorP14
import Derived.Test.YtpodmgihlomglaaGreatDoorP15
namespace Go.Proofs.YtpodmgihlomglaaGreatDoor
open Go.RowKit
def bv (l : List UInt8) : List Value := l.map fun c => .int .u8 (c.toNat : Int)
theorem bv_len (l : List UInt8) : (bv l).length = l.length := by simp [bv]
theorem bv_app (l r : List UInt8) : bv (l ++ r) = bv l ++ bv r := by simp [bv]
theorem bv_one {l : List UInt8} : ∀ u ∈ bv l, u.oneCell' = true := by
 intro u hu
 unfold bv at hu
 rw [List.mem_map] at hu
 obtain ⟨c, _, rfl⟩ := hu
 rfl
def Buf (B : Nat) (v : Value) (l : List UInt8) (w : World) : Prop := w.ownsRowF B 5 1 v l.length (bv l) ∧ B ≤ w.heap.size
section
variable {B : Nat} {v : Value} {l : List UInt8} {w w1 : World}
theorem Buf.nil (h : B ≤ w.heap.size) : Buf B (.slice none 0 0) [] w := ⟨World.ownsRowF_nil _ _ _ _, h⟩
theorem Buf.lit (hB : B ≤ w.heap.size) (cs : Array Value) (l : List UInt8) (hc : cs.toList = bv l) (hl4 : l.length ≤ 4096) :
  Buf B (.slice (some ⟨w.heap.size, 0, none⟩) l.length l.length) l (w.alloc (.cells cs 5)) := by
 have hl : l.length ≤ maxLen := by unfold maxLen; omega
 have hs : cs.size = l.length * 1 := by rw [← Array.length_toList, hc, bv_len]; omega
 refine ⟨?_, by simp; omega⟩
 have := World.ownsRowF_of (World.ownsRow_lit (base := B) (e := 5) (size := 1) w cs l.length hB hl hs)
 rwa [hc] at this
theorem Below.after {w w1 w2 : World} (h1 : Below w.heap.size w w1) (h2 : Below w1.heap.size w1 w2) : Below w.heap.size w w2 := tW h1 h2
theorem Buf.drewN (h : Buf B v l w) (n : Nat) : Buf B v l (w.drewN n) := h
theorem Buf.alloc (h : Buf B v l w) (o : Obj) : Buf B v l (w.alloc o) := ⟨h.1.alloc o, by have := h.2; simp; omega⟩
theorem Buf.drew (h : Buf B v l w) : Buf B v l w.drew := h
theorem Buf.low {B' : Nat} (h : Buf B v l w) (hB : B' ≤ B) : Buf B' v l w := by
 obtain ⟨⟨h1, h2⟩, h3⟩ := h
 refine ⟨⟨h1, ?_⟩, by omega⟩
 rcases h2 with h2 | ⟨g, cap, cur, fz, a1, a2, a3⟩
 ·exact .inl h2
 ·exact .inr ⟨g, cap, cur, fz, a1, by omega, a3⟩
theorem Buf.later (h : Buf B v l w) (hb : Below w.heap.size w w1) : Buf B v l w1 := by
 obtain ⟨⟨h1, h2⟩, h3⟩ := h
 refine ⟨⟨h1, ?_⟩, Nat.le_trans h3 hb.size⟩
 rcases h2 with h2 | ⟨g, cap, cur, fz, a1, a2, a3, a4⟩
 ·exact .inl h2
 ·have hg : g < w.heap.size := by
   rcases Nat.lt_or_ge g w.heap.size with hlt | hge
   ·exact hlt
   ·rw [Array.getElem?_eq_none hge] at a3; cases a3
  exact .inr ⟨g, cap, cur, fz, a1, a2, (hb.block g hg).trans a3, a4⟩
theorem Buf.src (h : Buf B v l w) (hn : l ≠ []) : ∃ ad c, v = .slice (some ad) l.length c ∧ ∀ j u, (bv l)[j]? = some u → w.cell? (ad.add j) = some u := by
 obtain ⟨hr, _⟩ := h
 have hr' := hr
 obtain ⟨h1, h2⟩ := hr
 rcases h2 with ⟨_, h2⟩ | ⟨g, cap, cur, fz, a1, a2, a3, a4⟩
 ·exact absurd (List.eq_nil_of_length_eq_zero h2) hn
 ·subst a1
  exact ⟨⟨g, 0, none⟩, cap, rfl, hr'.cells rfl⟩
theorem Buf.str (h : Buf B v l w) : (convert 104 9 v).run Tryz.prog w = .ok (.string ⟨l.toArray⟩) w := by
 by_cases hn : l = []
 ·subst hn
  obtain ⟨⟨h1, h2⟩, _⟩ := h
  rcases h2 with ⟨rfl, _⟩ | ⟨g, cap, cur, fz, rfl, a2, a3, a4⟩
  ·rw [run_convert_bytes_string w 104 9 5 none 0 0 Tryz.underlying104 Tryz.underlying5 Tryz.underlying9]
   rfl
  ·exact run_convert_bytes_back (P := Tryz.prog) w 104 9 5 ⟨g, 0, none⟩ cap [] Tryz.underlying104 Tryz.underlying5 Tryz.underlying9 (fun j hj => by simp at hj)
 ·obtain ⟨ad, c, rfl, hc⟩ := h.src hn
  refine run_convert_bytes_back (P := Tryz.prog) w 104 9 5 ad c l Tryz.underlying104 Tryz.underlying5 Tryz.underlying9 (fun j hj => hc j _ ?_)
  simp [bv, hj]
theorem Buf.len (h : Buf B v l w) : ∃ a c, v = .slice a l.length c := by
 obtain ⟨⟨_, h2⟩, _⟩ := h
 rcases h2 with ⟨rfl, h2⟩ | ⟨g, cap, cur, fz, rfl, _⟩
 ·exact ⟨none, 0, by rw [h2]⟩
 ·exact ⟨_, _, rfl⟩
end
theorem u8_info : (Tryz.prog.info? 5).map (fun i => (i.zero, i.size, i.bytes)) = some (some (.int .u8 0), 1, 1) := by kernel_rfl
theorem buf_wp {o : Oper} {a : Act} {K : Act → World → Prop} {Q : Exit → Act → World → Prop} {w : World} (s x : Operand)
  (ho : o.op = .call { callee := .builtin .append, args := #[s, x], argTypes := #[104, 104] })
  {B : Nat} {v : Value} {l : List UInt8} (hs : a.eval s = v) (hb : Buf B v l w) (r : List UInt8) (ad : Addr) (c : Nat) (hx : a.eval x = .slice (some ad) r.length c)
  (hc : ∀ j u, (bv r)[j]? = some u → w.cell? (ad.add j) = some u) (hlen : l.length + r.length ≤ 140737488355328)
  (h : ∀ v' w', Buf B v' (l ++ r) w' → Below B w w' → K (a.put o.dst v') w') : o.wp Tryz.prog a w K Q := by
 obtain ⟨i, hi, hz, h1, h2⟩ := info_parts u8_info
 obtain ⟨v', w', hr, g1, g2, _⟩ := run_append_ownF (P := Tryz.prog) w B 104 o.type 5 i (.int .u8 0) 1 1 Tryz.underlying104 hi hz h1 h2 rfl (by decide) v l.length (bv l) hb.1 ad r.length c (bv r) (by rw [bv_len]; omega) hc bv_one
  (by unfold maxLen; omega) (by omega) hb.2
 unfold Oper.wp execOp
 simp only [ho, resolve, invoke, builtin, Sem.run_bind, Sem.run_pure, Result.andThen_ok, List.map_toArray, List.map_cons, List.map_nil, hs, hx, hr]
 refine h v' w' ⟨by rw [List.length_append, bv_app]; exact g1, Nat.le_trans hb.2 g2.size⟩ ?_
 exact (Below.refl _ _).grown g2 hb.2 (fun k hk => (hb.1.lt k hk).1)
theorem buf_append {ops : Array Oper} {rest : List Oper} {o : Oper} {a : Act} {Q : Exit → Act → World → Prop} {w : World} (hgd : o.guard = none) (s x : Operand)
  (ho : o.op = .call { callee := .builtin .append, args := #[s, x], argTypes := #[104, 104] })
  {B : Nat} {v : Value} {l : List UInt8} (hs : a.eval s = v) (hb : Buf B v l w) (r : List UInt8) (ad : Addr) (c : Nat) (hx : a.eval x = .slice (some ad) r.length c)
  (hc : ∀ j u, (bv r)[j]? = some u → w.cell? (ad.add j) = some u) (hlen : l.length + r.length ≤ 140737488355328)
  (h : ∀ v' w', Buf B v' (l ++ r) w' → Below B w w' → wpList Tryz.prog ops Q rest (a.put o.dst v') w') : wpList Tryz.prog ops Q (o :: rest) a w :=
 wpList_plain hgd fun _ hK => buf_wp s x ho hs hb r ad c hx hc hlen fun v' w' h1 h2 => hK _ _ (h v' w' h1 h2)
theorem new_cells (w : World) (r : List UInt8) (cs : Array Value) (hcs : cs = (bv r).toArray) : ∀ j u, (bv r)[j]? = some u → (w.alloc (.cells cs 5)).cell? ((⟨w.heap.size, 0, none⟩ : Addr).add j) = some u := by
 subst hcs
 intro j u hu
 have e : (⟨w.heap.size, 0, none⟩ : Addr).add j = ⟨w.heap.size, j, none⟩ := by
  simp [Addr.add]
  intro hj; exact hj.symm
 rw [e]
 simpa using hu
theorem buf_append_new {ops : Array Oper} {rest : List Oper} {o : Oper} {a : Act} {Q : Exit → Act → World → Prop} {w : World} (hgd : o.guard = none) (s x : Operand)
  (ho : o.op = .call { callee := .builtin .append, args := #[s, x], argTypes := #[104, 104] })
  {B : Nat} {v : Value} {l : List UInt8} (hs : a.eval s = v) (hb : Buf B v l w) (r : List UInt8) (cs : Array Value) (hcs : cs = (bv r).toArray) (n c : Nat) (hn : n = r.length) (hx : a.eval x = .slice (some ⟨w.heap.size, 0, none⟩) n c)
  (hlen : l.length + r.length ≤ 140737488355328)
  (h : ∀ v' w', Buf B v' (l ++ r) w' → Below B w w' → wpList Tryz.prog ops Q rest (a.put o.dst v') w') : wpList Tryz.prog ops Q (o :: rest) a (w.alloc (.cells cs 5)) := by
 subst hn
 exact buf_append hgd s x ho hs (hb.alloc _) r ⟨w.heap.size, 0, none⟩ c hx (new_cells w r cs hcs) hlen fun v' w' h1 h2 => h v' w' h1 (((Below.refl _ _).alloc hb.2 _).trans h2)
end Go.Proofs.YtpodmgihlomglaaGreatDoor
namespace Go.Proofs.YtpodmgihlomglaaGreatDoor
open Go.RowKit
set_option maxRecDepth 1000000
set_option linter.unusedSimpArgs false
def hsN (s : Nat) (n : Int) (k : ByteArray) : Nat := narrowN (txtN s k.data.toList) n
theorem hsN_lt (s : Nat) (n : Int) (k : ByteArray) : hsN s n k < 18446744073709551616 := narrowN_lt _ (endN_lt _)
def MapAt (S : Nat → Prop) (w : World) (s : Nat) (n : Int) (L : List Ent) (c : Array Value) : Prop :=
 ∃ (bb : Nat) (a1 : Option Addr) (n1 c1 : Nat) (a2 : Option Addr) (n2 c2 : Nat), c = #[.int .u64 (s : Int), .int .i64 n, .int .i64 ((L.length : Nat) : Int), .int .u32 (bb : Int), .slice a1 n1 c1, .slice a2 n2 c2] ∧ NodeAt (hsN s n) S 13 w L #[.int .u32 (bb : Int), .slice a1 n1 c1, .slice a2 n2 c2]
section
variable {S S' : Nat → Prop} {w w' : World} {s : Nat} {n : Int} {L : List Ent} {c : Array Value}
theorem MapAt.imp (h : MapAt S w s n L c) (k : Kp S w w') (hS : ∀ g, S g → g < w.heap.size → S' g) : MapAt S' w' s n L c := by
 obtain ⟨bb, a1, n1, c1, a2, n2, c2, rfl, h⟩ := h
 exact ⟨_, _, _, _, _, _, _, rfl, h.imp k hS⟩
theorem MapAt.kp (h : MapAt S w s n L c) (k : Kp S w w') : MapAt S w' s n L c := h.imp k fun _ h _ => h
theorem MapAt.later (h : MapAt S w s n L c) (hb : Below w.heap.size w w') : MapAt S w' s n L c := h.kp (Kp.later hb)
theorem MapAt.weak (h : MapAt S w s n L c) (hS : ∀ g, S g → S' g) : MapAt S' w s n L c := h.imp (fun _ _ _ _ e => e) fun g h _ => hS g h
theorem MapAt.old (h : MapAt S w s n L c) : MapAt (fun g => S g ∧ g < w.heap.size) w s n L c := h.imp (fun _ _ _ _ e => e) fun _ h h' => ⟨h, h'⟩
theorem MapAt.size (h : MapAt S w s n L c) : c.size = 6 := by
 obtain ⟨_, _, _, _, _, _, _, rfl, _⟩ := h
 rfl
theorem MapAt.one (h : MapAt S w s n L c) : c.all (·.oneCell') = true := by
 obtain ⟨_, _, _, _, _, _, _, rfl, _⟩ := h
 simp [Value.oneCell']
theorem MapAt.zero (S : Nat → Prop) (w : World) (s : Nat) (n : Int) : MapAt S w s n [] #[.int .u64 (s : Int), .int .i64 n, .int .i64 0, .int .u32 0, .slice none 0 0, .slice none 0 0] :=
 ⟨0, none, 0, 0, none, 0, 0, rfl, NodeAt.zero _ _ _ _⟩
end
theorem map_range {V : World} {X : Nat} {x0 x1 x2 a b d : Value} {T : TypeId} {fr : Nat × Nat} (h : V.heap[X]? = some (.cells #[x0, x1, x2, a, b, d] T fr)) : V.rangeAt X 3 (#[a, b, d] : Array Value).toList := fun j u hu => by
 refine cell_in h ?_
 rcases j with _ | _ | _ | j
 ·simpa using hu
 ·simpa using hu
 ·simpa using hu
 ·simp at hu
theorem new_below {w w1 : World} {c : Array Value} {T : TypeId} (h : w.alloc (.cells c T) = w1) : Below w.heap.size w w1 ∧ w1.heap[w.heap.size]? = some (.cells c T (0, 0)) ∧ w1.heap.size = w.heap.size + 1 := by
 subst h
 exact ⟨Below.newly' _ _, heap_alloc_last _ _, by simp⟩
theorem hm_Len (w : World) (s : Nat) (n : Int) (l bb : Nat) (a1 : Option Addr) (n1 c1 : Nat) (a2 : Option Addr) (n2 c2 : Nat) :
  Calls Tryz.prog 66 #[.agg #[.int .u64 (s : Int), .int .i64 n, .int .i64 ((l : Nat) : Int), .int .u32 (bb : Int), .slice a1 n1 c1, .slice a2 n2 c2]] w fun r w' => r = .returned (.int .i64 (l : Int)) ∧ Below w.heap.size w w' := by
 obtain ⟨w1, hw1⟩ : ∃ w1, w.alloc (.cells #[.int .u64 (s : Int), .int .i64 n, .int .i64 ((l : Nat) : Int), .int .u32 (bb : Int), .slice a1 n1 c1, .slice a2 n2 c2] 121) = w1 := ⟨_, rfl⟩
 obtain ⟨hb1, hx1, hs1⟩ := new_below hw1
 have ca2 : w1.cell? ⟨w.heap.size, 2, none⟩ = some (.int .i64 (l : Int)) := cell_in hx1 rfl
 have HB1 := Lib.hid hb1
 clear hx1 hs1 hb1
 go_enter Tryz.func66, Tryz.ntmps66
 go_wp2_with fail
 go_ret
 exact ⟨rfl, HB1.out⟩
set_option maxHeartbeats 2000000 in
theorem hm_Sum (w : World) (s : Nat) (hss : s < 18446744073709551616) (n : Int) (l bb : Nat) (a1 : Option Addr) (n1 c1 : Nat) (a2 : Option Addr) (n2 c2 : Nat) (k : ByteArray) (hk : k.size ≤ 9223372036854775800) :
  Calls Tryz.prog 117 #[.agg #[.int .u64 (s : Int), .int .i64 n, .int .i64 ((l : Nat) : Int), .int .u32 (bb : Int), .slice a1 n1 c1, .slice a2 n2 c2], .string k] w fun r w' => r = .returned (.int .u64 (hsN s n k : Nat)) ∧ Below w.heap.size w w' := by
 obtain ⟨w1, hw1⟩ : ∃ w1, w.alloc (.cells #[.int .u64 (s : Int), .int .i64 n, .int .i64 ((l : Nat) : Int), .int .u32 (bb : Int), .slice a1 n1 c1, .slice a2 n2 c2] 121) = w1 := ⟨_, rfl⟩
 obtain ⟨hb1, hx1, hs1⟩ := new_below hw1
 have HX1 := Lib.hid hx1
 have HB1 := Lib.hid hb1
 have HS1 := Lib.hid hs1
 have HTX := Lib.hid (fun W => mix_Text s k hss hk W)
 have HNA := Lib.hid (fun W => mix_Narrow (txtN s k.data.toList) n (endN_lt _) W)
 have hh : narrowN (txtN s k.data.toList) n = hsN s n k := rfl
 rw [hh] at HNA
 obtain ⟨sm, hsm⟩ : ∃ sm, sm = hsN s n k := ⟨_, rfl⟩
 rw [← hsm] at HNA ⊢
 obtain ⟨tx, htx⟩ : ∃ tx, tx = txtN s k.data.toList := ⟨_, rfl⟩
 rw [← htx] at HNA HTX
 clear hx1 hs1 hb1 hh hsm htx hss hk
 go_enter Tryz.func117, Tryz.ntmps117
 go_upto_region 1 with fail
 clear hw1
 have HKS : Hid (∀ V, Below w1.heap.size w1 V → (V.cell? ⟨w.heap.size, 0, none⟩ = some (.int .u64 (s : Int)) ∧ V.cell? ⟨w.heap.size, 1, none⟩ = some (.int .i64 n))) := fun V hV =>
  have h := (hV.block _ (by have := HS1.out; omega)).trans HX1.out
  ⟨cell_in h rfl, cell_in h rfl⟩
 have HW : Hid (Below w1.heap.size w1 w1.drew) := drawn_below w1
 refine wp_region_T (S := (fun V => V.cell? ⟨w.heap.size, 0, none⟩ = some (.int .u64 (s : Int)) ∧ V.cell? ⟨w.heap.size, 1, none⟩ = some (.int .i64 n))) [] (by kernel_rfl) (by exact HKS.out _ HW.out) (fun hHeld => ?_)
 refine tkA 0 5 (h := ?_)
 refine tkA 1 6 (h := ?_)
 refine tkA 2 7 (h := ?_)
 refine tkA 3 8 (h := ?_)
 (try simp only [pq])
 refine wpAnyT_takeC (i := 4) (oi := ⟨some 9, _, _, _, _, _⟩) (v := .int .u64 (tx : Int)) rfl (by kernel_rfl) (by kernel_rfl) (by kernel_rfl) (by kernel_rfl) (fun _ _ _ h => h) ⟨by rfl, fun w hSw => ⟨141, #[.int .u64 (s : Int), .string k], ?hg2_4, (HTX.out w).mono fun _ _ h => ⟨h.1, h.2.symm⟩⟩⟩ (by assumption) ?rg2_4
 case hg2_4 => go_simp
 (try simp only [pq])
 refine tkA 5 10 (h := ?_)
 refine tkA 6 11 (h := ?_)
 refine tkA 7 12 (h := ?_)
 (try simp only [pq])
 refine wpAnyT_takeC (i := 8) (oi := ⟨some 13, _, _, _, _, _⟩) (v := .int .u64 (sm : Int)) rfl (by kernel_rfl) (by kernel_rfl) (by kernel_rfl) (by kernel_rfl) (fun _ _ _ h => h) ⟨by rfl, fun w hSw => ⟨140, #[.int .u64 (tx : Int), .int .i64 n], ?hg2_8, (HNA.out w).mono fun _ _ h => ⟨h.1, h.2.symm⟩⟩⟩ (by assumption) ?rg2_8
 case hg2_8 => go_simp
 (try simp only [pq])
 refine tkA 9 4 (h := ?_)
 (try simp only [pq])
 refine wpAnyT_done (by kernel_rfl) ?_ _
 clear hHeld
 go_wp2_with fail
 go_ret
 exact ⟨rfl, tW HB1.out HW.out⟩
theorem ent_range {W : World} {b : Nat} {hs : ByteArray → Nat} {e : Ent} {T : TypeId} {fr : Nat × Nat} (h : W.heap[b]? = some (.cells (entC hs e) T fr)) : W.rangeAt b 2 (enV e.2) := fun j u hu => cell_in h (by
 have hj : j < 4 := (List.getElem?_eq_some_iff.1 hu).1
 have e' : (entC hs e)[2 + j]? = (enV e.2)[j]? := by
  match j, hj with
  | 0, _ => rfl
  | 1, _ => rfl
  | 2, _ => rfl
  | 3, _ => rfl
 rw [e']
 exact hu)
set_option maxHeartbeats 4000000 in
theorem hm_Get {S : Nat → Prop} (w : World) (s : Nat) (hss : s < 18446744073709551616) (n : Int) (L : List Ent) (c : Array Value) (k : ByteArray) (hk : k.size ≤ 9223372036854775800) (h : MapAt S w s n L c) (hL : Rise L) (hn : L.length ≤ 50000) :
  Calls Tryz.prog 89 #[.agg c, .string k] w fun r w' => r = .returned (.tuple #[.agg (celC ((getE L k).getD zeroV)), .bool (getE L k).isSome]) ∧ Below w.heap.size w w' := by
 obtain ⟨bb, a1, n1, c1, a2, n2, c2, rfl, hnd⟩ := h
 obtain ⟨l, hl⟩ : ∃ l, l = L.length := ⟨_, rfl⟩
 rw [← hl]
 have HSUM := Lib.hid (fun W => hm_Sum W s hss n l bb a1 n1 c1 a2 n2 c2 k hk)
 have HFI := Lib.hid (fun W (hb : Below w.heap.size w W) => hm_find (hsN s n) (hsN_lt s n) 13 (Nat.le_refl _) (fun g => S g ∧ g < w.heap.size) W L _ k (hnd.old.later hb) hL (Nat.le_trans hn (by omega)))
 rw [show (((13 - 13 : Nat) : Nat) : Int) = 0 from rfl] at HFI
 obtain ⟨sm, hsm⟩ : ∃ sm, sm = hsN s n k := ⟨_, rfl⟩
 rw [← hsm] at HSUM HFI
 obtain ⟨w1, hw1⟩ : ∃ w1, (w.alloc (.cells #[.int .u64 (s : Int), .int .i64 n, .int .i64 ((l : Nat) : Int), .int .u32 (bb : Int), .slice a1 n1 c1, .slice a2 n2 c2] 121)).alloc (.cells #[.int .i64 0, .int .i64 0, .string ⟨#[]⟩, .pointer none] 35) = w1 := ⟨_, rfl⟩
 obtain ⟨hb1, hx1, hy1, hs1⟩ := two_newG hw1
 have HY1 := Lib.hid hy1
 have HX1 := Lib.hid hx1
 have HB1 := Lib.hid hb1
 have HS1 := Lib.hid hs1
 clear hx1 hy1 hs1 hb1 hsm hss hk hnd hL hn hl
 go_enter Tryz.func89, Tryz.ntmps89
 go_upto_region 1 with fail
 clear hw1
 have HKS : Hid (∀ V, Below w1.heap.size w1 V → (V.heap[w.heap.size]? = some (.cells #[.int .u64 (s : Int), .int .i64 n, .int .i64 ((l : Nat) : Int), .int .u32 (bb : Int), .slice a1 n1 c1, .slice a2 n2 c2] 121 (0, 0)))) := fun V hV => (hV.block _ (by have := HS1.out; omega)).trans HX1.out
 have HW : Hid (Below w1.heap.size w1 w1.drew) := drawn_below w1
 refine wp_region_T (S := (fun V => V.heap[w.heap.size]? = some (.cells #[.int .u64 (s : Int), .int .i64 n, .int .i64 ((l : Nat) : Int), .int .u32 (bb : Int), .slice a1 n1 c1, .slice a2 n2 c2] 121 (0, 0)))) [] (by kernel_rfl) (by exact HKS.out _ HW.out) (fun hHeld => ?_)
 refine tkA 0 8 (h := ?_)
 refine tyA 1 9 (hy := yieldsIf_arr (by rfl) 119 _ rfl w.heap.size 3 rfl #[.int .u32 (bb : Int), .slice a1 n1 c1, .slice a2 n2 c2] _ (fun w hw => (map_range hw)) Tryz.underlying119 rfl (by exact nd_size)) (h := ?_)
 refine tyA 2 10 (hy := yieldsIf_load_row (by rfl) 121 _ rfl w.heap.size rfl #[.int .u64 (s : Int), .int .i64 n, .int .i64 ((l : Nat) : Int), .int .u32 (bb : Int), .slice a1 n1 c1, .slice a2 n2 c2] 121 (0, 0) _ (fun w hw => hw) Tryz.underlying121 rfl (by exact map_size)) (h := ?_)
 refine tkA 3 11 (h := ?_)
 refine tkA 5 13 (h := ?_)
 (try simp only [pq])
 refine tkO 4 (some 12) (h := fun K hK => ?_)
 go_simp
 go_at_call 117
 refine (HSUM.out _).mono ?_
 rintro r w2 ⟨rfl, hb⟩
 replace HW := Lib.hid (tW HW.out hb)
 clear hb
 dsimp only
 refine hK.out _ _ (by exact HKS.out _ HW.out) (fun hHeld => ?_)
 clear hK K
 (try simp only [pq])
 refine tkO 6 (some 14) (h := fun K hK => ?_)
 go_simp
 go_at_call 116
 refine (HFI.out _ (tW HB1.out HW.out)).mono ?_
 rintro r w3 ⟨p, rfl, hp, hb⟩
 have HFO := Lib.hid hp
 replace HW := Lib.hid (tW HW.out hb)
 clear hb hp
 dsimp only
 refine hK.out _ _ (by exact HKS.out _ HW.out) (fun hHeld => ?_)
 clear hK K
 (try simp only [pq])
 refine tkA 7 6 (h := ?_)
 (try simp only [pq])
 refine wpAnyT_done (by kernel_rfl) ?_ _
 clear hHeld
 have HWW := Lib.hid (tW HB1.out HW.out)
 have HY3 := Lib.hid ((HW.out.block _ (by have := HS1.out; omega)).trans HY1.out)
 have HL3 : Hid (w.heap.size + 1 < w3.heap.size) := by show _ < _; have := HW.out.size; have := HS1.out; omega
 have hp := HFO.out
 unfold Found at hp
 cases hg : getE L k with
 | none =>
  rw [hg] at hp
  obtain rfl : p = none := hp
  have HGG := Lib.hid hg
  clear hg HFO
  unfold pv
  go_wp2_with (first
   | (refine ld_if rfl 35 _ rfl w3.heap.size rfl 35 _ _ _ (heap_alloc_last _ _) Tryz.underlying35 rfl val_size ?_)
   | (refine st_agg rfl 35 _ _ rfl (w.heap.size + 1) #[.int .i64 0, .int .i64 0, .string ⟨#[]⟩, .pointer none] rfl rfl 35 _ (((Below.newly' w3 _).block _ HL3.out).trans HY3.out) val_size rfl (by simp [Value.oneCell']) ?_; intro w6 h6 k6))
  exact bodyPost_ret (results_cell_row1 rfl _ _ (w.heap.size + 1) 35 _ (0, 0) _ rfl h6 Tryz.underlying35 rfl val_size) rfl ⟨by rw [HGG.out]; rfl, (HWW.out.trans ((Below.newly' w3 _).mono HWW.out.size)).trans (k6.below (by omega))⟩
 | some x =>
  rw [hg] at hp
  obtain ⟨b, rfl, hb⟩ := hp
  have HRV : Hid (w3.rangeAt b 2 (enV x)) := by
   obtain ⟨_, fr, h⟩ := hb
   exact ent_range h
  have HGG := Lib.hid hg
  clear hg hb HFO
  unfold pv
  go_wp2_with (first
   | (refine wpList_load_mid rfl 35 _ rfl b 2 rfl (enV x) _ HRV.out Tryz.underlying35 rfl val_size ?_)
   | (refine st_agg rfl 35 _ _ rfl (w.heap.size + 1) (celC x) rfl rfl 35 _ HY3.out val_size rfl (celC_one x) ?_; intro w6 h6 k6))
  exact bodyPost_ret (results_cell_row1 rfl _ _ (w.heap.size + 1) 35 _ (0, 0) _ rfl h6 Tryz.underlying35 rfl val_size) rfl ⟨by rw [HGG.out]; rfl, HWW.out.trans (k6.below (by omega))⟩
end Go.Proofs.YtpodmgihlomglaaGreatDoor
namespace Go.Proofs.YtpodmgihlomglaaGreatDoor
open Go.RowKit
set_option maxRecDepth 1000000
set_option linter.unusedSimpArgs false
theorem three_newV {W w : World} {a b c : Array Value} {A B C : TypeId} (e : ((W.alloc (.cells a A)).alloc (.cells b B)).alloc (.cells c C) = w) :
  Below W.heap.size W w ∧ w.heap[W.heap.size]? = some (.cells a A (0, 0)) ∧ w.heap[W.heap.size + 1]? = some (.cells b B (0, 0)) ∧ w.heap[W.heap.size + 2]? = some (.cells c C (0, 0)) ∧ w.heap.size = W.heap.size + 3 := by
 obtain ⟨w2, h2⟩ : ∃ w2, (W.alloc (.cells a A)).alloc (.cells b B) = w2 := ⟨_, rfl⟩
 obtain ⟨h3, h4, h5, h6⟩ := two_new h2
 rw [h2] at e
 subst e
 have h := heap_alloc_last w2 (.cells c C)
 rw [h6] at h
 exact ⟨Below.more h3 _, ((Below.newly' w2 _).block _ (by omega)).trans h4, ((Below.newly' w2 _).block _ (by omega)).trans h5, h, by simp [h6]⟩
theorem st_cell_wp {o : Oper} {a : Act} {w : World} {K : Act → World → Prop} {Q : Exit → Act → World → Prop} (ty : TypeId) (x y : Operand) (ho : o.op = .store ty x y)
  (X k : Nat) (v : Value) (hx : a.eval x = .pointer (some ⟨X, k, none⟩)) (hy : a.eval y = v) (h1 : v.oneCell' = true) (T : TypeId) (c : Array Value) (hB : w.heap[X]? = some (.cells c T (0, 0)))
  (hi : (Tryz.prog.info? ty).map (·.size) = some 1) (hk : k < c.size)
  (h : ∀ w', w'.heap[X]? = some (.cells (c.setIfInBounds k v) T (0, 0)) → Only X w w' → K (a.put o.dst undef) w') : o.wp Tryz.prog a w K Q := by
 unfold Oper.wp execOp
 simp only [ho, hx, hy, Instr.storeAt, Instr.sureAddr, Sem.run_bind, Sem.run_pure, Result.andThen_ok, run_storeVar_cell w X k T ty c v hB hk hi h1]
 exact h _ (setRow_heap w X _ _ _ _ hB) (only_setRow _ _ _)
theorem one4 {a b c d : Value} (h1 : a.oneCell' = true) (h2 : b.oneCell' = true) (h3 : c.oneCell' = true) (h4 : d.oneCell' = true) : (#[a, b, c, d] : Array Value).all (·.oneCell') = true := by simp [h1, h2, h3, h4]
def kB (a : Tr) : ByteArray := ⟨(keyT a).toArray⟩
theorem kb_kB (a : Tr) : kb (kB a) = keyT a := by simp [kb, kB]
theorem kB_iff {a : Tr} {t : ByteArray} : kB a = t ↔ keyT a = kb t := ⟨fun h => by rw [← h, kb_kB], fun h => kb_inj (by rw [kb_kB, h])⟩
mutual
def TxtT (B : Nat) : Tr → Prop
 | .nd _ _ t ks xs => t.size ≤ B ∧ (∀ k ∈ ks, k.size ≤ B) ∧ TxtL B xs
def TxtL (B : Nat) : List Tr → Prop
 | [] => True
 | x :: r => TxtT B x ∧ TxtL B r
end
theorem txtL_iff {B : Nat} {l : List Tr} : TxtL B l ↔ ∀ x ∈ l, TxtT B x := by
 induction l with
 | nil => simp [TxtL]
 | cons x l ih => rw [TxtL, ih]; simp
theorem txtT_iff {B : Nat} {a : Tr} : TxtT B a ↔ a.t.size ≤ B ∧ (∀ k ∈ a.ks, k.size ≤ B) ∧ ∀ x ∈ a.xs, TxtT B x := by
 cases a with
 | nd k n t ks xs => rw [TxtT, txtL_iff]; rfl
theorem txt_null (B : Nat) : TxtT B nullT := txtT_iff.2 ⟨Nat.zero_le _, fun _ h => (by cases h), fun _ h => (by cases h)⟩
theorem TxtT.part {B : Nat} {a x : Tr} (h : TxtT B a) (hx : x ∈ a.xs) : TxtT B x := (txtT_iff.1 h).2.2 x hx
theorem TxtT.mono {B C : Nat} (hBC : B ≤ C) (a : Tr) : TxtT B a → TxtT C a := by
 induction a using tr_ind with
 | h k n t ks xs ih =>
  intro h
  obtain ⟨h1, h2, h3⟩ := txtT_iff.1 h
  exact txtT_iff.2 ⟨Nat.le_trans h1 hBC, fun k hk => Nat.le_trans (h2 k hk) hBC, fun x hx => ih x hx (h3 x hx)⟩
theorem keySc_len (s : Sc) : (keySc s).length ≤ 2 * s.2.2.length + 20 := Nat.le_trans (key_len s) (by omega)
theorem keyB_len (k : ByteArray) : (keyB k).length ≤ 2 * k.size + 20 := keySc_len (3, 0, kb k)
theorem keyT_len {B : Nat} (a : Tr) : TxtT B a → RngT a → (keyT a).length + (2 * B + 20) ≤ nodT a * (4 * B + 50) := by
 induction a using tr_ind with
 | h k n t ks xs ih =>
  intro h hr
  obtain ⟨h1, h2, h3⟩ := txtT_iff.1 h
  obtain ⟨_, r2⟩ := rngT_iff.1 hr
  have hL : ∀ (l : List Tr) (ks : List ByteArray), (∀ x ∈ l, TxtT B x → RngT x → (keyT x).length + (2 * B + 20) ≤ nodT x * (4 * B + 50)) → (∀ x ∈ l, TxtT B x) → (∀ x ∈ l, RngT x) → (∀ k ∈ ks, k.size ≤ B) → (keyL k ks l).length ≤ nodL l * (4 * B + 50) := by
   intro l
   induction l with
   | nil => intro ks _ _ _ _; rw [keyL]; simp
   | cons x r ih2 =>
    intro ks hi ht hrr hk
    have a1 := hi x (List.mem_cons_self ..) (ht x (List.mem_cons_self ..)) (hrr x (List.mem_cons_self ..))
    have a2 := ih2 ks.tail (fun y hy => hi y (List.mem_cons_of_mem _ hy)) (fun y hy => ht y (List.mem_cons_of_mem _ hy)) (fun y hy => hrr y (List.mem_cons_of_mem _ hy)) (fun y hy => hk y (List.mem_of_mem_tail hy))
    have a3 : (if k = 5 then keyB (ks.headD ⟨#[]⟩) else []).length ≤ 2 * B + 20 := by
     split
     ·have h4 : (ks.headD ⟨#[]⟩).size ≤ B := by
       cases ks with
       | nil => exact Nat.zero_le _
       | cons y ys => exact hk y (List.mem_cons_self ..)
      exact Nat.le_trans (keyB_len _) (by omega)
     ·simp
    rw [keyL, List.length_append, List.length_append, nodL, Nat.add_mul]
    omega
  have h4 := hL xs ks ih h3 r2 h2
  have e : (Tr.nd k n t ks xs).t = t := rfl
  rw [e] at h1
  rw [keyT, nodT, Nat.add_mul, Nat.one_mul]
  split
  ·have := keySc_len (k, n, kb t)
   have e2 : (kb t).length = t.size := Array.length_toList
   rw [e2] at this
   omega
  ·rw [List.length_cons, List.length_append, List.length_singleton]
   omega
theorem good_rng (a : Tr) : Good a → RngT a := by
 induction a using tr_ind with
 | h k n t ks xs ih =>
  intro h
  refine rngT_iff.2 ⟨?_, fun x hx => ih x hx (h.part hx)⟩
  rcases (good_iff.1 h).2 with h | ⟨h, _⟩
  ·exact h.2.2.2.1
  ·rw [show (Tr.nd k n t ks xs).n = 0 from h]; exact inr0
def ValB (a : Tr) : Prop := ValT a ∧ TxtT 3000 a
theorem valB_null : ValB nullT := ⟨val_null, txt_null _⟩
theorem ValB.part {a x : Tr} (h : ValB a) (hx : x ∈ a.xs) : ValB x := ⟨h.1.part hx, h.2.part hx⟩
theorem ValB.key {a : Tr} (h : ValB a) : (keyT a).length ≤ 200000000 := by
 have h1 := keyT_len a h.2 (good_rng a h.1.1)
 have h2 := h.1.2.2
 have h3 : nodT a * (4 * 3000 + 50) ≤ 16384 * (4 * 3000 + 50) := Nat.mul_le_mul_right _ h2
 omega
theorem ValB.kB {a : Tr} (h : ValB a) : (kB a).size ≤ 200000000 := by
 have := h.key
 simp only [Go.Proofs.YtpodmgihlomglaaGreatDoor.kB, ByteArray.size, List.size_toArray]
 exact this
theorem ValB.len {a : Tr} (h : ValB a) : a.xs.length ≤ 16383 := by
 have h1 := len_nodL a.xs
 have h2 := nodT_eq a
 have h3 := h.1.2.2
 omega
theorem ValB.kind {a : Tr} (h : ValB a) : 0 ≤ a.k ∧ a.k ≤ 6 := by
 rcases (good_iff.1 h.1.1).2 with h | ⟨_, _, h | h | h⟩ <;> omega
theorem ValB.leaf {a : Tr} (h : ValB a) (h3 : a.k ≤ 3) : a.ks = [] ∧ a.xs = [] := by
 rcases (good_iff.1 h.1.1).2 with h | ⟨_, _, h | h | h⟩
 ·exact h.2.2.2.2
 all_goals omega
def mkeys (k : Int) (ks : List ByteArray) (xs : List Tr) : List ByteArray := if k = 5 then ks else if k = 6 then xs.map Go.Proofs.YtpodmgihlomglaaGreatDoor.kB else []
theorem ValB.mkeys {a : Tr} (h : ValB a) (h4 : a.k = 5 ∨ a.k = 6) : (mkeys a.k a.ks a.xs).length = a.xs.length ∧ (Go.Proofs.YtpodmgihlomglaaGreatDoor.mkeys a.k a.ks a.xs).Pairwise (fun x y => kb x < kb y) ∧ ∀ y ∈ Go.Proofs.YtpodmgihlomglaaGreatDoor.mkeys a.k a.ks a.xs, y.size ≤ 200000000 := by
 rcases h4 with h5 | h6
 ·obtain ⟨h1, h2, _⟩ := h.1.1.mapD h5
  unfold Go.Proofs.YtpodmgihlomglaaGreatDoor.mkeys
  rw [if_pos h5]
  exact ⟨h1, h2, fun y hy => Nat.le_trans ((txtT_iff.1 h.2).2.1 y hy) (by decide)⟩
 ·obtain ⟨h1, h2, _⟩ := h.1.1.setD h6
  unfold Go.Proofs.YtpodmgihlomglaaGreatDoor.mkeys
  rw [if_neg (by omega), if_pos h6]
  refine ⟨by simp, ?_, fun y hy => ?_⟩
  ·rw [List.pairwise_map]
   exact h2.imp fun h => by rw [kb_kB, kb_kB]; exact h
  ·obtain ⟨x, hx, rfl⟩ := List.mem_map.1 hy
   exact (h.part hx).kB
end Go.Proofs.YtpodmgihlomglaaGreatDoor
