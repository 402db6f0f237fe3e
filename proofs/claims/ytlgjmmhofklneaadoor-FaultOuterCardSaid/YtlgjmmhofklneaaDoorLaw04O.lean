/- Layer 4's law FaultOuter. -/
import Derived.Test.YtlgjmmhofklneaaDoorLaw04Live
import Derived.Test.YtlgjmmhofklneaaDoorErrAs3
namespace Go.Proofs.YtlgjmmhofklneaaDoor
open Go.RowKit
set_option maxRecDepth 1000000
set_option maxHeartbeats 4000000

/-- 'append(list, numbers..)', where a guard is met. -/
theorem ints_append_if {ops : Array Oper} {rest : List Oper} {o : Oper} {a : Act} {Q : Exit → Act → World → Prop} {w : World} (hwd : Region.wanted o (yielded ops a.tmps) = true) (s x : Operand)
    (ho : o.op = .call { callee := .builtin .append, args := #[s, x], argTypes := #[23, 23] })
    {B : Nat} {v : Value} {l : List Int} (hs : a.eval s = v) (hb : Ints B v l w) (r : List Int) (ad : Addr) (c : Nat) (hx : a.eval x = .slice (some ad) r.length c)
    (hc : ∀ j u, (iv r)[j]? = some u → w.cell? (ad.add j) = some u) (hlen : l.length + r.length ≤ 17592186044416)
    (h : ∀ v' w', Ints B v' (l ++ r) w' → w.grownBy w' v.ownBlock → wpList Tryd.prog ops Q rest (a.put o.dst v') w') : wpList Tryd.prog ops Q (o :: rest) a w :=
  wpList_step fun _ hK => by
    rw [if_pos hwd]
    exact ints_wp s x ho hs hb r ad c hx hc hlen fun v' w' h1 h2 => hK _ _ (h v' w' h1 h2)
theorem ints_append_new_if {ops : Array Oper} {rest : List Oper} {o : Oper} {a : Act} {Q : Exit → Act → World → Prop} {w : World} (hwd : Region.wanted o (yielded ops a.tmps) = true) (s x : Operand)
    (ho : o.op = .call { callee := .builtin .append, args := #[s, x], argTypes := #[23, 23] })
    {B : Nat} {v : Value} {l : List Int} (hs : a.eval s = v) (hb : Ints B v l w) (r : List Int) (cs : Array Value) (hcs : cs = (iv r).toArray) (n c : Nat) (hn : n = r.length) (hx : a.eval x = .slice (some ⟨w.heap.size, 0, none⟩) n c)
    (hlen : l.length + r.length ≤ 17592186044416)
    (h : ∀ v' w', Ints B v' (l ++ r) w' → w.grownBy w' v.ownBlock → wpList Tryd.prog ops Q rest (a.put o.dst v') w') : wpList Tryd.prog ops Q (o :: rest) a (w.alloc (.cells cs 3)) := by
  subst hn
  exact ints_append_if hwd s x ho hs (hb.alloc _) r ⟨w.heap.size, 0, none⟩ c hx (new_ints w r cs hcs) hlen fun v' w' h1 h2 => h v' w' h1 ⟨h2.os, h2.tape, h2.output, by have := h2.size; simp at this; omega, fun k hk hne => (h2.block k (by simp; omega) hne).trans (Lib.alloc_old w _ k hk)⟩

/-- A store into a variable that holds a pointer touches no chain. -/
theorem Ch.but {B T : Nat} {w w' : World} {E x : Value} {c : Option Int} {l : List Int} (h : Ch B w E c l) (hT : w.cell? ⟨T, 0, none⟩ = some x) (hx : ∀ n, x ≠ .int .i64 n) (hg : w.grownBy w' (some T)) : Ch B w' E c l := by
  have key : ∀ b n, w.cell? ⟨b, 0, none⟩ = some (.int .i64 n) → ∀ i v, w.cell? ⟨b, i, none⟩ = some v → w'.cell? ⟨b, i, none⟩ = some v := by
    intro b n h1 i v h2
    refine hg.cell h2 (fun e => ?_)
    simp only [Option.some.injEq] at e
    subst e
    rw [h1] at hT
    exact hx n (Option.some.inj hT).symm
  induction h with
  | code c hc => exact .code c hc
  | bare b n h1 h2 h3 h4 => exact .bare b n h1 h2 (key b n h3 0 _ h3) (key b n h3 1 _ h4)
  | put b n u x c l h1 h2 h3 h4 _ ih => exact .put b n u x c l h1 h2 (key b n h3 0 _ h3) (key b n h3 1 _ h4) ih

theorem faultOuter_walk (c n o : Int) (v : Value) (l : List Int) (hc : InR c) (hn : InR n) (ho : InR o) (w : World) (hv : IntsAt w v l) (hg : ET w) (ht : Tab w) :
    Calls Tryd.prog 6 #[.int .i64 c, .int .i64 n, .int .i64 o, v] w fun e w' => e = .returned (.bool true) ∧ Below w.heap.size w w' := by
  have HG := Lib.hid hg
  have HT := Lib.hid ht
  have HL := Lib.hid (fun W (hb : Below w.heap.size w W) => live_true W (hg.below hb) (ht.below hb))
  have HV := Lib.hid hv
  have HC := Lib.hid hc
  have HN := Lib.hid hn
  have HO := Lib.hid ho
  obtain ⟨a, cap, b, off, rfl, _, _, _, hm⟩ := hv
  unfold maxLen at hm
  obtain ⟨len, hlen⟩ : ∃ len, len = l.length := ⟨_, rfl⟩
  have HLL := Lib.hid hlen
  rw [← hlen] at HV hm ⊢
  clear hlen hc hn ho hg ht
  by_cases h100 : (100 : Int) < (len : Int) ∨ c = 0
  · have two : ∀ P : Prop, ((100 : Int) < (len : Int) → P) → (¬ (100 : Int) < (len : Int) → c = 0 → P) → P := fun P h1 h2 => by
      by_cases h : (100 : Int) < (len : Int)
      · exact h1 h
      · rcases h100 with h' | h'
        · exact absurd h' h
        · exact h2 h h'
    refine two _ (fun h => ?_) (fun h h' => ?_)
    · clear two h100
      go_enter Tryd.func6, Tryd.ntmps6
      go_wp2_with fail
      refine (HL.out _ (Below.refl _ _)).mono ?_
      rintro e w1 ⟨rfl, hb⟩
      have B1 := Lib.hid hb
      clear hb
      go_wp2_with fail
      refine (HL.out _ B1.out).mono ?_
      rintro e w2 ⟨rfl, hb⟩
      have B2 := Lib.hid (B1.out.trans (hb.mono B1.out.size))
      clear hb
      go_wp2_with fail
      go_ret
      exact ⟨rfl, B2.out⟩
    · clear two h100
      subst h'
      go_enter Tryd.func6, Tryd.ntmps6
      go_wp2_with fail
      refine (HL.out _ (Below.refl _ _)).mono ?_
      rintro e w1 ⟨rfl, hb⟩
      have B1 := Lib.hid hb
      clear hb
      go_wp2_with fail
      refine (HL.out _ B1.out).mono ?_
      rintro e w2 ⟨rfl, hb⟩
      have B2 := Lib.hid (B1.out.trans (hb.mono B1.out.size))
      clear hb
      go_wp2_with fail
      go_ret
      exact ⟨rfl, B2.out⟩
  · have h100' : ¬ (100 : Int) < (len : Int) := fun h => h100 (.inl h)
    have H0 : Hid (¬ c = 0) := fun h => h100 (.inr h)
    have h1 : (c == 0) = false := beq_eq_false_iff_ne.2 H0.out
    have hlen1 : len ≤ 100 := by omega
    have HLEN : Hid (l.length ≤ 100) := by show _ ≤ _; rw [← HLL.out]; exact hlen1
    clear h100
    go_enter Tryd.func6, Tryd.ntmps6
    go_wp2_with fail
    refine (HL.out _ (Below.refl _ _)).mono ?_
    rintro e w1 ⟨rfl, hb⟩
    have B1 := Lib.hid hb
    clear hb
    obtain ⟨T, hT⟩ : ∃ T, T = w1.heap.size := ⟨_, rfl⟩
    obtain ⟨wf, hwf⟩ : ∃ wf, wf = w1.alloc (.cells #[.pointer none] 43) := ⟨_, rfl⟩
    have BF : Hid (Below w.heap.size w wf) := by show Below _ _ _; rw [hwf]; exact Below.more B1.out _
    have hblk : wf.heap[T]? = some (.cells #[.pointer none] 43 (0, 0)) := by rw [hwf, hT]; exact heap_alloc_new w1 _
    have HBLK := Lib.hid hblk
    have HWF := Lib.hid hwf
    have HTT := Lib.hid hT
    clear hblk hwf hT
    go_wp2_with fail
    rw [← HWF.out, ← HTT.out]
    refine (made_err c n _ l _ H0.out HC.out HN.out (HV.out.later BF.out) (Nat.le_trans HLEN.out (by decide))).mono ?_
    rintro e w2 ⟨E, rfl, hch, hb⟩
    have C2 := Lib.hid hch
    have F2 := Lib.hid hb
    clear hch hb
    go_wp2_with fail
    refine (fault_In _ _ _ o _ C2.out (Nat.le_refl _) HO.out).mono ?_
    rintro e w3 ⟨b3, rfl, hge, c0, c1, hch, hb⟩
    have HGE := Lib.hid (show T ≠ b3 by have h5 := (Array.getElem?_eq_some_iff.1 HBLK.out).1; have h6 := F2.out.size; omega)
    have C3 := Lib.hid hch
    have E3 := Lib.hid (C2.out.later hb hb.size)
    have P0 := Lib.hid c0
    have P1 := Lib.hid c1
    have F3 := Lib.hid (F2.out.trans (hb.mono F2.out.size))
    have hT3 := (F3.out.block T (Array.getElem?_eq_some_iff.1 HBLK.out).1).trans HBLK.out
    have K3 := Lib.hid hT3
    clear hch hb F2 C2 c0 c1 hT3 hge
    go_wp2_with fail
    refine (As_self ⟨b3, 0, none⟩ ⟨T, 0, none⟩ (.pointer none) w3 (HG.out.below (BF.out.trans (F3.out.mono BF.out.size))) (by have := K3.out; simp [World.cell?, this]) (by have := K3.out; simp [World.frozen?, this])).mono ?_
    rintro e w4 ⟨rfl, w4', hb, hw4⟩
    have hT4' := (hb.block T (Array.getElem?_eq_some_iff.1 K3.out).1).trans K3.out
    have hT4 : w4.heap[T]? = some (.cells #[.pointer (some ⟨b3, 0, none⟩)] 43 (0, 0)) := by rw [hw4]; simp [World.setCell, Array.getElem?_modify, hT4']
    have hgr : w4'.grownBy w4 (some T) := by rw [hw4]; exact ⟨rfl, rfl, rfl, by simp [World.setCell], fun k _ hk => Below.heap_setCell _ _ _ _ (fun e => hk (by simp [e]))⟩
    have hcT : w4'.cell? ⟨T, 0, none⟩ = some (.pointer none) := by simp [World.cell?, hT4']
    have E4 := Lib.hid ((E3.out.later hb hb.size).but hcT (fun n h => by cases h) hgr)
    have hlt3 : b3 < w3.heap.size := World.block_lt_of_cell? w3 _ P0.out
    have Q0 := Lib.hid (hgr.cell ((hb.cell (p := ⟨b3, 0, none⟩) hlt3).trans P0.out) (fun e => HGE.out (Option.some.inj e).symm))
    have Q1 := Lib.hid (hgr.cell ((hb.cell (p := ⟨b3, 1, none⟩) hlt3).trans P1.out) (fun e => HGE.out (Option.some.inj e).symm))
    have C4 := Lib.hid ((C3.out.later hb hb.size).but hcT (fun n h => by cases h) hgr)
    have hs4 : w4.heap.size = w4'.heap.size := by rw [hw4]; simp [World.setCell]
    have B4 : Hid (Below w.heap.size w w4) := by
      have h5 : w.heap.size ≤ T := by rw [HTT.out]; exact B1.out.size
      show Below _ _ _
      rw [hw4]
      exact ((BF.out.trans (F3.out.mono BF.out.size)).trans (hb.mono (BF.out.trans (F3.out.mono BF.out.size)).size)).setCell (p := ⟨T, 0, none⟩) h5 _
    have T4 := Lib.hid hT4
    have l0 : w4.cell? ⟨T, 0, none⟩ = some (.pointer (some ⟨b3, 0, none⟩)) := by simp [World.cell?, hT4]
    have HS4 := Lib.hid hs4
    clear hb hw4 hT4' hT4 hgr hcT hlt3 E3 C3 F3 K3 P0 P1 BF HBLK HWF hs4
    obtain ⟨u, x, hE⟩ := E4.out.iface
    subst hE
    have hcc : (c == c) = true := beq_self_eq_true c
    have hoo : (o == o) = true := beq_self_eq_true o
    go_wp2_with fail
    refine (fUnwrap b3 _ w4 Q1.out).mono ?_
    rintro e w4a ⟨rfl, rfl⟩
    have q0 := Q0.out
    go_wp2_with fail
    have hLL : Hid ((l.reverse ++ [n]).length ≤ 999) := by show _ ≤ _; have := HLEN.out; simp; omega
    refine (fault_Code _ _ _ w4a (HG.out.below B4.out) (E4.out.later (Below.refl _ _) (Nat.le_of_eq HS4.out.symm)) (Nat.le_refl _)).mono ?_
    rintro e w5 ⟨rfl, hb⟩
    have F5 := Lib.hid hb
    have E5 := Lib.hid (E4.out.later (hb.mono (Nat.le_of_eq HS4.out.symm)) (Nat.le_trans (Nat.le_of_eq HS4.out.symm) hb.size))
    clear hb q0 l0
    rw [show codeS (some c) = c from rfl]
    go_wp2_with fail
    refine (fault_Where _ _ _ w5 (HG.out.below (B4.out.trans (F5.out.mono B4.out.size))) E5.out (Nat.le_refl _) (Nat.le_trans hLL.out (by decide))).mono ?_
    rintro e w6 ⟨v6, rfl, hi, hb⟩
    have I6 := Lib.hid (hi.reads E5.out.range.1)
    have F6 := Lib.hid (F5.out.trans (hb.mono F5.out.size))
    have E6 := Lib.hid (E5.out.later hb hb.size)
    clear hi hb F5 E5
    go_wp2_with fail
    refine (fault_Where _ _ _ w6 (HG.out.below (B4.out.trans (F6.out.mono B4.out.size))) E6.out (Nat.le_refl _) (Nat.le_trans hLL.out (by decide))).mono ?_
    rintro e w7 ⟨v7, rfl, hi, hb⟩
    have I7 := Lib.hid (hi.reads E6.out.range.1)
    have J7 := Lib.hid (I6.out.later hb)
    have F7 := Lib.hid (F6.out.trans (hb.mono F6.out.size))
    clear hi hb F6 E6 I6
    go_wp2_with fail
    refine (ref_Same _ _ _ _ _ J7.out I7.out).mono ?_
    rintro e w8 ⟨rfl, hb⟩
    have F8 := Lib.hid (F7.out.trans (hb.mono F7.out.size))
    clear hb F7 I7 J7
    rw [show decide (l.reverse ++ [n] = l.reverse ++ [n]) = true by simp]
    have l8 := (F8.out.cell (p := ⟨T, 0, none⟩) (Array.getElem?_eq_some_iff.1 T4.out).1).trans (show w4a.cell? ⟨T, 0, none⟩ = some (.pointer (some ⟨b3, 0, none⟩)) by have := T4.out; simp [World.cell?, this])
    go_wp2_with fail
    refine (fault_Error b3 _ _ w8 (HG.out.below (B4.out.trans (F8.out.mono B4.out.size))) (HT.out.below (B4.out.trans (F8.out.mono B4.out.size))) (C4.out.later (F8.out.mono (Nat.le_of_eq HS4.out.symm)) (Nat.le_trans (Nat.le_of_eq HS4.out.symm) F8.out.size)) (Nat.le_refl _) (by have := hLL.out; rw [List.length_cons]; omega)).mono ?_
    rintro e w9 ⟨rfl, hb⟩
    have F9 := Lib.hid (F8.out.trans (hb.mono F8.out.size))
    have HRNG := Lib.hid C4.out.range.1
    clear hb F8 l8 C4
    rw [show codeS (some c) = c from rfl]
    go_wp2_with fail
    have I9 : Hid (Ints w9.heap.size (.slice (some ⟨w9.heap.size, 0, none⟩) 1 1) [o] (w9.alloc (.cells #[.int .i64 o] 3))) := Ints.lit (Nat.le_refl _) #[.int .i64 o] [o] rfl (by simp)
    refine (ref_Turned _ l _ (HV.out.later (B4.out.trans ((Below.more F9.out _).mono B4.out.size))) (Nat.le_trans HLEN.out (by decide))).mono ?_
    rintro e w10 ⟨v10, rfl, hi, hb⟩
    have I10 := Lib.hid hi
    have J10 := Lib.hid (I9.out.later hb)
    have F10 := Lib.hid ((Below.more F9.out _).trans (hb.mono (Below.more F9.out (.cells #[.int .i64 o] 3)).size))
    have S9 := Lib.hid F9.out.size
    clear hi hb F9
    go_wp2_with (at_builtin; go_loud (refine ints_append_new_if rfl (.tmp 70) (.tmp 72) rfl rfl I10.out [n] _ rfl 1 1 rfl rfl (by have := HLEN.out; simp; omega) ?_))
    intro v11 w11 hi hgr
    have I11 := Lib.hid hi
    have J11 := Lib.hid (J10.out.grown hgr (.inr (fun e => by
      have h5 := (I10.out.1.lt _ e.symm).1
      simp at h5
      omega)))
    have F11 := Lib.hid (F10.out.grown hgr F10.out.size (fun k hk => by have h5 := (I10.out.1.lt k hk).1; have h6 := S9.out; simp at h5; omega))
    obtain ⟨ad, cp, rfl, hsrc⟩ := hi.src (by simp)
    have HSRC := Lib.hid hsrc
    clear hi hgr hsrc I10 J10 F10
    go_wp2_with (at_builtin; go_loud (refine ints_append_if rfl (.tmp 68) (.tmp 73) rfl rfl J11.out (l.reverse ++ [n]) ad cp rfl HSRC.out (by have := hLL.out; simp only [List.length_cons, List.length_nil]; omega) ?_))
    intro v12 w12 hi hgr
    have F12 := Lib.hid (F11.out.grown hgr F11.out.size (fun k hk => by have h5 := (J11.out.1.lt k hk).1; have h6 := S9.out; omega))
    have I12 := Lib.hid (hi.reads HRNG.out)
    obtain ⟨a12, cap12, rfl⟩ := hi.len
    obtain ⟨n12, hn12⟩ : ∃ n12, n12 = (o :: (l.reverse ++ [n])).length := ⟨_, rfl⟩
    have HN12 := Lib.hid hn12
    have I13 : Hid (IntsAt w12 (.slice a12 n12 cap12) (o :: (l.reverse ++ [n]))) := by
      show IntsAt _ _ _
      rw [hn12]; exact I12.out
    rw [← hn12]
    clear hi hgr J11 F11 I11 HSRC I12 hn12
    go_wp2_with fail
    refine (ref_Text true c a12 cap12 n12 _ w12 HC.out (.inl rfl) HN12.out (by have := hLL.out; rw [List.length_cons]; omega) I13.out).mono ?_
    rintro e w13 ⟨rfl, hb⟩
    have F13 := Lib.hid (F12.out.trans (hb.mono F12.out.size))
    clear hb F12
    rw [show askedS true c (o :: (l.reverse ++ [n])) = c from rfl]
    go_wp2_with fail
    go_ret
    exact ⟨rfl, B4.out.trans (F13.out.mono B4.out.size)⟩
end Go.Proofs.YtlgjmmhofklneaaDoor
