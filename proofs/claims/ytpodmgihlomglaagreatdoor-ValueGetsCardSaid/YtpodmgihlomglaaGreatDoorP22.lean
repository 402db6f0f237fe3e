import Derived.Test.YtpodmgihlomglaaGreatDoorP21
namespace Go.Proofs.YtpodmgihlomglaaGreatDoor
open Go.RowKit
set_option maxRecDepth 1000000
set_option linter.unusedSimpArgs false
theorem cov_take_len (s : ByteArray) (k : Nat) (hs : s.size ≤ 1000000) : (4 :: covS (s.data.toList.take k)).length ≤ 2000001 := by
 have h := cov_len (s.data.toList.take k)
 have h2 : (s.data.toList.take k).length ≤ 1000000 := by rw [List.length_take, len_bytes]; omega
 simp only [List.length_cons]
 omega
set_option maxHeartbeats 4000000 in
theorem sc_textKey (s : ByteArray) (w : World) (hs : s.size ≤ 1000000) :
  Calls Tryz.prog 124 #[.string s] w fun e w' => e = .returned (.string ⟨(4 :: (covS s.data.toList ++ [0, 0])).toArray⟩) ∧ Below w.heap.size w w' := by
 go_enter Tryz.func124, Tryz.ntmps124
 go_wp2_with (first
  | (refine buf_make rfl _ _ rfl _ _ _ (s.size + 3) rfl rfl (by omega) (by omega) (Nat.le_refl w.heap.size) ?_; intro v0 w0 hb0 hl0; have HB0 := Lib.hid hb0; have HL0 := Lib.hid hl0; clear hb0 hl0)
  | (at_builtin; go_loud (refine buf_append_new rfl (.tmp 10) (.tmp 11) rfl rfl HB0.out [4] _ rfl 1 1 rfl rfl (by decide) ?_); intro v1 w1 hb1 hl1; have HB1 := Lib.hid hb1; have HL1 := Lib.hid hl1; clear hb1 hl1))
 go_loopw [3, 15] (fun v i wr => ∃ k : Nat, k ≤ s.size ∧ i = .int .i64 k ∧ Buf w.heap.size v (4 :: covS (s.data.toList.take k)) wr ∧ Below w.heap.size w wr) (fun _ i _ => s.size - (intOf i).toNat)
 case atStart => exact ⟨0, Nat.zero_le _, rfl, HB1.out, HL0.out.trans HL1.out⟩
 case round =>
  obtain ⟨k, hk, rfl, hbuf, hbw⟩ := hrel
  have HB := Lib.hid hbuf
  have HW := Lib.hid hbw
  have HLEN := Lib.hid (cov_take_len s k hs)
  clear hbuf hbw HB0 HL0 HB1 HL1
  by_cases hlt : k < s.size
  ·have HF := Lib.hid (cov_take s k hlt)
   by_cases h0 : s[k] = 0
   ·have h0' : (s[k].toNat : Int) = 0 := by rw [h0]; rfl
    rw [h0] at HF
    clear h0
    go_wp2_with (first
     | (at_builtin; go_loud (refine buf_append_new rfl (.tmp 24) (.tmp 25) rfl rfl HB.out [0] _ rfl 1 1 rfl rfl (by have := HLEN.out; have h1 : [(0 : UInt8)].length = 1 := rfl; omega) ?_); intro v2 w2 hb2 hl2; have HB2 := Lib.hid hb2; have HL2 := Lib.hid hl2; clear hb2 hl2)
     | (at_builtin; go_loud (refine buf_append_new rfl (.tmp 27) (.tmp 29) rfl rfl HB2.out [255] _ rfl 1 1 rfl rfl (by have := HLEN.out; have h1 : [(255 : UInt8)].length = 1 := rfl; rw [List.length_append]; have h2 : [(0 : UInt8)].length = 1 := rfl; omega) ?_); intro v3 w3 hb3 hl3; have HB3 := Lib.hid hb3; have HL3 := Lib.hid hl3; clear hb3 hl3))
    go_roundw
    case rel =>
     refine ⟨k + 1, by omega, by go_num, ?_, (HW.out.trans HL2.out).trans HL3.out⟩
     have h := HB3.out
     rw [List.append_assoc] at h
     rw [HF.out]
     exact h
    case measure => simp [intOf]; omega
   ·have h0' : ¬ (s[k].toNat : Int) = 0 := fun e => h0 (UInt8.toNat_inj.1 (by simpa using e))
    have HC : Hid (covOne s[k] = [s[k]]) := by show _ = _; simp [covOne, h0]
    clear h0
    go_wp2_with (at_builtin; go_loud (refine buf_append_new rfl (.tmp 27) (.tmp 29) rfl rfl HB.out [s[k]] _ rfl 1 1 rfl rfl (by have := HLEN.out; have h1 : [s[k]].length = 1 := rfl; omega) ?_); intro v2 w2 hb2 hl2; have HB2 := Lib.hid hb2; have HL2 := Lib.hid hl2; clear hb2 hl2)
    go_roundw
    case rel =>
     refine ⟨k + 1, by omega, by go_num, ?_, HW.out.trans HL2.out⟩
     have h := HB2.out
     rw [HF.out, HC.out]
     exact h
    case measure => simp [intOf]; omega
  ·have HF : Hid (covS (s.data.toList.take k) = covS s.data.toList) := by show _ = _; rw [List.take_of_length_le (by rw [len_bytes]; omega)]
   go_wp2_with (at_builtin; go_loud (refine buf_append_new rfl (.tmp 32) (.tmp 33) rfl rfl HB.out [0, 0] _ rfl 2 2 rfl rfl (by have := HLEN.out; have h1 : [(0 : UInt8), 0].length = 2 := rfl; omega) ?_); intro v2 w2 hb2 hl2; have hcv := hb2.str; have HL2 := Lib.hid hl2; clear hb2 hl2)
   go_ret
   exact ⟨by rw [← HF.out]; rfl, HW.out.trans HL2.out⟩
theorem old_cell5 {W w1 : World} (hb : Below W.heap.size W w1) (b o : Nat) (h : b < W.heap.size) : w1.cell? ⟨b, o, none⟩ = W.cell? ⟨b, o, none⟩ := hb.cell (p := ⟨b, o, none⟩) h
theorem lit_str (l : List UInt8) (cs : Array Value) (hc : cs.toList = bv l) (hl : l.length ≤ 4096) (W : World) :
  (convert 104 9 (.slice (some ⟨W.heap.size, 0, none⟩) l.length l.length)).run Tryz.prog (W.alloc (.cells cs 5)) = .ok (.string ⟨l.toArray⟩) (W.alloc (.cells cs 5)) :=
 (Buf.lit (B := W.heap.size) (Nat.le_refl _) cs l hc hl).str
set_option maxHeartbeats 4000000 in
theorem sc_Key (k n : Int) (t : ByteArray) (w : World) (hn : InR n) (ht : t.size ≤ 1000000) :
  Calls Tryz.prog 96 #[scV k n t] w fun e w' => e = .returned (.string ⟨(keySc (scT k n t)).toArray⟩) ∧ Below w.heap.size w w' := by
 have hb0 : Below w.heap.size w (w.alloc (.cells #[.int .i64 k, .int .i64 n, .string t] 32)) := Below.newly' w _
 have HN := Lib.hid hb0
 have HC := Lib.hid (fun W => sc_Check k n t W)
 have HV := Lib.hid (fun W => sc_textKey t W ht)
 have HB := Lib.hid (fun W => num_Bytes n W hn)
 clear hn hb0 ht
 by_cases hc : chkSc (scT k n t) = 0
 ·have key : ∀ (W : World), Below (w.alloc (.cells #[.int .i64 k, .int .i64 n, .string t] 32)).heap.size (w.alloc (.cells #[.int .i64 k, .int .i64 n, .string t] 32)) W →
    W.cell? ⟨w.heap.size, 0, none⟩ = some (.int .i64 k) ∧ W.cell? ⟨w.heap.size, 1, none⟩ = some (.int .i64 n) ∧ W.cell? ⟨w.heap.size, 2, none⟩ = some (.string t) ∧ Below w.heap.size w W := fun W h =>
   ⟨(h.cell (p := ⟨w.heap.size, 0, none⟩) (by simp)).trans (by simp), (h.cell (p := ⟨w.heap.size, 1, none⟩) (by simp)).trans (by simp), (h.cell (p := ⟨w.heap.size, 2, none⟩) (by simp)).trans (by simp), tW HN.out h⟩
  have KEY := Lib.hid key
  clear key
  rcases chk_cases _ hc with h | h | h | ⟨m, h⟩ | ⟨u, h⟩
  ·simp only [Prod.mk.injEq] at h
   obtain ⟨rfl, rfl, h3⟩ := h
   have H3 : Hid (scT 0 0 t = (0, 0, [])) := congrArg (fun l => ((0 : Int), (0 : Int), l)) h3
   rw [H3.out] at HC ⊢
   clear h3 hc H3
   have hcv := lit_str [1] #[.int .u8 1] rfl (by decide)
   simp only [List.length_cons, List.length_nil] at hcv
   go_enter Tryz.func96, Tryz.ntmps96
   go_wp2_with fail
   refine (HC.out _).mono ?_
   rintro e w1 ⟨rfl, hb⟩
   obtain ⟨c0, c1, c2, hb1⟩ := KEY.out _ hb
   have H1 := Lib.hid hb1
   clear hb hb1
   rw [chk_null]
   go_wp2_with fail
   go_ret
   exact ⟨by rw [key_null]; rfl, Below.more H1.out _⟩
  ·simp only [Prod.mk.injEq] at h
   obtain ⟨rfl, rfl, h3⟩ := h
   have H3 : Hid (scT 1 0 t = (1, 0, [])) := congrArg (fun l => ((1 : Int), (0 : Int), l)) h3
   rw [H3.out] at HC ⊢
   clear h3 hc H3
   have hcv := lit_str [2, 0] #[.int .u8 2, .int .u8 0] rfl (by decide)
   simp only [List.length_cons, List.length_nil] at hcv
   go_enter Tryz.func96, Tryz.ntmps96
   go_wp2_with fail
   refine (HC.out _).mono ?_
   rintro e w1 ⟨rfl, hb⟩
   obtain ⟨c0, c1, c2, hb1⟩ := KEY.out _ hb
   have H1 := Lib.hid hb1
   clear hb hb1
   rw [chk_false]
   go_wp2_with fail
   go_ret
   exact ⟨by rw [key_false]; rfl, Below.more H1.out _⟩
  ·simp only [Prod.mk.injEq] at h
   obtain ⟨rfl, rfl, h3⟩ := h
   have H3 : Hid (scT 1 1 t = (1, 1, [])) := congrArg (fun l => ((1 : Int), (1 : Int), l)) h3
   rw [H3.out] at HC ⊢
   clear h3 hc H3
   have hcv := lit_str [2, 1] #[.int .u8 2, .int .u8 1] rfl (by decide)
   simp only [List.length_cons, List.length_nil] at hcv
   go_enter Tryz.func96, Tryz.ntmps96
   go_wp2_with fail
   refine (HC.out _).mono ?_
   rintro e w1 ⟨rfl, hb⟩
   obtain ⟨c0, c1, c2, hb1⟩ := KEY.out _ hb
   have H1 := Lib.hid hb1
   clear hb hb1
   rw [chk_true]
   go_wp2_with fail
   go_ret
   exact ⟨by rw [key_true]; rfl, Below.more H1.out _⟩
  ·simp only [Prod.mk.injEq] at h
   obtain ⟨rfl, rfl, h3⟩ := h
   have H3 : Hid (scT 2 n t = (2, n, [])) := congrArg (fun l => ((2 : Int), (n : Int), l)) h3
   rw [H3.out] at HC ⊢
   clear h3 hc H3
   have hcv := cv1_run
   have hca : ∀ (w : World) (a : Addr), cv1 w a (some (.int .u8 3)) = .ok (.string ⟨#[3]⟩) w := fun w a => cv1_at w a 3 (by decide) (by decide)
   have hl : (bytesS n).length = 8 := bytesS_len n
   go_enter Tryz.func96, Tryz.ntmps96
   go_wp2_with fail
   refine (HC.out _).mono ?_
   rintro e w1 ⟨rfl, hb⟩
   obtain ⟨c0, c1, c2, hb1⟩ := KEY.out _ hb
   have H1 := Lib.hid hb1
   have hsz : w.heap.size < w1.heap.size := by have := hb.size; simp at this; omega
   clear hb hb1
   rw [chk_int]
   go_wp2_with fail
   go_region_with (go_at_call 123; refine (HB.out _).mono ?_; rintro e w' ⟨rfl, hb⟩; have hbc := old_cell5 hb; have HB2 := Lib.hid hb; clear hb)
   all_goals go_wp2_with fail
   all_goals go_ret
   all_goals refine ⟨by rw [key_int, show (3 :: bytesS n) = [3] ++ bytesS n from rfl, ← cat_mk]; rfl, ?_⟩
   all_goals first
    | exact Below.chain H1.out (Below.chain (Below.laid _ _) (Below.chain (Below.drawn _) HB2.out))
    | exact Below.chain H1.out (Below.chain (Below.drawn _) (Below.chain (Below.laid _ _) HB2.out))
    | exact Below.chain H1.out (Below.chain (Below.drawn _) (Below.chain HB2.out (Below.laid _ _)))
  ·simp only [Prod.mk.injEq] at h
   obtain ⟨rfl, rfl, h3⟩ := h
   have HK : Hid (chkSc (scT 3 0 t) = 0) := hc
   clear h3 hc
   go_enter Tryz.func96, Tryz.ntmps96
   go_wp2_with fail
   refine (HC.out _).mono ?_
   rintro e w1 ⟨rfl, hb⟩
   obtain ⟨c0, c1, c2, hb1⟩ := KEY.out _ hb
   have H1 := Lib.hid hb1
   clear hb hb1
   rw [HK.out]
   go_wp2_with fail
   refine (HV.out _).mono ?_
   rintro e w2 ⟨rfl, hb⟩
   have H2 := Lib.hid (tW H1.out hb)
   clear hb
   go_wp2_with fail
   go_ret
   exact ⟨by rw [key_text]; rfl, H2.out⟩
 ·have HK := Lib.hid (key_bad _ hc)
  obtain ⟨c, hcc⟩ : ∃ c, chkSc (scT k n t) = c := ⟨_, rfl⟩
  rw [hcc] at HC hc
  have hcb : (c != 0) = true := by simp [hc]
  clear hcc hc
  go_enter Tryz.func96, Tryz.ntmps96
  go_wp2_with fail
  refine (HC.out _).mono ?_
  rintro e w1 ⟨rfl, hb⟩
  have H1 := Lib.hid (tW HN.out hb)
  clear hb
  go_wp2_with fail
  go_ret
  exact ⟨by rw [HK.out]; rfl, H1.out⟩
theorem mp_Len {S : Nat → Prop} {s : Nat} {n : Int} {L : List Ent} {c : Array Value} (w : World) (h : MapAt S w s n L c) : Calls Tryz.prog 66 #[.agg c] w fun r w' => r = .returned (.int .i64 (L.length : Int)) ∧ Below w.heap.size w w' := by
 obtain ⟨bb, a1, n1, c1, a2, n2, c2, rfl, _⟩ := h
 exact hm_Len w s n L.length bb a1 n1 c1 a2 n2 c2
theorem rp_LenB {S : Nat → Prop} {c : Array Value} {l : List Cel} (w : World) (h : RootR S w c l) : Calls Tryz.prog 65 #[.agg c] w fun e w' => e = .returned (.int .i64 (l.length : Int)) ∧ Below w.heap.size w w' :=
 (rp_Len w h).mono fun _ _ ⟨h1, h2⟩ => ⟨h1, by rw [h2]; exact Below.newly' _ _⟩
theorem keep_range {w w' : World} {b o : Nat} {cs : List Value} (h : w.rangeAt b o cs) (hb : Below w.heap.size w w') : w'.rangeAt b o cs := rangeAt_later h hb
theorem keep_cell {w w' : World} {a : Addr} {v : Value} (h : w.cell? a = some v) (hb : Below w.heap.size w w') : w'.cell? a = some v := (hb.cell (World.block_lt_of_cell? w _ h)).trans h
set_option maxHeartbeats 4000000 in
theorem va_Len {S : Nat → Prop} (w : World) (a : Tr) (x : Cel) (ha : ValB a) (hv : VAt S w a x) : Calls Tryz.prog 32 #[.agg (celC x)] w fun r w' => r = .returned (.int .i64 ((a.xs.length : Nat) : Int)) ∧ Below w.heap.size w w' := by
 obtain ⟨w1, hw1⟩ : ∃ w1, w.alloc (.cells (celC x) 35) = w1 := ⟨_, rfl⟩
 obtain ⟨hb1, hx1, hs1⟩ := new_below hw1
 have cp : w1.cell? ⟨w.heap.size, 3, none⟩ = some (.pointer x.p) := cell_in hx1 rfl
 have HB1 := Lib.hid hb1
 by_cases h3 : a.k ≤ 3
 ·have hp := hv.leaf h3
  rw [(ha.leaf h3).2]
  rw [hp] at cp
  clear hx1 hb1 hs1 hv ha hp
  go_enter Tryz.func32, Tryz.ntmps32
  go_upto_region 1 with fail
  clear hw1
  go_wp2
  go_ret
  exact ⟨rfl, HB1.out⟩
 ·obtain ⟨b, l, hp, _, hvl, rc, mc, d, fr, s, n, h1, _, h3', h4, h5⟩ := (hv.later hb1).parts (by omega)
  rw [hp] at cp
  obtain ⟨e1, e2, e3⟩ := len_parts ha (vAtL_len hvl) (by omega)
  have HL := Lib.hid (fun W (hb : Below w1.heap.size w1 W) => rp_LenB W (h3'.later hb))
  have HM := Lib.hid (fun W (hb : Below w1.heap.size w1 W) => mp_Len W (h4.later hb))
  have HC := Lib.hid (And.intro cp (And.intro (innC_rope h3'.size h1) (innC_map h3'.size h4.size h1)))
  have HZ := Lib.hid (And.intro h3'.size h4.size)
  rw [← e1]
  obtain ⟨p, hp'⟩ : ∃ p, p = (itemE a.k l).length := ⟨_, rfl⟩
  obtain ⟨q, hq'⟩ : ∃ q, q = (mapE a.k a.ks a.xs l).length := ⟨_, rfl⟩
  rw [← hp'] at HL e2 ⊢
  rw [← hq'] at HM e3 ⊢
  have HPQ : Hid (IntKind.i64.wrap ((p : Int) + (q : Int)) = ((p + q : Nat) : Int)) := by show _ = _; rw [IntKind.wrap_i64] <;> omega
  clear hx1 hb1 hs1 hv ha hp h1 h3' h4 h5 hp' hq' e1 e2 e3 hvl
  go_enter Tryz.func32, Tryz.ntmps32
  go_upto_region 1 with fail
  clear hw1
  go_upto_region 3 with fail
  clear cp
  have HKS : Hid (∀ V, Below w1.heap.size w1 V → V.cell? ⟨w.heap.size, 3, none⟩ = some (.pointer (some ⟨b, 0, none⟩)) ∧ V.rangeAt b 0 rc.toList ∧ V.rangeAt b 4 mc.toList) := fun V hV => ⟨keep_cell HC.out.1 hV, keep_range HC.out.2.1 hV, keep_range HC.out.2.2 hV⟩
  have HW : Hid (Below w1.heap.size w1 w1.drew) := drawn_below w1
  refine wp_region_T (S := (fun V => V.cell? ⟨w.heap.size, 3, none⟩ = some (.pointer (some ⟨b, 0, none⟩)) ∧ V.rangeAt b 0 rc.toList ∧ V.rangeAt b 4 mc.toList)) [] (by kernel_rfl) (by exact HKS.out _ HW.out) (fun hHeld => ?_)
  refine tkA 0 6 (h := ?_)
  refine tkA 1 7 (h := ?_)
  refine tkA 2 8 (h := ?_)
  refine tkA 3 9 (h := ?_)
  refine tyA 4 10 (hy := yieldsIf_arr (by rfl) 112 _ rfl b 0 rfl rc _ (fun w hw => hw.2.1) Tryz.underlying112 rfl (by rw [HZ.out.1]; exact rope_size)) (h := ?_)
  refine tkA 6 12 (h := ?_)
  refine tkA 7 13 (h := ?_)
  refine tkA 8 14 (h := ?_)
  refine tkA 9 15 (h := ?_)
  refine tyA 10 16 (hy := yieldsIf_arr (by rfl) 121 _ rfl b 4 rfl mc _ (fun w hw => hw.2.2) Tryz.underlying121 rfl (by rw [HZ.out.2]; exact map_size)) (h := ?_)
  (try simp only [pq])
  refine tkO 5 (some 11) (h := fun K hK => ?_)
  go_simp
  go_at_call 65
  (with_reducible refine (HL.out _ (by exact HW.out)).mono ?_)
  rintro r w3 ⟨rfl, hb⟩
  replace HW := Lib.hid (tW HW.out hb)
  clear hb
  dsimp only
  refine hK.out _ _ (by exact HKS.out _ HW.out) (fun hHeld => ?_)
  clear hK K
  (try simp only [pq])
  refine tkO 11 (some 17) (h := fun K hK => ?_)
  go_simp
  go_at_call 66
  (with_reducible refine (HM.out _ (by exact HW.out)).mono ?_)
  rintro r w4 ⟨rfl, hb⟩
  replace HW := Lib.hid (tW HW.out hb)
  clear hb
  dsimp only
  refine hK.out _ _ (by exact HKS.out _ HW.out) (fun hHeld => ?_)
  clear hK K
  (try simp only [pq])
  refine tkA 12 18 (h := ?_)
  refine tkA 13 2 (h := ?_)
  (try simp only [pq])
  refine wpAnyT_done (by kernel_rfl) ?_ _
  clear hHeld
  go_wp2_with fail
  go_ret
  exact ⟨by show _ = Ending.returned (.int .i64 ((p + q : Nat) : Int)); rw [← HPQ.out]; rfl, tW HB1.out HW.out⟩
def partT (a : Tr) (i : Int) (u : ByteArray) : Tr := match atT a i u with | none => nullT | some j => (a.xs[j]?).getD nullT
theorem part_at {S : Nat → Prop} {w : World} {a : Tr} {l : List Cel} (h : VAtL S w a.xs l) (i : Int) (u : ByteArray) : VAt S w (partT a i u) (((atT a i u).bind fun j => l[j]?).getD zeroV) := by
 unfold partT
 cases e : atT a i u with
 | none => exact vAt_null _ _
 | some j =>
  rw [Option.bind_some]
  show VAt S w ((a.xs[j]?).getD nullT) _
  cases e2 : l[j]? with
  | none =>
   rw [List.getElem?_eq_none (by have := List.getElem?_eq_none_iff.1 e2; rw [vAtL_len h] at this; exact this)]
   exact vAt_null _ _
  | some c =>
   obtain ⟨z, hz, hv⟩ := vAtL_mem h e2
   rw [hz]
   exact hv
theorem at_bind {S : Nat → Prop} {w : World} {a : Tr} {l : List Cel} (ha : ValB a) (h : VAtL S w a.xs l) (i : Int) (u : ByteArray) : ((atT a i u).bind fun j => l[j]?).isSome = (atT a i u).isSome := by
 cases e : atT a i u with
 | none => rfl
 | some j =>
  have hj := at_lt ha.1.1 e
  rw [Option.bind_some, List.getElem?_eq_getElem (by rw [vAtL_len h]; exact hj)]
  rfl
set_option maxHeartbeats 4000000 in
theorem va_at {S : Nat → Prop} (w : World) (a : Tr) (x : Cel) (b : Nat) (ha : ValB a) (hv : VAt S w a x) (hp : x.p = some ⟨b, 0, none⟩) (s i : Int) (u : ByteArray) (hs : fitT a.k s = 0) (hu : u.size ≤ 9223372036854775800) :
  Calls Tryz.prog 52 #[.pointer (some ⟨b, 0, none⟩), .agg #[.int .i64 s, .int .i64 i, .string u]] w fun r w' => ∃ y, r = .returned (.tuple #[.agg (celC y), .bool (atT a i u).isSome]) ∧ VAt S w' (partT a i u) y ∧ Below w.heap.size w w' := by
 obtain ⟨w1, hw1⟩ : ∃ w1, (w.alloc (.cells #[.int .i64 s, .int .i64 i, .string u] 44)).alloc (.cells #[.int .i64 0, .int .i64 0, .string ⟨#[]⟩, .pointer none] 35) = w1 := ⟨_, rfl⟩
 obtain ⟨hb1, hx1, hy1, hs1⟩ := two_new hw1
 have h4 : 4 ≤ a.k := by rcases fit_kind hs with ⟨_, h⟩ | ⟨_, h⟩ | ⟨_, h⟩ <;> omega
 obtain ⟨b', l, hp', _, hvl, rc, mc, d, fr, sd, n, h1, hsd, hr, hm, h5⟩ := hv.parts h4
 obtain rfl : b = b' := by rw [hp] at hp'; simpa using hp'
 have hY := part_at hvl i u
 have hB := at_bind ha hvl i u
 have hZ : rc.size = 4 ∧ mc.size = 6 := ⟨hr.size, hm.size⟩
 have hlen := vAtL_len hvl
 have hl6 := ha.len
 replace h1 := kW hb1 h1
 have cs : w1.cell? ⟨w.heap.size, 0, none⟩ = some (.int .i64 s) := cell_in hx1 rfl
 have HC := Lib.hid (And.intro (show w1.cell? ⟨w.heap.size, 1, none⟩ = some (.int .i64 i) from cell_in hx1 rfl) (And.intro (show w1.cell? ⟨w.heap.size, 2, none⟩ = some (.string u) from cell_in hx1 rfl) (And.intro (innC_rope hZ.1 h1) (innC_map hZ.1 hZ.2 h1))))
 obtain ⟨y, hy⟩ : ∃ y, y = ((atT a i u).bind fun j => l[j]?).getD zeroV := ⟨_, rfl⟩
 obtain ⟨is, his⟩ : ∃ is, is = (atT a i u).isSome := ⟨_, rfl⟩
 have HG : Hid (s = 0 → ∀ W, Below w1.heap.size w1 W → Calls Tryz.prog 88 #[.agg rc, .int .i64 i] W fun r W' => r = .returned (.tuple #[.agg (celC y), .bool is]) ∧ Below W.heap.size W W') := fun h0 W hW => by
  have h4' : a.k = 4 := by rcases fit_kind hs with ⟨_, h⟩ | ⟨h, _⟩ | ⟨h, _⟩ <;> omega
  have hr' : RootR S W rc l := by have := hr.later (tW hb1 hW); rw [itemE, if_pos h4'] at this; exact this
  have hat : atT a i u = if 0 ≤ i ∧ i < l.length then some i.toNat else none := by unfold atT; rw [if_pos h4', hlen]
  have := rp_Get W hr' i (by omega)
  have e1 : (if 0 ≤ i ∧ i < (l.length : Int) then l.getD i.toNat zeroV else zeroV) = y := by
   rw [hy, hat]
   split
   ·rw [Option.bind_some, List.getD_eq_getElem?_getD]
   ·rfl
  have e2 : decide (0 ≤ i ∧ i < (l.length : Int)) = is := by
   rw [his, hat]
   split
   ·rename_i h; rw [decide_eq_true h]; rfl
   ·rename_i h; rw [decide_eq_false h]; rfl
  rw [e1, e2] at this
  exact this
 have HGM : Hid (s ≠ 0 → ∀ W, Below w1.heap.size w1 W → Calls Tryz.prog 89 #[.agg mc, .string u] W fun r W' => r = .returned (.tuple #[.agg (celC y), .bool is]) ∧ Below W.heap.size W W') := fun h0 W hW => by
  have h56 : a.k = 5 ∨ a.k = 6 := by rcases fit_kind hs with ⟨h, _⟩ | ⟨_, h⟩ | ⟨_, h⟩ <;> omega
  obtain ⟨k1, k2, _⟩ := ha.mkeys h56
  have hl := zip_rise k2 (k1.trans hlen.symm)
  have := hm_Get W sd hsd n _ mc u hu (hm.later (tW hb1 hW)) hl (by rw [mapE, List.length_zip]; omega)
  rw [mapE, get_zip k2 (k1.trans hlen.symm), ← at_idx h56 i, ← hy, hB, ← his] at this
  exact this
 rw [← hy] at hY
 rw [← his]
 have HY := Lib.hid hY
 have HY1 := Lib.hid hy1
 have HB1 := Lib.hid hb1
 have HS1 := Lib.hid hs1
 have HZ := Lib.hid hZ
 by_cases h0 : s = 0
 ·replace HG := Lib.hid (HG.out h0)
  subst h0
  clear hs hx1 hy1 hb1 hs1 ha hv hp hp' hvl h1 hsd hr hm h5 hY hB hZ hlen hl6 hy his HGM h4 hu
  go_enter Tryz.func52, Tryz.ntmps52
  go_upto_region 1 with fail
  clear hw1
  go_upto_region 2 with fail
  clear cs
  have HKS : Hid (∀ V, Below w1.heap.size w1 V → V.cell? ⟨w.heap.size, 1, none⟩ = some (.int .i64 i) ∧ V.rangeAt b 0 rc.toList) := fun V hV => ⟨keep_cell HC.out.1 hV, keep_range HC.out.2.2.1 hV⟩
  have HW : Hid (Below w1.heap.size w1 w1.drew) := drawn_below w1
  refine wp_region_T (S := (fun V => V.cell? ⟨w.heap.size, 1, none⟩ = some (.int .i64 i) ∧ V.rangeAt b 0 rc.toList)) [9, 10] (by kernel_rfl) (by exact HKS.out _ HW.out) (fun hHeld => ?_)
  refine tkA 0 9 (h := ?_)
  refine tkA 1 10 (h := ?_)
  refine tkA 2 11 (h := ?_)
  refine tyA 3 12 (hy := yieldsIf_arr (by rfl) 112 _ rfl b 0 rfl rc _ (fun w hw => hw.2) Tryz.underlying112 rfl (by rw [HZ.out.1]; exact rope_size)) (h := ?_)
  refine tkA 4 13 (h := ?_)
  refine tkA 5 14 (h := ?_)
  (try simp only [pq])
  refine tkO 6 (some 15) (h := fun K hK => ?_)
  go_simp
  go_at_call 88
  (with_reducible refine (HG.out _ (by exact HW.out)).mono ?_)
  rintro r w3 ⟨rfl, hb⟩
  replace HW := Lib.hid (tW HW.out hb)
  clear hb
  dsimp only
  refine hK.out _ _ (by exact HKS.out _ HW.out) (fun hHeld => ?_)
  clear hK K
  (try simp only [pq])
  refine tkA 7 16 (h := ?_)
  refine tkA 8 17 (h := ?_)
  (try simp only [pq])
  refine tkU 9 none (h := fun K hK => ?_)
  refine st_agg_wp 35 _ _ rfl (w.heap.size + 1) (celC y) rfl rfl 35 _ ((HW.out.block _ (by have := HS1.out; omega)).trans HY1.out) val_size rfl (celC_one _) ?_
  intro w5 h5 k5
  refine hK.out _ _ ?_
  clear hK K
  (try simp only [pq])
  refine tkU 10 (some 5) (h := fun K hK => ?_)
  go_simp
  refine hK.out _ _ ?_
  clear hK K
  (try simp only [pq])
  refine wpAnyT_done (by kernel_rfl) ?_ _
  clear hHeld
  go_wp2_with fail
  exact bodyPost_ret (results_cell_row1 rfl _ _ (w.heap.size + 1) 35 _ (0, 0) _ rfl h5 Tryz.underlying35 rfl val_size) rfl ⟨y, rfl, HY.out.later ((tW HB1.out HW.out).trans (k5.below (by omega))), (tW HB1.out HW.out).trans (k5.below (by omega))⟩
 ·replace HG := Lib.hid (HGM.out h0)
  clear hs hx1 hy1 hb1 hs1 ha hv hp hp' hvl h1 hsd hr hm h5 hY hB hZ hlen hl6 hy his HGM h4 hu
  go_enter Tryz.func52, Tryz.ntmps52
  go_upto_region 1 with fail
  clear hw1
  go_upto_region 3 with fail
  clear cs
  have HKS : Hid (∀ V, Below w1.heap.size w1 V → V.cell? ⟨w.heap.size, 2, none⟩ = some (.string u) ∧ V.rangeAt b 4 mc.toList) := fun V hV => ⟨keep_cell HC.out.2.1 hV, keep_range HC.out.2.2.2 hV⟩
  have HW : Hid (Below w1.heap.size w1 w1.drew) := drawn_below w1
  refine wp_region_T (S := (fun V => V.cell? ⟨w.heap.size, 2, none⟩ = some (.string u) ∧ V.rangeAt b 4 mc.toList)) [9, 10] (by kernel_rfl) (by exact HKS.out _ HW.out) (fun hHeld => ?_)
  refine tkA 0 18 (h := ?_)
  refine tkA 1 19 (h := ?_)
  refine tkA 2 20 (h := ?_)
  refine tyA 3 21 (hy := yieldsIf_arr (by rfl) 121 _ rfl b 4 rfl mc _ (fun w hw => hw.2) Tryz.underlying121 rfl (by rw [HZ.out.2]; exact map_size)) (h := ?_)
  refine tkA 4 22 (h := ?_)
  refine tkA 5 23 (h := ?_)
  (try simp only [pq])
  refine tkO 6 (some 24) (h := fun K hK => ?_)
  go_simp
  go_at_call 89
  (with_reducible refine (HG.out _ (by exact HW.out)).mono ?_)
  rintro r w3 ⟨rfl, hb⟩
  replace HW := Lib.hid (tW HW.out hb)
  clear hb
  dsimp only
  refine hK.out _ _ (by exact HKS.out _ HW.out) (fun hHeld => ?_)
  clear hK K
  (try simp only [pq])
  refine tkA 7 25 (h := ?_)
  refine tkA 8 26 (h := ?_)
  (try simp only [pq])
  refine tkU 9 none (h := fun K hK => ?_)
  refine st_agg_wp 35 _ _ rfl (w.heap.size + 1) (celC y) rfl rfl 35 _ ((HW.out.block _ (by have := HS1.out; omega)).trans HY1.out) val_size rfl (celC_one _) ?_
  intro w5 h5 k5
  refine hK.out _ _ ?_
  clear hK K
  (try simp only [pq])
  refine tkU 10 (some 5) (h := fun K hK => ?_)
  go_simp
  refine hK.out _ _ ?_
  clear hK K
  (try simp only [pq])
  refine wpAnyT_done (by kernel_rfl) ?_ _
  clear hHeld
  go_wp2_with fail
  exact bodyPost_ret (results_cell_row1 rfl _ _ (w.heap.size + 1) 35 _ (0, 0) _ rfl h5 Tryz.underlying35 rfl val_size) rfl ⟨y, rfl, HY.out.later ((tW HB1.out HW.out).trans (k5.below (by omega))), (tW HB1.out HW.out).trans (k5.below (by omega))⟩
section
variable {P : Program} {md : Region.Mode} {ops : Array Oper} {Q : Exit → Act → World → Prop} {S : World → Prop} {U : List Nat}
theorem wpAnyT_firstP {i : Nat} {oi : Oper} {v : Value} (hi : ops[i]? = some oi) (hsel : ∀ (j : Nat) (o : Oper) cs b, ops[j]? = some o → o.op ≠ .select cs b)
  (hQ : ∀ c a w, Q (.panic c) (a.put oi.dst v) w → Q (.panic c) a w) (hU : U.contains i = true) :
  ∀ (fuel : Nat) (listed : Array Bool) (a : Act) (w : World),
   (∀ j oj, ops[j]? = some oj → j ≠ i → listed.getD j true = false → (∀ e ∈ oj.after, Region.binds md e = true → e.on ≠ i) → oi.apart ops oj = true) →
   i ∈ Region.ready md ops listed → YieldsIf P ops (fun _ => True) oi v a →
   wpAnyT P md ops Q S U fuel (listed.setIfInBounds i true) (a.put oi.dst v) w → wpAnyT P md ops Q S U (fuel + 1) listed a w := by
 intro fuel
 induction fuel with
 | zero =>
  intro listed a w _ hr hy H
  refine ⟨fun h => (by rw [h] at hr; cases hr), fun j hj => ?_⟩
  by_cases hji : j = i
  ·subst hji; exact hy.wpOp hi trivial ⟨fun h => (by rw [hU] at h; cases h), H⟩
  ·have := ready_mono hj hji
   rw [H.1] at this
   cases this
 | succ fuel ih =>
  intro listed a w hfree hr hy H
  refine ⟨fun h => (by rw [h] at hr; cases hr), fun j hj => ?_⟩
  by_cases hji : j = i
  ·subst hji; exact hy.wpOp hi trivial ⟨fun h => (by rw [hU] at h; cases h), H⟩
  ·have h1 := H.2 j (ready_mono hj hji)
   obtain ⟨hjun, oj, hoj, hall⟩ := mem_ready.1 hj
   have hifalse : listed.getD i false = false := by
    have h0 := (mem_ready.1 hr).1
    rcases Nat.lt_or_ge i listed.size with h' | h'
    ·simp [h'] at h0 ⊢; exact h0
    ·simp [Array.getElem?_eq_none h']
   have hnot : ∀ e ∈ oj.after, Region.binds md e = true → e.on ≠ i := fun e he hb heq => by
    have h1 := hall e he hb
    rw [heq, hifalse] at h1
    cases h1
   have h2 := wpOp_putIf hoj (hfree j oj hoj hji hjun hnot) (fun cs b => hsel i oi cs b hi) (fun cs b => hsel j oj cs b hoj) hQ hy h1
   have hfree' : ∀ k ok, ops[k]? = some ok → k ≠ i → (listed.setIfInBounds j true).getD k true = false →
     (∀ e ∈ ok.after, Region.binds md e = true → e.on ≠ i) → oi.apart ops ok = true := fun k ok hk hki hun hno => by
    refine hfree k ok hk hki ?_ hno
    by_cases hjk : j = k
    ·subst hjk; exact hjun
    ·rw [getD_set_ne true hjk] at hun; exact hun
   refine wpOp_mono (fun a' w' h3 => ⟨fun hc => h3.2.1 hc, ih (listed.setIfInBounds j true) a' w' hfree' (ready_mono hr (Ne.symm hji)) h3.1 ?_⟩) h2
   rw [Array.setIfInBounds_comm _ _ hji]
   exact h3.2.2
theorem wpAnyT_firstL {i : Nat} {oi : Oper} {v : Value} (hi : ops[i]? = some oi) (hsel : ∀ (j : Nat) (o : Oper) cs b, ops[j]? = some o → o.op ≠ .select cs b)
  (hQ : ∀ c a w, Q (.panic c) (a.put oi.dst v) w → Q (.panic c) a w) :
  ∀ (fuel : Nat) (listed : Array Bool) (a : Act) (w : World),
   (∀ j oj, ops[j]? = some oj → j ≠ i → listed.getD j true = false → (∀ e ∈ oj.after, Region.binds md e = true → e.on ≠ i) → oi.apart ops oj = true) →
   Closed md ops listed → (∀ j, U.contains j = true → listed.getD j false = true ∨ waitsFor md ops [j] i = true) → i ∈ Region.ready md ops listed → YieldsIf P ops S oi v a → S w →
   wpAnyT P md ops Q S U fuel (listed.setIfInBounds i true) (a.put oi.dst v) w → wpAnyT P md ops Q S U (fuel + 1) listed a w := by
 intro fuel
 induction fuel with
 | zero =>
  intro listed a w _ _ _ hr hy hS H
  refine ⟨fun h => (by rw [h] at hr; cases hr), fun j hj => ?_⟩
  by_cases hji : j = i
  ·subst hji; exact hy.wpOp hi hS ⟨fun _ => hS, H⟩
  ·have := ready_mono hj hji
   rw [H.1] at this
   cases this
 | succ fuel ih =>
  intro listed a w hfree hcl hw hr hy hS H
  refine ⟨fun h => (by rw [h] at hr; cases hr), fun j hj => ?_⟩
  by_cases hji : j = i
  ·subst hji; exact hy.wpOp hi hS ⟨fun _ => hS, H⟩
  ·have h1 := H.2 j (ready_mono hj hji)
   obtain ⟨hjun, oj, hoj, hall⟩ := mem_ready.1 hj
   have hifalse : listed.getD i false = false := by
    have h0 := (mem_ready.1 hr).1
    rcases Nat.lt_or_ge i listed.size with h' | h'
    ·simp [h'] at h0 ⊢; exact h0
    ·simp [Array.getElem?_eq_none h']
   have hjfalse : listed.getD j false = false := by
    rcases Nat.lt_or_ge j listed.size with h' | h'
    ·simp [h'] at hjun ⊢; exact hjun
    ·simp [Array.getElem?_eq_none h']
   have hnot : ∀ e ∈ oj.after, Region.binds md e = true → e.on ≠ i := fun e he hb heq => by
    have h1 := hall e he hb
    rw [heq, hifalse] at h1
    cases h1
   have hnU : U.contains j = false := by
    cases hc : U.contains j with
    | false => rfl
    | true =>
     rcases hw j hc with h | h
     ·rw [hjfalse] at h; cases h
     ·exact (waits_ready h hcl hifalse (by simp) hj).elim
   have h2 := wpOp_putIf hoj (hfree j oj hoj hji hjun hnot) (fun cs b => hsel i oi cs b hi) (fun cs b => hsel j oj cs b hoj) hQ hy h1
   have hfree' : ∀ k ok, ops[k]? = some ok → k ≠ i → (listed.setIfInBounds j true).getD k true = false →
     (∀ e ∈ ok.after, Region.binds md e = true → e.on ≠ i) → oi.apart ops ok = true := fun k ok hk hki hun hno => by
    refine hfree k ok hk hki ?_ hno
    by_cases hjk : j = k
    ·subst hjk; exact hjun
    ·rw [getD_set_ne true hjk] at hun; exact hun
   refine wpOp_mono (fun a' w' h3 => ⟨fun hc => h3.2.1 hc, ih (listed.setIfInBounds j true) a' w' hfree' (closed_set hcl hj) (fun k hk => (hw k hk).imp_left getD_set_true) (ready_mono hr (Ne.symm hji)) h3.1 (h3.2.1 hnU) ?_⟩) h2
   rw [Array.setIfInBounds_comm _ _ hji]
   exact h3.2.2
def lateOk (md : Region.Mode) (ops : Array Oper) (listed : Array Bool) (U : List Nat) (i : Nat) : Bool := U.all fun j => listed.getD j false || waitsFor md ops [j] i
theorem wpAnyT_takeL {i : Nat} {oi : Oper} {v : Value} {fuel : Nat} {listed : Array Bool} {a : Act} {w : World} (hi : ops[i]? = some oi)
  (hs : Region.noSelect ops = true) (hf : Region.free md ops listed i = true) (hr : (Region.ready md ops listed).contains i = true) (hw : (lateOk md ops listed U i && closedB md ops listed) = true)
  (hQ : ∀ c a w, Q (.panic c) (a.put oi.dst v) w → Q (.panic c) a w) (hy : YieldsIf P ops S oi v a) (hS : S w)
  (h : wpAnyT P md ops Q S U fuel (listed.setIfInBounds i true) (a.put oi.dst v) w) : wpAnyT P md ops Q S U (fuel + 1) listed a w :=
 wpAnyT_firstL hi (Region.noSelect_spec hs) hQ fuel listed a w (Region.free_spec hi hf) (closed_of (Bool.and_eq_true_iff.1 hw).2) (fun j hj => by
  have h1 := (Bool.and_eq_true_iff.1 hw).1
  unfold lateOk at h1
  rw [List.all_eq_true] at h1
  have h2 := h1 j (by simpa using hj)
  rwa [Bool.or_eq_true] at h2) (by simpa using hr) hy hS h
theorem tkL (i d : Nat) {x1 x2 x3 x4 x5 : _} {v : Value} {fuel : Nat} {listed : Array Bool} {a : Act} {w : World} (hi : ops[i]? = some ⟨some d, x1, x2, x3, x4, x5⟩ := by rfl) (hq : (Region.noSelect ops && Region.free md ops listed i && (Region.ready md ops listed).contains i && (lateOk md ops listed U i && closedB md ops listed)) = true := by kernel_rfl) (hQ : ∀ c a w, Q (.panic c) (a.put (some d) v) w → Q (.panic c) a w := by exact fun _ _ _ h => h) (hg : Region.wanted ⟨some d, x1, x2, x3, x4, x5⟩ (yielded ops a.tmps) = true := by rfl) (hv : ∀ w, S w → (execOp a.eval ⟨some d, x1, x2, x3, x4, x5⟩).run P w = .ok (.value v) w := by (intro w hSw; (try dsimp only at hSw); first | (go_simp; done) | (go_simp; with_reducible rfl))) (hS : S w := by assumption) (h : wpAnyT P md ops Q S U fuel (listed.setIfInBounds i true) (a.put (some d) v) w) : wpAnyT P md ops Q S U (fuel + 1) listed a w :=
 have h1 := Bool.and_eq_true_iff.1 hq
 have h2 := Bool.and_eq_true_iff.1 h1.1
 have h3 := Bool.and_eq_true_iff.1 h2.1
 wpAnyT_takeL hi h3.1 h3.2 h2.2 h1.2 hQ (Or.inl ⟨hg, hv⟩) hS h
theorem tyL (i d : Nat) {x1 x2 x3 x4 x5 : _} {v : Value} {fuel : Nat} {listed : Array Bool} {a : Act} {w : World} (hi : ops[i]? = some ⟨some d, x1, x2, x3, x4, x5⟩ := by rfl) (hq : (Region.noSelect ops && Region.free md ops listed i && (Region.ready md ops listed).contains i && (lateOk md ops listed U i && closedB md ops listed)) = true := by kernel_rfl) (hQ : ∀ c a w, Q (.panic c) (a.put (some d) v) w → Q (.panic c) a w := by exact fun _ _ _ h => h) (hy : YieldsIf P ops S ⟨some d, x1, x2, x3, x4, x5⟩ v a) (hS : S w := by assumption) (h : wpAnyT P md ops Q S U fuel (listed.setIfInBounds i true) (a.put (some d) v) w) : wpAnyT P md ops Q S U (fuel + 1) listed a w :=
 have h1 := Bool.and_eq_true_iff.1 hq
 have h2 := Bool.and_eq_true_iff.1 h1.1
 have h3 := Bool.and_eq_true_iff.1 h2.1
 wpAnyT_takeL hi h3.1 h3.2 h2.2 h1.2 hQ hy hS h
theorem wpAnyT_takeP {i : Nat} {oi : Oper} {v : Value} {fuel : Nat} {listed : Array Bool} {a : Act} {w : World} (hi : ops[i]? = some oi)
  (hs : Region.noSelect ops = true) (hf : Region.free md ops listed i = true) (hr : (Region.ready md ops listed).contains i = true) (hU : U.contains i = true)
  (hQ : ∀ c a w, Q (.panic c) (a.put oi.dst v) w → Q (.panic c) a w) (hy : YieldsIf P ops (fun _ => True) oi v a)
  (h : wpAnyT P md ops Q S U fuel (listed.setIfInBounds i true) (a.put oi.dst v) w) : wpAnyT P md ops Q S U (fuel + 1) listed a w :=
 wpAnyT_firstP hi (Region.noSelect_spec hs) hQ hU fuel listed a w (Region.free_spec hi hf) (by simpa using hr) hy h
theorem tkP (i d : Nat) {x1 x2 x3 x4 x5 : _} {v : Value} {fuel : Nat} {listed : Array Bool} {a : Act} {w : World} (hi : ops[i]? = some ⟨some d, x1, x2, x3, x4, x5⟩ := by rfl) (hq : (Region.noSelect ops && Region.free md ops listed i && (Region.ready md ops listed).contains i && U.contains i) = true := by kernel_rfl) (hQ : ∀ c a w, Q (.panic c) (a.put (some d) v) w → Q (.panic c) a w := by exact fun _ _ _ h => h) (hg : Region.wanted ⟨some d, x1, x2, x3, x4, x5⟩ (yielded ops a.tmps) = true := by rfl) (hv : ∀ w, (fun _ => True) w → (execOp a.eval ⟨some d, x1, x2, x3, x4, x5⟩).run P w = .ok (.value v) w := by (intro w _; first | (go_simp; done) | (go_simp; with_reducible rfl))) (h : wpAnyT P md ops Q S U fuel (listed.setIfInBounds i true) (a.put (some d) v) w) : wpAnyT P md ops Q S U (fuel + 1) listed a w :=
 have h1 := Bool.and_eq_true_iff.1 hq
 have h2 := Bool.and_eq_true_iff.1 h1.1
 have h3 := Bool.and_eq_true_iff.1 h2.1
 wpAnyT_takeP hi h3.1 h3.2 h2.2 h1.2 hQ (Or.inl ⟨hg, hv⟩) h
end
theorem st_mid_wp {o : Oper} {a : Act} {w : World} {K : Act → World → Prop} {Q : Exit → Act → World → Prop} (ty : TypeId) (x y : Operand) (ho : o.op = .store ty x y)
  (X k : Nat) (c' : Array Value) (hx : a.eval x = .pointer (some ⟨X, k, none⟩)) (hy : a.eval y = .agg c') (T : TypeId) (c : Array Value) (hB : w.heap[X]? = some (.cells c T (0, 0)))
  (hi : (Tryz.prog.info? ty).map (·.size) = some c'.size) (hk : k + c'.size ≤ c.size) (h1 : c'.all (·.oneCell') = true) (d : Array Value) (hd : (c.toList.take k ++ c'.toList ++ c.toList.drop (k + c'.size)).toArray = d)
  (h : ∀ w', w'.heap[X]? = some (.cells d T (0, 0)) → Only X w w' → K (a.put o.dst undef) w') : o.wp Tryz.prog a w K Q := by
 have := run_storeCells_at (P := Tryz.prog) X k T c'.toList 0 c w hB (by simpa using hk) (fun v hv => (Array.all_eq_true_iff_forall_mem.1 h1) v (by simpa using hv))
 simp only [Nat.add_zero, Array.length_toList, hd] at this
 have hrun : (storeVar ty ⟨X, k, none⟩ (.agg c')).run Tryz.prog w = .ok () (w.setRow X d) := by
  cases hq : Tryz.prog.info? ty with
  | none => simp [hq] at hi
  | some i =>
   have hs : c'.size = i.size := by simp [hq] at hi; omega
   simp [storeVar, sizeOf, typeInfo, hq, Value.cells, hs, this]
 unfold Oper.wp execOp
 simp only [ho, hx, hy, Instr.storeAt, Instr.sureAddr, Sem.run_bind, Sem.run_pure, Result.andThen_ok, hrun]
 exact h _ (setRow_heap w X _ _ _ _ hB) (only_setRow _ _ _)
end Go.Proofs.YtpodmgihlomglaaGreatDoor
