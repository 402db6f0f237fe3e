/- Layer 8's law RopeBack, over package rope as it landed. (written by tools/gen08/back8.py) -/
import Derived.Test.YtldemoflgahdgaaLaw08All
namespace Go.Proofs.Ytldemoflgahdgaa
open Go.RowKit
set_option maxRecDepth 1000000
set_option linter.unusedSimpArgs false

theorem remL_insL {l : List Int} {k : Nat} {x : Int} (h : k ≤ l.length) : remL (insL l k x) k = l := by
  unfold remL insL
  have h1 : (l.take k).length = k := by rw [List.length_take]; omega
  rw [List.take_append_of_le_length (by omega), List.take_of_length_le (by omega), List.drop_append, List.drop_of_length_le (by omega), h1, List.nil_append, show k + 1 - k = 1 by omega, List.drop_succ_cons, List.drop_zero, List.take_append_drop]
theorem insL_remL {l : List Int} {k : Nat} (h : k < l.length) : insL (remL l k) k (l.getD k 0) = l := by
  unfold remL insL
  have h1 : (l.take k).length = k := by rw [List.length_take]; omega
  rw [List.take_append_of_le_length (by omega), List.take_of_length_le (by omega), List.drop_append, List.drop_of_length_le (by omega), h1, List.nil_append, Nat.sub_self, List.drop_zero, List.getD_eq_getElem?_getD, List.getElem?_eq_getElem h, Option.getD_some, ← List.drop_eq_getElem_cons h, List.take_append_drop]
theorem insL_at {l : List Int} {k : Nat} {x : Int} (h : k ≤ l.length) : (insL l k x).getD k 0 = x := by
  unfold insL
  have h1 : (l.take k).length = k := by rw [List.length_take]; omega
  rw [List.getD_eq_getElem?_getD, List.getElem?_append_right (by omega), h1, Nat.sub_self]
  rfl
theorem remL_len {l : List Int} {k : Nat} (h : k < l.length) : (remL l k).length = l.length - 1 := by
  unfold remL
  rw [List.length_append, List.length_take, List.length_drop]
  omega
theorem get_l (V : World) {c : Array Value} {l : List Int} (h : RL V c l) (k : Nat) (y : Int) (q : Bool) (hN : l.length ≤ 50000) (hy : getF (fun j => l.getD j 0) l.length (k : Int) = (y, q)) :
    Calls Try.prog 11 #[.agg c, .int .i64 (k : Int)] V fun e V' => e = .returned (.tuple #[.int .i64 y, .bool q]) ∧ Below V.heap.size V V' := by
  have h' := rp_Get V h (k : Int) (by omega)
  rw [hy] at h'
  exact h'
theorem ins_l (V : World) {c : Array Value} {l l' : List Int} (h : RL V c l) (k : Nat) (x : Int) (hk : k ≤ l.length) (hN : l.length ≤ 50000) (he : insL l k x = l') :
    Calls Try.prog 24 #[.agg c, .int .i64 (k : Int), .int .i64 x] V fun e V' => ∃ c', e = .returned (.tuple #[.agg c', .int .i64 0]) ∧ RL V' c' l' ∧ Below V.heap.size V V' := by
  subst he
  exact (rp_Insert V h k x hk hN).mono fun _ _ ⟨c', e, hr, hb⟩ => ⟨c', e, hr.rl, hb⟩
theorem rem_l (V : World) {c : Array Value} {l l' : List Int} (h : RL V c l) (k : Nat) (hk : k < l.length) (hN : l.length ≤ 50000) (he : remL l k = l') :
    Calls Try.prog 25 #[.agg c, .int .i64 (k : Int)] V fun e V' => ∃ c', e = .returned (.tuple #[.agg c', .int .i64 0]) ∧ RL V' c' l' ∧ Below V.heap.size V V' := by
  subst he
  exact (rp_Remove V h k hk hN).mono fun _ _ ⟨c', e, hr, hb⟩ => ⟨c', e, hr.rl, hb⟩
set_option maxHeartbeats 8000000 in
theorem ropeBack_of (v : Value) (l : List Op8) (I0 x0 : Int) (w : World) (hl : Ops8 w v l) (hin : ∀ o ∈ l, InR o.2.1 ∧ InR o.2.2.1) : Calls Try.prog 7 #[v, .int .i64 I0, .int .i64 x0] w fun e w' => e = .returned (.bool true) ∧ Below w.heap.size w w' := by
  have HB := Lib.hid (Below.refl w.heap.size w)
  have HFEW := Lib.hid (fun W (h : Below w.heap.size w W) => few8 v l W (hl.later h))
  have HALL := Lib.hid (fun W (h : Below w.heap.size w W) (hf : few8B l = true) => all8 v l W (hl.later h) hin hf)
  obtain ⟨ad, cap, bb, oo, rfl, _⟩ := hl
  by_cases hf : few8B l = true
  case neg =>
    rw [show few8B l = false by simpa using hf] at HFEW
    clear hf HALL hin
    go_enter Try.func7, Try.ntmps7
    go_wp2_with (first
      | (go_at_call 8; (with_reducible refine (live8 _).mono ?_); rintro e w1 ⟨rfl, hb⟩; replace HB := Lib.hid (HB.out.trans (hb.mono HB.out.size)); clear hb)
      | (go_at_call 9; (with_reducible refine (HFEW.out _ HB.out).mono ?_); rintro e w1 ⟨rfl, hb⟩; replace HB := Lib.hid (HB.out.trans (hb.mono HB.out.size)); clear hb))
    go_ret
    exact ⟨rfl, HB.out⟩
  have HF := Lib.hid hf
  rw [hf] at HFEW
  clear hf hin
  go_enter Try.func7, Try.ntmps7
  go_upto_region 6 with (first
    | (go_at_call 8; (with_reducible refine (live8 _).mono ?_); rintro e w1 ⟨rfl, hb⟩; replace HB := Lib.hid (HB.out.trans (hb.mono HB.out.size)); clear hb)
    | (go_at_call 9; (with_reducible refine (HFEW.out _ HB.out).mono ?_); rintro e w1 ⟨rfl, hb⟩; replace HB := Lib.hid (HB.out.trans (hb.mono HB.out.size)); clear hb)
    | (go_at_call 10; (with_reducible refine (HALL.out _ HB.out HF.out).mono ?_); rintro e w2 ⟨vs, ls, rfl, ts, hr, hs, ha, hsh, hb⟩; have HR4 := Lib.hid hr; have HS4 := Lib.hid hs; have HA4 := Lib.hid ha; have HSH := Lib.hid hsh; replace HB := Lib.hid (HB.out.trans (hb.mono HB.out.size)); clear hr hs ha hsh hb))
  have HNr : Hid (ts.map (·.1) ≠ []) := fun h => by have h1 := congrArg List.length h; have := HSH.out.1; rw [List.length_map, List.length_nil] at h1; omega
  have HNs : Hid (ts.map (fun t => #[t.2.1]) ≠ []) := fun h => by have h1 := congrArg List.length h; have := HSH.out.1; rw [List.length_map, List.length_nil] at h1; omega
  obtain ⟨gr, cpr, _, _, hvr, _, _, _⟩ := HR4.out.at_ HNr.out
  rw [List.length_map] at hvr
  subst hvr
  obtain ⟨gs, cps, _, _, hvs, _, _, _⟩ := HS4.out.at_ HNs.out
  rw [List.length_map] at hvs
  subst hvs
  have hts41 : (ts.length : Int) ≤ 41 := by have := HSH.out.2.1; omega
  obtain ⟨i, hi⟩ : ∃ i, i + 1 = ts.length := ⟨ts.length - 1, by have := HSH.out.1; omega⟩
  have hlt : i < ts.length := by omega
  have hk1 : (ts.length : Int) - 1 = (i : Int) := by omega
  have hlt' : (i : Int) < (ts.length : Int) := by omega
  have i0 : (0 : Int) ≤ (i : Int) := by omega
  have hti : ts[i]? = some ts[i] := List.getElem?_eq_getElem hlt
  have HAI := Lib.hid (HA4.out ts[i] (List.getElem_mem hlt))
  have HLI := Lib.hid (HSH.out.2.2 ts[i] (List.getElem_mem hlt))
  have HRI := Lib.hid (HR4.out.read (i := i) (c := ts[i].1) rfl (by rw [List.getElem?_map, hti]; rfl))
  have HSI := Lib.hid (HS4.out.read (i := i) (c := #[ts[i].2.1]) rfl (by rw [List.getElem?_map, hti]; rfl))
  obtain ⟨⟨ci, vi, li⟩, hx⟩ : ∃ x, x = ts[i] := ⟨_, rfl⟩
  rw [← hx] at HAI HRI HSI HLI
  simp only at HAI HRI HSI HLI
  have HSZi := Lib.hid (RL.size HAI.out.1)
  obtain ⟨ai, cpi, rfl, _⟩ := HAI.out.2.shape
  have hcell : w2.cell? ⟨gs, i, none⟩ = some (.slice ai li.length cpi) := by
    have h := HSI.out 0 (.slice ai li.length cpi) rfl
    simpa using h
  have HCI := Lib.hid hcell
  clear hti hx hcell
  have HV := Lib.hid HAI.out.1
  obtain ⟨N, hN⟩ : ∃ N, N = li.length := ⟨_, rfl⟩
  have HN := Lib.hid hN
  have hN3 : (N : Int) ≤ 3040 := by have := HLI.out; omega
  have HN3 := Lib.hid hN3
  obtain ⟨X, hX⟩ : ∃ X, X = w2.heap.size := ⟨_, rfl⟩
  have HXX := Lib.hid hX
  clear hi hlt hN hX
  go_upto_region 7 with (first
    | (refine ld_arr rfl _ rfl gr (i * 4) rfl ci HSZi.out HRI.out ?_)
    | (refine st_agg rfl 35 _ _ rfl w2.heap.size ci rfl rfl 35 #[.int .i64 0, .int .i64 0, .slice none 0 0, .slice none 0 0] (heap_alloc_last w2 _) (by rw [RL.size HV.out]; exact rope_size) (by rw [RL.size HV.out]; rfl) (RL.one HV.out) ?_; intro w4 hw4 kw4; have hb := (Below.newly' w2 (.cells #[.int .i64 0, .int .i64 0, .slice none 0 0, .slice none 0 0] 35)).trans (kw4.below (Nat.le_refl _)); replace HV := Lib.hid (RL.later HV.out hb); replace HB := Lib.hid (HB.out.trans (hb.mono HB.out.size)); have HX := Lib.hid hw4; clear hb hw4 kw4))
  rw [← HXX.out] at HX ⊢
  have HLNr := Lib.hid (fun V (h : RL V ci li) => len_l V h HN.out.symm)
  have HLNz := Lib.hid (fun V => len_l V (RL.zero V) (n := 0) rfl)
  clear HA4 HR4 HS4 HAI HRI HSI HCI
  by_cases hin0 : 0 ≤ I0 ∧ I0 ≤ (li.length : Int)
  case neg =>
    have HINS := Lib.hid (fun V (h : RL V ci li) => rp_Insert_out V h I0 x0 hin0)
    by_cases hneg : I0 < 0
    · as_aux_lemma =>
      clear hin0
      go_wp2_with (first
        | (refine ld_if (by rfl) 35 _ rfl X rfl 35 _ _ _ HX.out Try.underlying35 rfl (by rw [RL.size HV.out]; exact rope_size) ?_)
        | (go_at_call 24; (with_reducible refine (HINS.out _ HV.out).mono ?_); rintro e w5 ⟨rfl, hb⟩; replace HX := Lib.hid (hx_later HX.out hb); replace HV := Lib.hid (RL.later HV.out hb); replace HB := Lib.hid (HB.out.trans (hb.mono HB.out.size)); have HZ := Lib.hid (RL.zero w5); clear hb)
        | (refine st_agg rfl 35 _ _ rfl w5.heap.size zeroR rfl rfl 35 #[.int .i64 0, .int .i64 0, .slice none 0 0, .slice none 0 0] (heap_alloc_last w5 _) (by rw [RL.size HZ.out]; exact rope_size) (by rw [RL.size HZ.out]; rfl) (RL.one HZ.out) ?_; intro w6 hw6 kw6; have hb := (Below.newly' w5 (.cells #[.int .i64 0, .int .i64 0, .slice none 0 0, .slice none 0 0] 35)).trans (kw6.below (Nat.le_refl _)); replace HX := Lib.hid (hx_later HX.out hb); replace HV := Lib.hid (RL.later HV.out hb); replace HZ := Lib.hid (RL.later HZ.out hb); replace HB := Lib.hid (HB.out.trans (hb.mono HB.out.size)); have HY := Lib.hid hw6; clear hb hw6 kw6)
        | (refine ld_if (by rfl) 35 _ rfl w5.heap.size rfl 35 _ _ _ HY.out Try.underlying35 rfl (by rw [RL.size HZ.out]; exact rope_size) ?_)
        | (go_at_call 21; (with_reducible refine (HLNr.out _ HV.out).mono ?_); rintro e w9 ⟨rfl, hb⟩; replace HX := Lib.hid (hx_later HX.out hb); replace HY := Lib.hid (hx_later HY.out hb); replace HV := Lib.hid (RL.later HV.out hb); replace HB := Lib.hid (HB.out.trans (hb.mono HB.out.size)); clear hb)
        | (go_at_call 21; (with_reducible refine (HLNz.out _).mono ?_); rintro e w9 ⟨rfl, hb⟩; replace HX := Lib.hid (hx_later HX.out hb); replace HY := Lib.hid (hx_later HY.out hb); replace HV := Lib.hid (RL.later HV.out hb); replace HB := Lib.hid (HB.out.trans (hb.mono HB.out.size)); clear hb))
      go_ret
      exact ⟨rfl, HB.out⟩
    · as_aux_lemma =>
      have hgt : (N : Int) < I0 := by have := HN.out; omega
      have hd1 : decide (I0 < 0) = false := decide_eq_false hneg
      clear hin0 hneg
      go_wp2_with (first
        | (refine ld_if (by rfl) 35 _ rfl X rfl 35 _ _ _ HX.out Try.underlying35 rfl (by rw [RL.size HV.out]; exact rope_size) ?_)
        | (go_at_call 24; (with_reducible refine (HINS.out _ HV.out).mono ?_); rintro e w5 ⟨rfl, hb⟩; replace HX := Lib.hid (hx_later HX.out hb); replace HV := Lib.hid (RL.later HV.out hb); replace HB := Lib.hid (HB.out.trans (hb.mono HB.out.size)); have HZ := Lib.hid (RL.zero w5); clear hb)
        | (refine st_agg rfl 35 _ _ rfl w5.heap.size zeroR rfl rfl 35 #[.int .i64 0, .int .i64 0, .slice none 0 0, .slice none 0 0] (heap_alloc_last w5 _) (by rw [RL.size HZ.out]; exact rope_size) (by rw [RL.size HZ.out]; rfl) (RL.one HZ.out) ?_; intro w6 hw6 kw6; have hb := (Below.newly' w5 (.cells #[.int .i64 0, .int .i64 0, .slice none 0 0, .slice none 0 0] 35)).trans (kw6.below (Nat.le_refl _)); replace HX := Lib.hid (hx_later HX.out hb); replace HV := Lib.hid (RL.later HV.out hb); replace HZ := Lib.hid (RL.later HZ.out hb); replace HB := Lib.hid (HB.out.trans (hb.mono HB.out.size)); have HY := Lib.hid hw6; clear hb hw6 kw6)
        | (refine ld_if (by rfl) 35 _ rfl w5.heap.size rfl 35 _ _ _ HY.out Try.underlying35 rfl (by rw [RL.size HZ.out]; exact rope_size) ?_)
        | (go_at_call 21; (with_reducible refine (HLNr.out _ HV.out).mono ?_); rintro e w9 ⟨rfl, hb⟩; replace HX := Lib.hid (hx_later HX.out hb); replace HY := Lib.hid (hx_later HY.out hb); replace HV := Lib.hid (RL.later HV.out hb); replace HB := Lib.hid (HB.out.trans (hb.mono HB.out.size)); clear hb)
        | (go_at_call 21; (with_reducible refine (HLNz.out _).mono ?_); rintro e w9 ⟨rfl, hb⟩; replace HX := Lib.hid (hx_later HX.out hb); replace HY := Lib.hid (hx_later HY.out hb); replace HV := Lib.hid (RL.later HV.out hb); replace HB := Lib.hid (HB.out.trans (hb.mono HB.out.size)); clear hb))
      go_ret
      exact ⟨rfl, HB.out⟩
  obtain ⟨k, rfl⟩ : ∃ k : Nat, I0 = (k : Int) := ⟨I0.toNat, by omega⟩
  obtain ⟨L1, hL1⟩ : ∃ L1, L1 = insL li k x0 := ⟨_, rfl⟩
  have hk : k ≤ N := by have := HN.out; omega
  have hlen1 : L1.length = N + 1 := by rw [hL1, insL_len, HN.out]
  obtain ⟨N1, hN1⟩ : ∃ N1, N1 = N + 1 := ⟨_, rfl⟩
  have HLEN1 : Hid (L1.length = N1) := by show _ = _; rw [hlen1, hN1]
  have haw : IntKind.i64.wrap ((N : Int) + 1) = (N1 : Int) := by rw [IntKind.wrap_i64]; omega
  have HINS := Lib.hid (fun V (h : RL V ci li) => ins_l V h k x0 (by have := HN.out; omega) (by have := HN.out; omega) hL1.symm)
  have HGETs := Lib.hid (fun V cs (h : RL V cs L1) => get_l V h k x0 true (by rw [hlen1]; omega) (by rw [getF, if_pos (by rw [hlen1]; omega), Int.toNat_natCast, hL1, insL_at (by have := HN.out; omega)]))
  have HREMs := Lib.hid (fun V cs (h : RL V cs L1) => rem_l V h k (by omega) (by omega) (l' := li) (by rw [hL1]; exact remL_insL (by have := HN.out; omega)))
  have HK := Lib.hid hk
  clear hin0 hL1 hk hlen1 hN1
  go_upto_region 12 with (first
    | (refine ld_if (by rfl) 35 _ rfl X rfl 35 _ _ _ HX.out Try.underlying35 rfl (by rw [RL.size HV.out]; exact rope_size) ?_)
    | (go_at_call 24; (with_reducible refine (HINS.out _ HV.out).mono ?_); rintro e w5 ⟨cs, rfl, hr, hb⟩; replace HX := Lib.hid (hx_later HX.out hb); replace HV := Lib.hid (RL.later HV.out hb); replace HB := Lib.hid (HB.out.trans (hb.mono HB.out.size)); have HS := Lib.hid hr; clear hr; clear hb)
    | (refine st_agg rfl 35 _ _ rfl w5.heap.size cs rfl rfl 35 #[.int .i64 0, .int .i64 0, .slice none 0 0, .slice none 0 0] (heap_alloc_last w5 _) (by rw [RL.size HS.out]; exact rope_size) (by rw [RL.size HS.out]; rfl) (RL.one HS.out) ?_; intro w6 hw6 kw6; have hb := (Below.newly' w5 (.cells #[.int .i64 0, .int .i64 0, .slice none 0 0, .slice none 0 0] 35)).trans (kw6.below (Nat.le_refl _)); replace HX := Lib.hid (hx_later HX.out hb); replace HV := Lib.hid (RL.later HV.out hb); replace HS := Lib.hid (RL.later HS.out hb); replace HB := Lib.hid (HB.out.trans (hb.mono HB.out.size)); have HY := Lib.hid hw6; clear hb hw6 kw6)
    | (refine ld_if (by rfl) 35 _ rfl w5.heap.size rfl 35 _ _ _ HY.out Try.underlying35 rfl (by rw [RL.size HS.out]; exact rope_size) ?_)
    | (go_at_call 11; (with_reducible refine (HGETs.out _ _ HS.out).mono ?_); rintro e w7 ⟨rfl, hb⟩; replace HX := Lib.hid (hx_later HX.out hb); replace HY := Lib.hid (hx_later HY.out hb); replace HV := Lib.hid (RL.later HV.out hb); replace HS := Lib.hid (RL.later HS.out hb); replace HB := Lib.hid (HB.out.trans (hb.mono HB.out.size)); clear hb)
    | (go_at_call 25; (with_reducible refine (HREMs.out _ _ HS.out).mono ?_); rintro e w8 ⟨ct, rfl, hr, hb⟩; replace HX := Lib.hid (hx_later HX.out hb); replace HY := Lib.hid (hx_later HY.out hb); replace HV := Lib.hid (RL.later HV.out hb); replace HS := Lib.hid (RL.later HS.out hb); replace HB := Lib.hid (HB.out.trans (hb.mono HB.out.size)); have HT := Lib.hid hr; clear hr; clear hb)
    | (refine st_agg rfl 35 _ _ rfl w8.heap.size ct rfl rfl 35 #[.int .i64 0, .int .i64 0, .slice none 0 0, .slice none 0 0] (heap_alloc_last w8 _) (by rw [RL.size HT.out]; exact rope_size) (by rw [RL.size HT.out]; rfl) (RL.one HT.out) ?_; intro wt hwt kwt; have hb := (Below.newly' w8 (.cells #[.int .i64 0, .int .i64 0, .slice none 0 0, .slice none 0 0] 35)).trans (kwt.below (Nat.le_refl _)); replace HX := Lib.hid (hx_later HX.out hb); replace HY := Lib.hid (hx_later HY.out hb); replace HV := Lib.hid (RL.later HV.out hb); replace HS := Lib.hid (RL.later HS.out hb); replace HT := Lib.hid (RL.later HT.out hb); replace HB := Lib.hid (HB.out.trans (hb.mono HB.out.size)); have HZ := Lib.hid hwt; clear hb hwt kwt))
  obtain ⟨Y, hY⟩ : ∃ Y, Y = w5.heap.size := ⟨_, rfl⟩
  obtain ⟨Z, hZ⟩ : ∃ Z, Z = w8.heap.size := ⟨_, rfl⟩
  rw [← hY, ← hZ]
  rw [← hY] at HY
  rw [← hZ] at HZ
  have hb := drawn_below wt
  replace HX := Lib.hid (hx_later HX.out hb)
  replace HY := Lib.hid (hx_later HY.out hb)
  replace HZ := Lib.hid (hx_later HZ.out hb)
  replace HV := Lib.hid (RL.later HV.out hb)
  replace HS := Lib.hid (RL.later HS.out hb)
  replace HT := Lib.hid (RL.later HT.out hb)
  replace HB := Lib.hid (HB.out.trans (hb.mono HB.out.size))
  clear hb hY hZ HINS HGETs HREMs
  refine wp_region_T (S := fun V => V.heap[X]? = some (.cells ci 35 (0, 0)) ∧ V.heap[Y]? = some (.cells cs 35 (0, 0)) ∧ V.heap[Z]? = some (.cells ct 35 (0, 0))) [] (by kernel_rfl) (by exact ⟨HX.out, HY.out, HZ.out⟩) (fun hHeld => ?_)
  refine wpAnyT_take (i := 0) (oi := ⟨some 83, _, _, _, _, _⟩) (v := ?vg2_0) rfl (by kernel_rfl) (by kernel_rfl) (by kernel_rfl) (by kernel_rfl) (fun _ _ _ h => h) (Or.inl ⟨by rfl, ?hg2_0⟩) (by assumption) ?rg2_0
  case hg2_0 => (intro w hSw; (try dsimp only at hSw); first | (go_simp; done) | (go_simp; with_reducible rfl))
  (try simp only [Act.put, List.setIfInBounds_toArray, List.set_cons_zero, List.set_cons_succ])
  refine wpAnyT_take (i := 1) (oi := ⟨some 84, _, _, _, _, _⟩) (v := ?vg2_1) rfl (by kernel_rfl) (by kernel_rfl) (by kernel_rfl) (by kernel_rfl) (fun _ _ _ h => h) (Or.inl ⟨by rfl, ?hg2_1⟩) (by assumption) ?rg2_1
  case hg2_1 => (intro w hSw; (try dsimp only at hSw); first | (go_simp; done) | (go_simp; with_reducible rfl))
  (try simp only [Act.put, List.setIfInBounds_toArray, List.set_cons_zero, List.set_cons_succ])
  refine wpAnyT_take (i := 2) (oi := ⟨some 85, _, _, _, _, _⟩) (v := ?vg2_2) rfl (by kernel_rfl) (by kernel_rfl) (by kernel_rfl) (by kernel_rfl) (fun _ _ _ h => h) (Or.inl ⟨by rfl, ?hg2_2⟩) (by assumption) ?rg2_2
  case hg2_2 => (intro w hSw; (try dsimp only at hSw); first | (go_simp; done) | (go_simp; with_reducible rfl))
  (try simp only [Act.put, List.setIfInBounds_toArray, List.set_cons_zero, List.set_cons_succ])
  refine wpAnyT_take (i := 3) (oi := ⟨some 86, _, _, _, _, _⟩) (v := ?vg2_3) rfl (by kernel_rfl) (by kernel_rfl) (by kernel_rfl) (by kernel_rfl) (fun _ _ _ h => h) (Or.inl ⟨by rfl, ?hg2_3⟩) (by assumption) ?rg2_3
  case hg2_3 => (intro w hSw; (try dsimp only at hSw); first | (go_simp; done) | (go_simp; with_reducible rfl))
  (try simp only [Act.put, List.setIfInBounds_toArray, List.set_cons_zero, List.set_cons_succ])
  refine wpAnyT_take (i := 4) (oi := ⟨some 87, _, _, _, _, _⟩) (v := ?vg2_4) rfl (by kernel_rfl) (by kernel_rfl) (by kernel_rfl) (by kernel_rfl) (fun _ _ _ h => h) (Or.inl ⟨by rfl, ?hg2_4⟩) (by assumption) ?rg2_4
  case hg2_4 => (intro w hSw; (try dsimp only at hSw); first | (go_simp; done) | (go_simp; with_reducible rfl))
  (try simp only [Act.put, List.setIfInBounds_toArray, List.set_cons_zero, List.set_cons_succ])
  refine wpAnyT_take (i := 5) (oi := ⟨some 88, _, _, _, _, _⟩) (v := ?vg2_5) rfl (by kernel_rfl) (by kernel_rfl) (by kernel_rfl) (by kernel_rfl) (fun _ _ _ h => h) (Or.inl ⟨by rfl, ?hg2_5⟩) (by assumption) ?rg2_5
  case hg2_5 => (intro w hSw; (try dsimp only at hSw); first | (go_simp; done) | (go_simp; with_reducible rfl))
  (try simp only [Act.put, List.setIfInBounds_toArray, List.set_cons_zero, List.set_cons_succ])
  refine wpAnyT_take (i := 6) (oi := ⟨some 89, _, _, _, _, _⟩) (v := ?vg2_6) rfl (by kernel_rfl) (by kernel_rfl) (by kernel_rfl) (by kernel_rfl) (fun _ _ _ h => h) (Or.inl ⟨by rfl, ?hg2_6⟩) (by assumption) ?rg2_6
  case hg2_6 => (intro w hSw; (try dsimp only at hSw); first | (go_simp; done) | (go_simp; with_reducible rfl))
  (try simp only [Act.put, List.setIfInBounds_toArray, List.set_cons_zero, List.set_cons_succ])
  refine wpAnyT_take (i := 7) (oi := ⟨some 90, _, _, _, _, _⟩) (v := ?vg2_7) rfl (by kernel_rfl) (by kernel_rfl) (by kernel_rfl) (by kernel_rfl) (fun _ _ _ h => h) (Or.inl ⟨by rfl, ?hg2_7⟩) (by assumption) ?rg2_7
  case hg2_7 => (intro w hSw; (try dsimp only at hSw); first | (go_simp; done) | (go_simp; with_reducible rfl))
  (try simp only [Act.put, List.setIfInBounds_toArray, List.set_cons_zero, List.set_cons_succ])
  refine wpAnyT_take (i := 8) (oi := ⟨some 91, _, _, _, _, _⟩) (v := ?vg2_8) rfl (by kernel_rfl) (by kernel_rfl) (by kernel_rfl) (by kernel_rfl) (fun _ _ _ h => h) (Or.inl ⟨by rfl, ?hg2_8⟩) (by assumption) ?rg2_8
  case hg2_8 => (intro w hSw; (try dsimp only at hSw); first | (go_simp; done) | (go_simp; with_reducible rfl))
  (try simp only [Act.put, List.setIfInBounds_toArray, List.set_cons_zero, List.set_cons_succ])
  refine wpAnyT_take (i := 9) (oi := ⟨some 92, _, _, _, _, _⟩) (v := ?vg2_9) rfl (by kernel_rfl) (by kernel_rfl) (by kernel_rfl) (by kernel_rfl) (fun _ _ _ h => h) (Or.inl ⟨by rfl, ?hg2_9⟩) (by assumption) ?rg2_9
  case hg2_9 => (intro w hSw; (try dsimp only at hSw); first | (go_simp; done) | (go_simp; with_reducible rfl))
  (try simp only [Act.put, List.setIfInBounds_toArray, List.set_cons_zero, List.set_cons_succ])
  refine wpAnyT_take (i := 10) (oi := ⟨some 93, _, _, _, _, _⟩) (v := ?vg2_10) rfl (by kernel_rfl) (by kernel_rfl) (by kernel_rfl) (by kernel_rfl) (fun _ _ _ h => h) (Or.inl ⟨by rfl, ?hg2_10⟩) (by assumption) ?rg2_10
  case hg2_10 => (intro w hSw; (try dsimp only at hSw); first | (go_simp; done) | (go_simp; with_reducible rfl))
  (try simp only [Act.put, List.setIfInBounds_toArray, List.set_cons_zero, List.set_cons_succ])
  refine wpAnyT_take (i := 11) (oi := ⟨some 94, _, _, _, _, _⟩) (v := ?vg2_11) rfl (by kernel_rfl) (by kernel_rfl) (by kernel_rfl) (by kernel_rfl) (fun _ _ _ h => h) (Or.inl ⟨by rfl, ?hg2_11⟩) (by assumption) ?rg2_11
  case hg2_11 => (intro w hSw; (try dsimp only at hSw); first | (go_simp; done) | (go_simp; with_reducible rfl))
  (try simp only [Act.put, List.setIfInBounds_toArray, List.set_cons_zero, List.set_cons_succ])
  refine wpAnyT_take (i := 12) (oi := ⟨some 95, _, _, _, _, _⟩) (v := _) rfl (by kernel_rfl) (by kernel_rfl) (by kernel_rfl) (by kernel_rfl) (fun _ _ _ h => h) (yieldsIf_load_row (by rfl) 35 _ rfl Y rfl cs 35 (0, 0) _ (fun w hw => hw.2.1) Try.underlying35 rfl (by rw [RL.size HS.out]; exact rope_size)) (by assumption) ?_
  (try simp only [Act.put, List.setIfInBounds_toArray, List.set_cons_zero, List.set_cons_succ])
  refine wpAnyT_take (i := 14) (oi := ⟨some 97, _, _, _, _, _⟩) (v := _) rfl (by kernel_rfl) (by kernel_rfl) (by kernel_rfl) (by kernel_rfl) (fun _ _ _ h => h) (yieldsIf_load_row (by rfl) 35 _ rfl X rfl ci 35 (0, 0) _ (fun w hw => hw.1) Try.underlying35 rfl (by rw [RL.size HV.out]; exact rope_size)) (by assumption) ?_
  (try simp only [Act.put, List.setIfInBounds_toArray, List.set_cons_zero, List.set_cons_succ])
  refine wpAnyT_one (i := 13) (o := ⟨some 96, _, _, _, _, _⟩) (by kernel_rfl) rfl (fun K hK => ?_)
  go_simp
  go_at_call 21
  refine (len_l _ HS.out HLEN1.out).mono ?_
  rintro e w6 ⟨rfl, hb⟩
  replace HX := Lib.hid (hx_later HX.out hb); replace HY := Lib.hid (hx_later HY.out hb); replace HZ := Lib.hid (hx_later HZ.out hb); replace HV := Lib.hid (RL.later HV.out hb); replace HS := Lib.hid (RL.later HS.out hb); replace HT := Lib.hid (RL.later HT.out hb); replace HB := Lib.hid (HB.out.trans (hb.mono HB.out.size))
  clear hb
  dsimp only
  refine hK.out _ _ (by exact ⟨HX.out, HY.out, HZ.out⟩) (fun hHeld => ?_)
  clear hK K
  (try simp only [Act.put, List.setIfInBounds_toArray, List.set_cons_zero, List.set_cons_succ])
  refine wpAnyT_one (i := 15) (o := ⟨some 98, _, _, _, _, _⟩) (by kernel_rfl) rfl (fun K hK => ?_)
  go_simp
  go_at_call 21
  refine (HLNr.out _ HV.out).mono ?_
  rintro e w6 ⟨rfl, hb⟩
  replace HX := Lib.hid (hx_later HX.out hb); replace HY := Lib.hid (hx_later HY.out hb); replace HZ := Lib.hid (hx_later HZ.out hb); replace HV := Lib.hid (RL.later HV.out hb); replace HS := Lib.hid (RL.later HS.out hb); replace HT := Lib.hid (RL.later HT.out hb); replace HB := Lib.hid (HB.out.trans (hb.mono HB.out.size))
  clear hb
  dsimp only
  refine hK.out _ _ (by exact ⟨HX.out, HY.out, HZ.out⟩) (fun hHeld => ?_)
  clear hK K
  (try simp only [Act.put, List.setIfInBounds_toArray, List.set_cons_zero, List.set_cons_succ])
  refine wpAnyT_take (i := 16) (oi := ⟨some 99, _, _, _, _, _⟩) (v := ?vg2_16) rfl (by kernel_rfl) (by kernel_rfl) (by kernel_rfl) (by kernel_rfl) (fun _ _ _ h => h) (Or.inl ⟨by rfl, ?hg2_16⟩) (by assumption) ?rg2_16
  case hg2_16 => (intro w hSw; (try dsimp only at hSw); first | (go_simp; done) | (go_simp; with_reducible rfl))
  (try simp only [Act.put, List.setIfInBounds_toArray, List.set_cons_zero, List.set_cons_succ])
  refine wpAnyT_take (i := 17) (oi := ⟨some 100, _, _, _, _, _⟩) (v := ?vg2_17) rfl (by kernel_rfl) (by kernel_rfl) (by kernel_rfl) (by kernel_rfl) (fun _ _ _ h => h) (Or.inl ⟨by rfl, ?hg2_17⟩) (by assumption) ?rg2_17
  case hg2_17 => (intro w hSw; (try dsimp only at hSw); first | (go_simp; done) | (go_simp; with_reducible rfl))
  (try simp only [Act.put, List.setIfInBounds_toArray, List.set_cons_zero, List.set_cons_succ])
  refine wpAnyT_take (i := 18) (oi := ⟨some 101, _, _, _, _, _⟩) (v := ?vg2_18) rfl (by kernel_rfl) (by kernel_rfl) (by kernel_rfl) (by kernel_rfl) (fun _ _ _ h => h) (Or.inl ⟨by rfl, ?hg2_18⟩) (by assumption) ?rg2_18
  case hg2_18 => (intro w hSw; (try dsimp only at hSw); first | (go_simp; done) | (go_simp; with_reducible rfl))
  (try simp only [Act.put, List.setIfInBounds_toArray, List.set_cons_zero, List.set_cons_succ])
  refine wpAnyT_take (i := 19) (oi := ⟨some 102, _, _, _, _, _⟩) (v := ?vg2_19) rfl (by kernel_rfl) (by kernel_rfl) (by kernel_rfl) (by kernel_rfl) (fun _ _ _ h => h) (Or.inl ⟨by rfl, ?hg2_19⟩) (by assumption) ?rg2_19
  case hg2_19 => (intro w hSw; (try dsimp only at hSw); first | (go_simp; done) | (go_simp; with_reducible rfl))
  (try simp only [Act.put, List.setIfInBounds_toArray, List.set_cons_zero, List.set_cons_succ])
  refine wpAnyT_take (i := 20) (oi := ⟨some 103, _, _, _, _, _⟩) (v := _) rfl (by kernel_rfl) (by kernel_rfl) (by kernel_rfl) (by kernel_rfl) (fun _ _ _ h => h) (yieldsIf_load_row (by rfl) 35 _ rfl Z rfl ct 35 (0, 0) _ (fun w hw => hw.2.2) Try.underlying35 rfl (by rw [RL.size HT.out]; exact rope_size)) (by assumption) ?_
  (try simp only [Act.put, List.setIfInBounds_toArray, List.set_cons_zero, List.set_cons_succ])
  refine wpAnyT_take (i := 22) (oi := ⟨some 105, _, _, _, _, _⟩) (v := _) rfl (by kernel_rfl) (by kernel_rfl) (by kernel_rfl) (by kernel_rfl) (fun _ _ _ h => h) (yieldsIf_load_row (by rfl) 35 _ rfl X rfl ci 35 (0, 0) _ (fun w hw => hw.1) Try.underlying35 rfl (by rw [RL.size HV.out]; exact rope_size)) (by assumption) ?_
  (try simp only [Act.put, List.setIfInBounds_toArray, List.set_cons_zero, List.set_cons_succ])
  refine wpAnyT_one (i := 21) (o := ⟨some 104, _, _, _, _, _⟩) (by kernel_rfl) rfl (fun K hK => ?_)
  go_simp
  go_at_call 19
  refine (rp_List _ _ _ HT.out (by have := HN.out; have := HN3.out; omega)).mono ?_
  rintro e w6 ⟨va, rfl, hi6, hb⟩
  replace HX := Lib.hid (hx_later HX.out hb); replace HY := Lib.hid (hx_later HY.out hb); replace HZ := Lib.hid (hx_later HZ.out hb); replace HV := Lib.hid (RL.later HV.out hb); replace HS := Lib.hid (RL.later HS.out hb); replace HT := Lib.hid (RL.later HT.out hb); replace HB := Lib.hid (HB.out.trans (hb.mono HB.out.size))
  have Hva := Lib.hid hi6.any
  clear hb hi6
  dsimp only
  refine hK.out _ _ (by exact ⟨HX.out, HY.out, HZ.out⟩) (fun hHeld => ?_)
  clear hK K
  (try simp only [Act.put, List.setIfInBounds_toArray, List.set_cons_zero, List.set_cons_succ])
  refine wpAnyT_one (i := 23) (o := ⟨some 106, _, _, _, _, _⟩) (by kernel_rfl) rfl (fun K hK => ?_)
  go_simp
  go_at_call 19
  refine (rp_List _ _ _ HV.out (by have := HN.out; have := HN3.out; omega)).mono ?_
  rintro e w6 ⟨vb, rfl, hi6, hb⟩
  replace HX := Lib.hid (hx_later HX.out hb); replace HY := Lib.hid (hx_later HY.out hb); replace HZ := Lib.hid (hx_later HZ.out hb); replace HV := Lib.hid (RL.later HV.out hb); replace HS := Lib.hid (RL.later HS.out hb); replace HT := Lib.hid (RL.later HT.out hb); replace HB := Lib.hid (HB.out.trans (hb.mono HB.out.size)); replace Hva := Lib.hid (Hva.out.later hb)
  have Hvb := Lib.hid hi6.any
  clear hb hi6
  dsimp only
  refine hK.out _ _ (by exact ⟨HX.out, HY.out, HZ.out⟩) (fun hHeld => ?_)
  clear hK K
  (try simp only [Act.put, List.setIfInBounds_toArray, List.set_cons_zero, List.set_cons_succ])
  refine wpAnyT_one (i := 24) (o := ⟨some 107, _, _, _, _, _⟩) (by kernel_rfl) rfl (fun K hK => ?_)
  go_simp
  go_at_call 20
  refine (ref_Same _ _ li _ Hva.out Hvb.out (by have := HN.out; have := HN3.out; omega)).mono ?_
  rintro e w6 ⟨rfl, hb⟩
  replace HX := Lib.hid (hx_later HX.out hb); replace HY := Lib.hid (hx_later HY.out hb); replace HZ := Lib.hid (hx_later HZ.out hb); replace HV := Lib.hid (RL.later HV.out hb); replace HS := Lib.hid (RL.later HS.out hb); replace HT := Lib.hid (RL.later HT.out hb); replace HB := Lib.hid (HB.out.trans (hb.mono HB.out.size))
  clear hb Hva Hvb
  dsimp only
  refine hK.out _ _ (by exact ⟨HX.out, HY.out, HZ.out⟩) (fun hHeld => ?_)
  clear hK K
  (try simp only [Act.put, List.setIfInBounds_toArray, List.set_cons_zero, List.set_cons_succ])
  refine wpAnyT_take (i := 25) (oi := ⟨some 108, _, _, _, _, _⟩) (v := ?vg2_25) rfl (by kernel_rfl) (by kernel_rfl) (by kernel_rfl) (by kernel_rfl) (fun _ _ _ h => h) (Or.inl ⟨by rfl, ?hg2_25⟩) (by assumption) ?rg2_25
  case hg2_25 => (intro w hSw; (try dsimp only at hSw); first | (go_simp; done) | (go_simp; with_reducible rfl))
  (try simp only [Act.put, List.setIfInBounds_toArray, List.set_cons_zero, List.set_cons_succ])
  refine wpAnyT_take (i := 26) (oi := ⟨some 109, _, _, _, _, _⟩) (v := ?vg2_26) rfl (by kernel_rfl) (by kernel_rfl) (by kernel_rfl) (by kernel_rfl) (fun _ _ _ h => h) (Or.inl ⟨by rfl, ?hg2_26⟩) (by assumption) ?rg2_26
  case hg2_26 => (intro w hSw; (try dsimp only at hSw); first | (go_simp; done) | (go_simp; with_reducible rfl))
  (try simp only [Act.put, List.setIfInBounds_toArray, List.set_cons_zero, List.set_cons_succ])
  refine wpAnyT_done (by kernel_rfl) ?_ _
  clear HY HZ HS HT haw HLEN1
  by_cases hkN : k < N
  case neg =>
    as_aux_lemma =>
    obtain rfl : k = N := by have := HK.out; omega
    have HGETr := Lib.hid (fun V (h : RL V ci li) => get_l V h k 0 false (by have := HN.out; have := HN3.out; omega) (by rw [getF, if_neg (by have := HN.out; omega)]))
    have HREMr := Lib.hid (fun V (h : RL V ci li) => rp_Remove_out V h (k : Int) (by have := HN.out; omega))
    clear hkN
    go_wp2_with (first
      | (refine ld_if (by rfl) 35 _ rfl X rfl 35 _ _ _ HX.out Try.underlying35 rfl (by rw [RL.size HV.out]; exact rope_size) ?_)
      | (go_at_call 11; (with_reducible refine (HGETr.out _ HV.out).mono ?_); rintro e wg ⟨rfl, hb⟩; replace HX := Lib.hid (hx_later HX.out hb); replace HV := Lib.hid (RL.later HV.out hb); replace HB := Lib.hid (HB.out.trans (hb.mono HB.out.size)); clear hb)
      | (go_at_call 25; (with_reducible refine (HREMr.out _ HV.out).mono ?_); rintro e wr ⟨rfl, hb⟩; replace HX := Lib.hid (hx_later HX.out hb); replace HV := Lib.hid (RL.later HV.out hb); replace HB := Lib.hid (HB.out.trans (hb.mono HB.out.size)); have HZ := Lib.hid (RL.zero wr); clear hb)
      | (refine st_agg rfl 35 _ _ rfl wr.heap.size zeroR rfl rfl 35 #[.int .i64 0, .int .i64 0, .slice none 0 0, .slice none 0 0] (heap_alloc_last wr _) (by rw [RL.size HZ.out]; exact rope_size) (by rw [RL.size HZ.out]; rfl) (RL.one HZ.out) ?_; intro wn hwn kwn; have hb := (Below.newly' wr (.cells #[.int .i64 0, .int .i64 0, .slice none 0 0, .slice none 0 0] 35)).trans (kwn.below (Nat.le_refl _)); replace HX := Lib.hid (hx_later HX.out hb); replace HV := Lib.hid (RL.later HV.out hb); replace HZ := Lib.hid (RL.later HZ.out hb); replace HB := Lib.hid (HB.out.trans (hb.mono HB.out.size)); have HY := Lib.hid hwn; clear hb hwn kwn)
      | (go_at_call 21; (with_reducible refine (HLNr.out _ HV.out).mono ?_); rintro e w9 ⟨rfl, hb⟩; replace HX := Lib.hid (hx_later HX.out hb); replace HV := Lib.hid (RL.later HV.out hb); replace HB := Lib.hid (HB.out.trans (hb.mono HB.out.size)); clear hb))
    go_ret
    exact ⟨rfl, HB.out⟩
  have HGETr := Lib.hid (fun V (h : RL V ci li) => get_l V h k (li.getD k 0) true (by have := HN.out; have := HN3.out; omega) (by rw [getF, if_pos (by have := HN.out; omega), Int.toNat_natCast]))
  obtain ⟨L2, hL2⟩ : ∃ L2, L2 = remL li k := ⟨_, rfl⟩
  have hlen2 : L2.length = N - 1 := by rw [hL2, remL_len (by have := HN.out; omega), HN.out]
  obtain ⟨N0, hN0⟩ : ∃ N0, N0 = N - 1 := ⟨_, rfl⟩
  have HLEN2 : Hid (L2.length = N0) := by show _ = _; rw [hlen2, hN0]
  have haw : IntKind.i64.wrap ((N : Int) - 1) = (N0 : Int) := by rw [IntKind.wrap_i64]; omega
  have HREMr := Lib.hid (fun V (h : RL V ci li) => rem_l V h k (by have := HN.out; omega) (by have := HN.out; have := HN3.out; omega) hL2.symm)
  have HINSu := Lib.hid (fun V cu (h : RL V cu L2) => ins_l V h k (li.getD k 0) (by omega) (by omega) (l' := li) (by rw [hL2]; exact insL_remL (by have := HN.out; omega)))
  obtain ⟨y0, hy0⟩ : ∃ y0, y0 = li.getD k 0 := ⟨_, rfl⟩
  rw [← hy0] at HGETr HINSu
  clear hL2 hlen2 hN0 hkN hy0
  go_upto_region 19 with (first
    | (refine ld_if (by rfl) 35 _ rfl X rfl 35 _ _ _ HX.out Try.underlying35 rfl (by rw [RL.size HV.out]; exact rope_size) ?_)
    | (go_at_call 11; (with_reducible refine (HGETr.out _ HV.out).mono ?_); rintro e wg ⟨rfl, hb⟩; replace HX := Lib.hid (hx_later HX.out hb); replace HV := Lib.hid (RL.later HV.out hb); replace HB := Lib.hid (HB.out.trans (hb.mono HB.out.size)); clear hb)
    | (go_at_call 25; (with_reducible refine (HREMr.out _ HV.out).mono ?_); rintro e wr ⟨cu, rfl, hr, hb⟩; replace HX := Lib.hid (hx_later HX.out hb); replace HV := Lib.hid (RL.later HV.out hb); replace HB := Lib.hid (HB.out.trans (hb.mono HB.out.size)); have HS := Lib.hid hr; clear hr; clear hb)
    | (refine st_agg rfl 35 _ _ rfl wr.heap.size cu rfl rfl 35 #[.int .i64 0, .int .i64 0, .slice none 0 0, .slice none 0 0] (heap_alloc_last wr _) (by rw [RL.size HS.out]; exact rope_size) (by rw [RL.size HS.out]; rfl) (RL.one HS.out) ?_; intro wn hwn kwn; have hb := (Below.newly' wr (.cells #[.int .i64 0, .int .i64 0, .slice none 0 0, .slice none 0 0] 35)).trans (kwn.below (Nat.le_refl _)); replace HX := Lib.hid (hx_later HX.out hb); replace HV := Lib.hid (RL.later HV.out hb); replace HS := Lib.hid (RL.later HS.out hb); replace HB := Lib.hid (HB.out.trans (hb.mono HB.out.size)); have HY := Lib.hid hwn; clear hb hwn kwn)
    | (refine ld_if (by rfl) 35 _ rfl wr.heap.size rfl 35 _ _ _ HY.out Try.underlying35 rfl (by rw [RL.size HS.out]; exact rope_size) ?_)
    | (go_at_call 24; (with_reducible refine (HINSu.out _ _ HS.out).mono ?_); rintro e wi ⟨cv, rfl, hr, hb⟩; replace HX := Lib.hid (hx_later HX.out hb); replace HY := Lib.hid (hx_later HY.out hb); replace HV := Lib.hid (RL.later HV.out hb); replace HS := Lib.hid (RL.later HS.out hb); replace HB := Lib.hid (HB.out.trans (hb.mono HB.out.size)); have HT := Lib.hid hr; clear hr; clear hb)
    | (refine st_agg rfl 35 _ _ rfl wi.heap.size cv rfl rfl 35 #[.int .i64 0, .int .i64 0, .slice none 0 0, .slice none 0 0] (heap_alloc_last wi _) (by rw [RL.size HT.out]; exact rope_size) (by rw [RL.size HT.out]; rfl) (RL.one HT.out) ?_; intro wv hwv kwv; have hb := (Below.newly' wi (.cells #[.int .i64 0, .int .i64 0, .slice none 0 0, .slice none 0 0] 35)).trans (kwv.below (Nat.le_refl _)); replace HX := Lib.hid (hx_later HX.out hb); replace HY := Lib.hid (hx_later HY.out hb); replace HV := Lib.hid (RL.later HV.out hb); replace HS := Lib.hid (RL.later HS.out hb); replace HT := Lib.hid (RL.later HT.out hb); replace HB := Lib.hid (HB.out.trans (hb.mono HB.out.size)); have HZ := Lib.hid hwv; clear hb hwv kwv))
  obtain ⟨Y, hY⟩ : ∃ Y, Y = wr.heap.size := ⟨_, rfl⟩
  obtain ⟨Z, hZ⟩ : ∃ Z, Z = wi.heap.size := ⟨_, rfl⟩
  rw [← hY, ← hZ]
  rw [← hY] at HY
  rw [← hZ] at HZ
  have hb := drawn_below wv
  replace HX := Lib.hid (hx_later HX.out hb)
  replace HY := Lib.hid (hx_later HY.out hb)
  replace HZ := Lib.hid (hx_later HZ.out hb)
  replace HV := Lib.hid (RL.later HV.out hb)
  replace HS := Lib.hid (RL.later HS.out hb)
  replace HT := Lib.hid (RL.later HT.out hb)
  replace HB := Lib.hid (HB.out.trans (hb.mono HB.out.size))
  clear hb hY hZ HGETr HREMr HINSu
  refine wp_region_T (S := fun V => V.heap[X]? = some (.cells ci 35 (0, 0)) ∧ V.heap[Y]? = some (.cells cu 35 (0, 0)) ∧ V.heap[Z]? = some (.cells cv 35 (0, 0))) [20] (by kernel_rfl) (by exact ⟨HX.out, HY.out, HZ.out⟩) (fun hHeld => ?_)
  refine wpAnyT_take (i := 0) (oi := ⟨some 139, _, _, _, _, _⟩) (v := ?vg3_0) rfl (by kernel_rfl) (by kernel_rfl) (by kernel_rfl) (by kernel_rfl) (fun _ _ _ h => h) (Or.inl ⟨by rfl, ?hg3_0⟩) (by assumption) ?rg3_0
  case hg3_0 => (intro w hSw; (try dsimp only at hSw); first | (go_simp; done) | (go_simp; with_reducible rfl))
  (try simp only [Act.put, List.setIfInBounds_toArray, List.set_cons_zero, List.set_cons_succ])
  refine wpAnyT_take (i := 1) (oi := ⟨some 140, _, _, _, _, _⟩) (v := ?vg3_1) rfl (by kernel_rfl) (by kernel_rfl) (by kernel_rfl) (by kernel_rfl) (fun _ _ _ h => h) (Or.inl ⟨by rfl, ?hg3_1⟩) (by assumption) ?rg3_1
  case hg3_1 => (intro w hSw; (try dsimp only at hSw); first | (go_simp; done) | (go_simp; with_reducible rfl))
  (try simp only [Act.put, List.setIfInBounds_toArray, List.set_cons_zero, List.set_cons_succ])
  refine wpAnyT_take (i := 2) (oi := ⟨some 141, _, _, _, _, _⟩) (v := ?vg3_2) rfl (by kernel_rfl) (by kernel_rfl) (by kernel_rfl) (by kernel_rfl) (fun _ _ _ h => h) (Or.inl ⟨by rfl, ?hg3_2⟩) (by assumption) ?rg3_2
  case hg3_2 => (intro w hSw; (try dsimp only at hSw); first | (go_simp; done) | (go_simp; with_reducible rfl))
  (try simp only [Act.put, List.setIfInBounds_toArray, List.set_cons_zero, List.set_cons_succ])
  refine wpAnyT_take (i := 3) (oi := ⟨some 142, _, _, _, _, _⟩) (v := ?vg3_3) rfl (by kernel_rfl) (by kernel_rfl) (by kernel_rfl) (by kernel_rfl) (fun _ _ _ h => h) (Or.inl ⟨by rfl, ?hg3_3⟩) (by assumption) ?rg3_3
  case hg3_3 => (intro w hSw; (try dsimp only at hSw); first | (go_simp; done) | (go_simp; with_reducible rfl))
  (try simp only [Act.put, List.setIfInBounds_toArray, List.set_cons_zero, List.set_cons_succ])
  refine wpAnyT_take (i := 4) (oi := ⟨some 143, _, _, _, _, _⟩) (v := ?vg3_4) rfl (by kernel_rfl) (by kernel_rfl) (by kernel_rfl) (by kernel_rfl) (fun _ _ _ h => h) (Or.inl ⟨by rfl, ?hg3_4⟩) (by assumption) ?rg3_4
  case hg3_4 => (intro w hSw; (try dsimp only at hSw); first | (go_simp; done) | (go_simp; with_reducible rfl))
  (try simp only [Act.put, List.setIfInBounds_toArray, List.set_cons_zero, List.set_cons_succ])
  refine wpAnyT_take (i := 5) (oi := ⟨some 144, _, _, _, _, _⟩) (v := ?vg3_5) rfl (by kernel_rfl) (by kernel_rfl) (by kernel_rfl) (by kernel_rfl) (fun _ _ _ h => h) (Or.inl ⟨by rfl, ?hg3_5⟩) (by assumption) ?rg3_5
  case hg3_5 => (intro w hSw; (try dsimp only at hSw); first | (go_simp; done) | (go_simp; with_reducible rfl))
  (try simp only [Act.put, List.setIfInBounds_toArray, List.set_cons_zero, List.set_cons_succ])
  refine wpAnyT_take (i := 6) (oi := ⟨some 145, _, _, _, _, _⟩) (v := _) rfl (by kernel_rfl) (by kernel_rfl) (by kernel_rfl) (by kernel_rfl) (fun _ _ _ h => h) (yieldsIf_load_row (by rfl) 35 _ rfl Y rfl cu 35 (0, 0) _ (fun w hw => hw.2.1) Try.underlying35 rfl (by rw [RL.size HS.out]; exact rope_size)) (by assumption) ?_
  (try simp only [Act.put, List.setIfInBounds_toArray, List.set_cons_zero, List.set_cons_succ])
  refine wpAnyT_take (i := 8) (oi := ⟨some 147, _, _, _, _, _⟩) (v := _) rfl (by kernel_rfl) (by kernel_rfl) (by kernel_rfl) (by kernel_rfl) (fun _ _ _ h => h) (yieldsIf_load_row (by rfl) 35 _ rfl X rfl ci 35 (0, 0) _ (fun w hw => hw.1) Try.underlying35 rfl (by rw [RL.size HV.out]; exact rope_size)) (by assumption) ?_
  (try simp only [Act.put, List.setIfInBounds_toArray, List.set_cons_zero, List.set_cons_succ])
  refine wpAnyT_one (i := 7) (o := ⟨some 146, _, _, _, _, _⟩) (by kernel_rfl) rfl (fun K hK => ?_)
  go_simp
  go_at_call 21
  refine (len_l _ HS.out HLEN2.out).mono ?_
  rintro e w6 ⟨rfl, hb⟩
  replace HX := Lib.hid (hx_later HX.out hb); replace HY := Lib.hid (hx_later HY.out hb); replace HZ := Lib.hid (hx_later HZ.out hb); replace HV := Lib.hid (RL.later HV.out hb); replace HS := Lib.hid (RL.later HS.out hb); replace HT := Lib.hid (RL.later HT.out hb); replace HB := Lib.hid (HB.out.trans (hb.mono HB.out.size))
  clear hb
  dsimp only
  refine hK.out _ _ (by exact ⟨HX.out, HY.out, HZ.out⟩) (fun hHeld => ?_)
  clear hK K
  (try simp only [Act.put, List.setIfInBounds_toArray, List.set_cons_zero, List.set_cons_succ])
  refine wpAnyT_one (i := 9) (o := ⟨some 148, _, _, _, _, _⟩) (by kernel_rfl) rfl (fun K hK => ?_)
  go_simp
  go_at_call 21
  refine (HLNr.out _ HV.out).mono ?_
  rintro e w6 ⟨rfl, hb⟩
  replace HX := Lib.hid (hx_later HX.out hb); replace HY := Lib.hid (hx_later HY.out hb); replace HZ := Lib.hid (hx_later HZ.out hb); replace HV := Lib.hid (RL.later HV.out hb); replace HS := Lib.hid (RL.later HS.out hb); replace HT := Lib.hid (RL.later HT.out hb); replace HB := Lib.hid (HB.out.trans (hb.mono HB.out.size))
  clear hb
  dsimp only
  refine hK.out _ _ (by exact ⟨HX.out, HY.out, HZ.out⟩) (fun hHeld => ?_)
  clear hK K
  (try simp only [Act.put, List.setIfInBounds_toArray, List.set_cons_zero, List.set_cons_succ])
  refine wpAnyT_take (i := 10) (oi := ⟨some 149, _, _, _, _, _⟩) (v := ?vg3_10) rfl (by kernel_rfl) (by kernel_rfl) (by kernel_rfl) (by kernel_rfl) (fun _ _ _ h => h) (Or.inl ⟨by rfl, ?hg3_10⟩) (by assumption) ?rg3_10
  case hg3_10 => (intro w hSw; (try dsimp only at hSw); first | (go_simp; done) | (go_simp; with_reducible rfl))
  (try simp only [Act.put, List.setIfInBounds_toArray, List.set_cons_zero, List.set_cons_succ])
  refine wpAnyT_take (i := 11) (oi := ⟨some 150, _, _, _, _, _⟩) (v := ?vg3_11) rfl (by kernel_rfl) (by kernel_rfl) (by kernel_rfl) (by kernel_rfl) (fun _ _ _ h => h) (Or.inl ⟨by rfl, ?hg3_11⟩) (by assumption) ?rg3_11
  case hg3_11 => (intro w hSw; (try dsimp only at hSw); first | (go_simp; done) | (go_simp; with_reducible rfl))
  (try simp only [Act.put, List.setIfInBounds_toArray, List.set_cons_zero, List.set_cons_succ])
  refine wpAnyT_take (i := 12) (oi := ⟨some 151, _, _, _, _, _⟩) (v := ?vg3_12) rfl (by kernel_rfl) (by kernel_rfl) (by kernel_rfl) (by kernel_rfl) (fun _ _ _ h => h) (Or.inl ⟨by rfl, ?hg3_12⟩) (by assumption) ?rg3_12
  case hg3_12 => (intro w hSw; (try dsimp only at hSw); first | (go_simp; done) | (go_simp; with_reducible rfl))
  (try simp only [Act.put, List.setIfInBounds_toArray, List.set_cons_zero, List.set_cons_succ])
  refine wpAnyT_take (i := 13) (oi := ⟨some 152, _, _, _, _, _⟩) (v := ?vg3_13) rfl (by kernel_rfl) (by kernel_rfl) (by kernel_rfl) (by kernel_rfl) (fun _ _ _ h => h) (Or.inl ⟨by rfl, ?hg3_13⟩) (by assumption) ?rg3_13
  case hg3_13 => (intro w hSw; (try dsimp only at hSw); first | (go_simp; done) | (go_simp; with_reducible rfl))
  (try simp only [Act.put, List.setIfInBounds_toArray, List.set_cons_zero, List.set_cons_succ])
  refine wpAnyT_take (i := 14) (oi := ⟨some 153, _, _, _, _, _⟩) (v := _) rfl (by kernel_rfl) (by kernel_rfl) (by kernel_rfl) (by kernel_rfl) (fun _ _ _ h => h) (yieldsIf_load_row (by rfl) 35 _ rfl Z rfl cv 35 (0, 0) _ (fun w hw => hw.2.2) Try.underlying35 rfl (by rw [RL.size HT.out]; exact rope_size)) (by assumption) ?_
  (try simp only [Act.put, List.setIfInBounds_toArray, List.set_cons_zero, List.set_cons_succ])
  refine wpAnyT_take (i := 16) (oi := ⟨some 155, _, _, _, _, _⟩) (v := _) rfl (by kernel_rfl) (by kernel_rfl) (by kernel_rfl) (by kernel_rfl) (fun _ _ _ h => h) (yieldsIf_load_row (by rfl) 35 _ rfl X rfl ci 35 (0, 0) _ (fun w hw => hw.1) Try.underlying35 rfl (by rw [RL.size HV.out]; exact rope_size)) (by assumption) ?_
  (try simp only [Act.put, List.setIfInBounds_toArray, List.set_cons_zero, List.set_cons_succ])
  refine wpAnyT_one (i := 15) (o := ⟨some 154, _, _, _, _, _⟩) (by kernel_rfl) rfl (fun K hK => ?_)
  go_simp
  go_at_call 19
  refine (rp_List _ _ _ HT.out (by have := HN.out; have := HN3.out; omega)).mono ?_
  rintro e w6 ⟨va, rfl, hi6, hb⟩
  replace HX := Lib.hid (hx_later HX.out hb); replace HY := Lib.hid (hx_later HY.out hb); replace HZ := Lib.hid (hx_later HZ.out hb); replace HV := Lib.hid (RL.later HV.out hb); replace HS := Lib.hid (RL.later HS.out hb); replace HT := Lib.hid (RL.later HT.out hb); replace HB := Lib.hid (HB.out.trans (hb.mono HB.out.size))
  have Hva := Lib.hid hi6.any
  clear hb hi6
  dsimp only
  refine hK.out _ _ (by exact ⟨HX.out, HY.out, HZ.out⟩) (fun hHeld => ?_)
  clear hK K
  (try simp only [Act.put, List.setIfInBounds_toArray, List.set_cons_zero, List.set_cons_succ])
  refine wpAnyT_one (i := 17) (o := ⟨some 156, _, _, _, _, _⟩) (by kernel_rfl) rfl (fun K hK => ?_)
  go_simp
  go_at_call 19
  refine (rp_List _ _ _ HV.out (by have := HN.out; have := HN3.out; omega)).mono ?_
  rintro e w6 ⟨vb, rfl, hi6, hb⟩
  replace HX := Lib.hid (hx_later HX.out hb); replace HY := Lib.hid (hx_later HY.out hb); replace HZ := Lib.hid (hx_later HZ.out hb); replace HV := Lib.hid (RL.later HV.out hb); replace HS := Lib.hid (RL.later HS.out hb); replace HT := Lib.hid (RL.later HT.out hb); replace HB := Lib.hid (HB.out.trans (hb.mono HB.out.size)); replace Hva := Lib.hid (Hva.out.later hb)
  have Hvb := Lib.hid hi6.any
  clear hb hi6
  dsimp only
  refine hK.out _ _ (by exact ⟨HX.out, HY.out, HZ.out⟩) (fun hHeld => ?_)
  clear hK K
  (try simp only [Act.put, List.setIfInBounds_toArray, List.set_cons_zero, List.set_cons_succ])
  refine wpAnyT_one (i := 18) (o := ⟨some 157, _, _, _, _, _⟩) (by kernel_rfl) rfl (fun K hK => ?_)
  go_simp
  go_at_call 20
  refine (ref_Same _ _ li _ Hva.out Hvb.out (by have := HN.out; have := HN3.out; omega)).mono ?_
  rintro e w6 ⟨rfl, hb⟩
  replace HX := Lib.hid (hx_later HX.out hb); replace HY := Lib.hid (hx_later HY.out hb); replace HZ := Lib.hid (hx_later HZ.out hb); replace HV := Lib.hid (RL.later HV.out hb); replace HS := Lib.hid (RL.later HS.out hb); replace HT := Lib.hid (RL.later HT.out hb); replace HB := Lib.hid (HB.out.trans (hb.mono HB.out.size))
  clear hb Hva Hvb
  dsimp only
  refine hK.out _ _ (by exact ⟨HX.out, HY.out, HZ.out⟩) (fun hHeld => ?_)
  clear hK K
  (try simp only [Act.put, List.setIfInBounds_toArray, List.set_cons_zero, List.set_cons_succ])
  refine wpAnyT_take (i := 19) (oi := ⟨some 158, _, _, _, _, _⟩) (v := ?vg3_19) rfl (by kernel_rfl) (by kernel_rfl) (by kernel_rfl) (by kernel_rfl) (fun _ _ _ h => h) (Or.inl ⟨by rfl, ?hg3_19⟩) (by assumption) ?rg3_19
  case hg3_19 => (intro w hSw; (try dsimp only at hSw); first | (go_simp; done) | (go_simp; with_reducible rfl))
  (try simp only [Act.put, List.setIfInBounds_toArray, List.set_cons_zero, List.set_cons_succ])
  refine wpAnyT_last (i := 20) (o := ⟨some 6, _, _, _, _, _⟩) (by kernel_rfl) (by decide) rfl (fun K hK => ?_)
  go_simp
  refine hK.out _ _ ?_
  clear hK K
  (try simp only [Act.put, List.setIfInBounds_toArray, List.set_cons_zero, List.set_cons_succ])
  refine wpAnyT_done (by kernel_rfl) ?_ _
  go_wp2_with fail
  go_ret
  exact ⟨rfl, HB.out⟩
theorem ropeBack_walk (v : Value) (l : List Op8) (i x : Int) (_ : (Lit.int .i64 i).wf = true) (_ : (Lit.int .i64 x).wf = true) (w : World) (h : Ops8 w v l ∧ ∀ o ∈ l, InR o.2.1 ∧ InR o.2.2.1) : Calls Try.prog 7 #[v, .int .i64 i, .int .i64 x] w fun e w' => e = .returned (.bool true) ∧ Below w.heap.size w w' := ropeBack_of v l i x w h.1 h.2
end Go.Proofs.Ytldemoflgahdgaa
