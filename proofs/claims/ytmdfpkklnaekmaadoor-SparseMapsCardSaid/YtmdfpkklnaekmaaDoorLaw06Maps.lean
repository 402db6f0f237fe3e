/- Layer 6's law SparseMaps, over what package sparse's rows answer. (written by tools/gen06/maps.py) -/
import Derived.Test.YtmdfpkklnaekmaaDoorLaw06Ops
import Derived.Test.YtmdfpkklnaekmaaDoorSp9
import Derived.Deep.CutRange
namespace Go.Proofs.YtmdfpkklnaekmaaDoor
open Go.RowKit
set_option maxRecDepth 1000000
set_option linter.unusedSimpArgs false

/-- What package sparse's Map answers, whatever rule it is given that computes only. -/
structure MapSpec (Tb : World → Prop) (At : World → Rw → Array Value → Prop) : Prop where
  map : ∀ (W : World) (R : Rw) (c : Array Value), At W R c → Tb W → ∀ (fb : Nat) (g : Nat → Int → Int) (fnum : Nat), (∀ args w, (callFunc fnum args).run Tryd.prog w = .ok (.enter fnum args) w) →
    (∀ V, Below W.heap.size W V → ∀ (i : Nat) (x : Int), Calls Tryd.prog fnum #[.int .i64 (i : Int), .int .i64 x, .pointer (some ⟨fb, 0, none⟩)] V fun e V' => e = .returned (.int .i64 (g i x)) ∧ V' = V) →
    (∀ i x, -9223372036854775808 ≤ g i x ∧ g i x ≤ 9223372036854775807) →
    Calls Tryd.prog 17 #[.agg c, .func (.func fnum) #[] #[.pointer (some ⟨fb, 0, none⟩)]] W fun e W' => ∃ c', e = .returned (.agg c') ∧ At W' (mapR R g) c' ∧ Below W.heap.size W W'
/-- The rule of the law. -/
def ruleX (k : Int) (i : Nat) (x : Int) : Int := bits .xor .i64 (bits .xor .i64 x (i : Int)) k
theorem rule_in (k : Int) (i : Nat) (x : Int) : -9223372036854775808 ≤ ruleX k i x ∧ ruleX k i x ≤ 9223372036854775807 := bits_within .xor .i64 _ _
theorem rule_calls (k : Int) (fb : Nat) (V : World) (h : V.cell? ⟨fb, 0, none⟩ = some (.int .i64 k)) (i : Nat) (x : Int) :
    Calls Tryd.prog 18 #[.int .i64 (i : Int), .int .i64 x, .pointer (some ⟨fb, 0, none⟩)] V fun e V' => e = .returned (.int .i64 (ruleX k i x)) ∧ V' = V := by
  go_enter Tryd.func18, Tryd.ntmps18
  go_wp2_with fail
  go_ret
  exact ⟨rfl, rfl⟩
section
variable {Tb : World → Prop} {At : World → Rw → Array Value → Prop} (S : RSpec Tb At) (SM : MapSpec Tb At)
include S SM
set_option maxHeartbeats 4000000 in
theorem sparseMaps_of (v : Value) (l : List Opr) (k : Int) (w : World) (hl : OpsAt w v l) (hT : Tb w) :
    Calls Tryd.prog 6 #[v, .int .i64 k] w fun e w' => e = .returned (.bool true) ∧ Below w.heap.size w w' := by
  obtain ⟨ad, cap, bb, oo, rfl, h1, h2, h3, h4⟩ := hl
  have HLO := Lib.hid h1
  have HLC := Lib.hid h2
  have HLI := Lib.hid h3
  clear h1 h2 h3
  go_enter Tryd.func6, Tryd.ntmps6
  go_upto_region 1 with fail
  obtain ⟨w0, hw0⟩ : ∃ w0, w.alloc (.cells #[.int .i64 k] 3) = w0 := ⟨_, rfl⟩
  rw [hw0]
  have HA0 : Hid (w0.heap[w.heap.size]? = some (.cells #[.int .i64 k] 3 (0, 0))) := by show _ = _; rw [← hw0]; exact heap_alloc_last _ _
  have HW0 : Hid (Below w.heap.size w w0) := by show Below _ _ _; rw [← hw0]; exact Below.newly' _ _
  clear hw0
  by_cases hlen : l.length ≤ 100
  case neg =>
    as_aux_lemma =>
    have t1 : (100 : Int) < (l.length : Int) := by omega
    clear hlen
    go_wp2_with (first
      | (go_at_call 9; with_reducible refine (live6_true S w0 (S.tab hT HW0.out)).mono ?_; rintro e w1 ⟨rfl, hb⟩; have HW1 := Lib.hid (HW0.out.trans (hb.mono HW0.out.size)); clear hb)
      | (go_at_call 9; with_reducible refine (live6_true S w1 (S.tab hT HW1.out)).mono ?_; rintro e w2 ⟨rfl, hb⟩; have HW2 := Lib.hid (HW1.out.trans (hb.mono HW1.out.size)); clear hb))
    go_ret
    exact ⟨rfl, HW2.out⟩
  have t1 : ¬ (100 : Int) < (l.length : Int) := by omega
  go_upto_region 5 with (first
    | (go_at_call 9; with_reducible refine (live6_true S w0 (S.tab hT HW0.out)).mono ?_; rintro e w1 ⟨rfl, hb⟩; have HA1 := Lib.hid ((hb.block _ (Array.getElem?_eq_some_iff.1 HA0.out).1).trans HA0.out); have HW1 := Lib.hid (HW0.out.trans (hb.mono HW0.out.size)); clear hb))
  have HXK : Hid (w.heap.size < w1.heap.size) := (Array.getElem?_eq_some_iff.1 HA1.out).1
  obtain ⟨X, hX⟩ : ∃ X, X = w1.heap.size := ⟨_, rfl⟩
  obtain ⟨V, hV⟩ : ∃ V, (w1.alloc (.cells zeroS 27)).alloc (.cells zeroC 31) = V := ⟨_, rfl⟩
  rw [hV, ← hX]
  obtain ⟨hx, hy, hbl⟩ := pair_laid hV
  rw [← hX] at hx hy hbl
  have HVX := Lib.hid hx
  have HVY := Lib.hid hy
  have HX1 : Hid (w.heap.size ≤ X) := by show _ ≤ _; rw [hX]; exact HW1.out.size
  have HWV : Hid (Below w.heap.size w V) := HW1.out.trans (hbl.mono HX1.out)
  have HXV : Hid (X < V.heap.size) := (Array.getElem?_eq_some_iff.1 hx).1
  have HVS : Hid (V.heap.size = X + 2) := by show _ = _; rw [← hV, hX]; simp
  have HKX : Hid (w.heap.size < X) := by show _ < _; rw [hX]; exact HXK.out
  have HAV : Hid (V.heap[w.heap.size]? = some (.cells #[.int .i64 k] 3 (0, 0))) := (hbl.block _ HKX.out).trans HA1.out
  clear hx hy hbl hV hX
  clear t1
  go_wp2_with fail
  go_loopw [25] (fun i wl => ∃ (n : Nat) (c d : Array Value) (R : Rw), n ≤ l.length ∧ i = .int .i64 n ∧ wl.heap[X]? = some (.cells c 27 (0, 0)) ∧ wl.heap[X + 1]? = some (.cells d 31 (0, 0)) ∧ At wl R c ∧ RC R d ∧ Below X V wl) (fun i _ => l.length - (intOf i).toNat)
  case atStart => exact ⟨0, _, _, noR, Nat.zero_le _, rfl, HVX.out, HVY.out, S.zero _, zero_rc, Below.refl _ _⟩
  case round =>
    obtain ⟨n, c, d, R, hn, rfl, hz, hy, hc, hd, hbl⟩ := hrel
    have HA4 : Hid (wr.heap[w.heap.size]? = some (.cells #[.int .i64 k] 3 (0, 0))) := (hbl.block _ HKX.out).trans HAV.out
    have HZ4 := Lib.hid hz
    have HY4 := Lib.hid hy
    have HC4 := Lib.hid hc
    have HD := Lib.hid hd
    have HV4 := Lib.hid hbl
    have HW4 : Hid (Below w.heap.size w wr) := HWV.out.trans (hbl.mono HX1.out)
    have HS4 : Hid (X < wr.heap.size) := (Array.getElem?_eq_some_iff.1 hz).1
    clear hz hy hc hd hbl
    by_cases hlt : n < l.length
    · skip
      have hlt' : (n : Int) < (l.length : Int) := by omega
      have i0 : (0 : Int) ≤ (n : Int) := by omega
      have had : ad = some ⟨bb, oo, none⟩ := HLO.out (by omega)
      subst had
      have HI := Lib.hid (HLI.out l[n] (List.getElem_mem hlt))
      have HR4 := Lib.hid ((HLC.out n hlt).later HW4.out)
      obtain ⟨x, hx⟩ : ∃ x, x = l[n] := ⟨_, rfl⟩
      rw [← hx] at HR4 HI
      clear hx
      go_upto_region 8 with (refine ld_op rfl _ rfl bb (oo + n * 3) rfl x HR4.out ?_)
      obtain ⟨w5, hw5⟩ : ∃ w5, wr.alloc (.cells (opC x) 35) = w5 := ⟨_, rfl⟩
      rw [hw5]
      have hb : Below wr.heap.size wr w5.drew := by rw [← hw5]; exact Below.drewMany (Below.newly' _ _) 1
      have HP5 : Hid (w5.drew.heap[wr.heap.size]? = some (.cells (opC x) 35 (0, 0))) := by show _ = _; rw [← hw5]; exact heap_alloc_last wr _
      clear hw5
      have HZ5 := Lib.hid ((hb.block _ (Array.getElem?_eq_some_iff.1 HZ4.out).1).trans HZ4.out)
      have HY5 := Lib.hid ((hb.block _ (Array.getElem?_eq_some_iff.1 HY4.out).1).trans HY4.out)
      have HC5 := Lib.hid (S.later HC4.out hb)
      have HV5 := Lib.hid (HV4.out.trans (hb.mono (Nat.le_trans (Nat.le_of_lt HXV.out) HV4.out.size)))
      clear hb
      refine wp_region_T (S := fun W => W.heap[X]? = some (.cells c 27 (0, 0)) ∧ W.heap[(X + 1)]? = some (.cells d 31 (0, 0)) ∧ W.heap[wr.heap.size]? = some (.cells (opC x) 35 (0, 0))) [6, 7] (by kernel_rfl) (by first | exact ⟨HZ5.out, HY5.out, HP5.out⟩ | exact ⟨HZ6.out, HY6.out, HP6.out⟩ | exact ⟨HZ7.out, HY7.out, HP7.out⟩) (fun hHeld => ?_)
      refine wpAnyT_take (i := 0) (oi := ⟨some 29, _, _, _, _, _⟩) (v := _) rfl (by kernel_rfl) (by kernel_rfl) (by kernel_rfl) (by kernel_rfl) (fun _ _ _ h => h) (yieldsIf_load_row (by rfl) 27 _ rfl X rfl c 27 (0, 0) _ (fun w hw => hw.1) Tryd.underlying27 rfl (by rw [S.size HC5.out]; exact srow_info)) (by assumption) ?_
      (try simp only [Act.put, List.setIfInBounds_toArray, List.set_cons_zero, List.set_cons_succ])
      refine wpAnyT_take (i := 1) (oi := ⟨some 30, _, _, _, _, _⟩) (v := _) rfl (by kernel_rfl) (by kernel_rfl) (by kernel_rfl) (by kernel_rfl) (fun _ _ _ h => h) (yieldsIf_load_row (by rfl) 35 _ rfl wr.heap.size rfl (opC x) 35 (0, 0) _ (fun w hw => hw.2.2) Tryd.underlying35 rfl (by exact op_info)) (by assumption) ?_
      (try simp only [Act.put, List.setIfInBounds_toArray, List.set_cons_zero, List.set_cons_succ])
      refine wpAnyT_take (i := 3) (oi := ⟨some 32, _, _, _, _, _⟩) (v := _) rfl (by kernel_rfl) (by kernel_rfl) (by kernel_rfl) (by kernel_rfl) (fun _ _ _ h => h) (yieldsIf_load_row (by rfl) 31 _ rfl (X + 1) rfl d 31 (0, 0) _ (fun w hw => hw.2.1) Tryd.underlying31 rfl (by rw [HD.out.size]; exact row_info)) (by assumption) ?_
      (try simp only [Act.put, List.setIfInBounds_toArray, List.set_cons_zero, List.set_cons_succ])
      refine wpAnyT_take (i := 4) (oi := ⟨some 33, _, _, _, _, _⟩) (v := _) rfl (by kernel_rfl) (by kernel_rfl) (by kernel_rfl) (by kernel_rfl) (fun _ _ _ h => h) (yieldsIf_load_row (by rfl) 35 _ rfl wr.heap.size rfl (opC x) 35 (0, 0) _ (fun w hw => hw.2.2) Tryd.underlying35 rfl (by exact op_info)) (by assumption) ?_
      (try simp only [Act.put, List.setIfInBounds_toArray, List.set_cons_zero, List.set_cons_succ])
      refine wpAnyT_one (i := 2) (o := ⟨some 31, _, _, _, _, _⟩) (by kernel_rfl) rfl (fun K hK => ?_)
      go_simp
      go_at_call 10
      refine (does_walk S R c x HI.out.1 HI.out.2 _ HC5.out).mono ?_
      rintro e w6 ⟨c', rfl, hc', hb⟩
      have HN6 := Lib.hid hc'
      clear hc'
      have HZ6 := Lib.hid ((hb.block _ (Array.getElem?_eq_some_iff.1 HZ5.out).1).trans HZ5.out)
      have HY6 := Lib.hid ((hb.block _ (Array.getElem?_eq_some_iff.1 HY5.out).1).trans HY5.out)
      have HC6 := Lib.hid (S.later HC5.out hb)
      have HV6 := Lib.hid (HV5.out.trans (hb.mono (Nat.le_trans (Nat.le_of_lt HXV.out) HV5.out.size)))
      have HP6 := Lib.hid ((hb.block _ (Array.getElem?_eq_some_iff.1 HP5.out).1).trans HP5.out)
      clear hb
      (try go_wp2_with fail)
      refine hK.out _ _ (by first | exact ⟨HZ5.out, HY5.out, HP5.out⟩ | exact ⟨HZ6.out, HY6.out, HP6.out⟩ | exact ⟨HZ7.out, HY7.out, HP7.out⟩) (fun hHeld => ?_)
      clear hK K
      (try simp only [Act.put, List.setIfInBounds_toArray, List.set_cons_zero, List.set_cons_succ])
      refine wpAnyT_one (i := 5) (o := ⟨some 34, _, _, _, _, _⟩) (by kernel_rfl) rfl (fun K hK => ?_)
      go_simp
      go_at_call 11
      refine (should_walk R d x _ HD.out).mono ?_
      rintro e w7 ⟨d', rfl, hd', hb⟩
      have HE2 := Lib.hid hd'
      clear hd'
      have HZ7 := Lib.hid ((hb.block _ (Array.getElem?_eq_some_iff.1 HZ6.out).1).trans HZ6.out)
      have HY7 := Lib.hid ((hb.block _ (Array.getElem?_eq_some_iff.1 HY6.out).1).trans HY6.out)
      have HC7 := Lib.hid (S.later HC6.out hb)
      have HV7 := Lib.hid (HV6.out.trans (hb.mono (Nat.le_trans (Nat.le_of_lt HXV.out) HV6.out.size)))
      have HP7 := Lib.hid ((hb.block _ (Array.getElem?_eq_some_iff.1 HP6.out).1).trans HP6.out)
      have HN7 := Lib.hid (S.later HN6.out hb)
      clear hb
      (try go_wp2_with fail)
      refine hK.out _ _ (by first | exact ⟨HZ5.out, HY5.out, HP5.out⟩ | exact ⟨HZ6.out, HY6.out, HP6.out⟩ | exact ⟨HZ7.out, HY7.out, HP7.out⟩) (fun hHeld => ?_)
      clear hK K
      (try simp only [Act.put, List.setIfInBounds_toArray, List.set_cons_zero, List.set_cons_succ])
      refine wpAnyT_last (i := 6) (o := ⟨none, _, _, _, _, _⟩) (by kernel_rfl) (by decide) rfl (fun K hK => ?_)
      rw [if_pos (by rfl)]
      refine st_agg_wp 27 _ _ rfl (X) c' rfl rfl 27 c HZ7.out (by rw [S.size HN7.out]; exact srow_info) (by rw [S.size HC7.out, S.size HN7.out]) (S.one HN7.out) ?_
      intro w8 h k
      have HZ8 := Lib.hid h
      have HY8 := Lib.hid (k.other HY7.out (by omega))
      have HN8 := Lib.hid (S.but HN7.out k HZ7.out (by decide))
      have HP8 := Lib.hid (k.other HP7.out (by have := HS4.out; omega))
      have HV8 := Lib.hid (HV7.out.trans (k.below (Nat.le_refl _)))
      clear h k
      refine hK.out _ _ ?_
      clear hK K
      (try simp only [Act.put, List.setIfInBounds_toArray, List.set_cons_zero, List.set_cons_succ])
      refine wpAnyT_last (i := 7) (o := ⟨none, _, _, _, _, _⟩) (by kernel_rfl) (by decide) rfl (fun K hK => ?_)
      rw [if_pos (by rfl)]
      refine st_agg_wp 31 _ _ rfl ((X + 1)) d' rfl rfl 31 d HY8.out (by rw [HE2.out.size]; exact row_info) (by rw [HD.out.size, HE2.out.size]) HE2.out.one ?_
      intro w9 h k
      have HY9 := Lib.hid h
      have HZ9 := Lib.hid (k.other HZ8.out (by omega))
      have HC9 := Lib.hid (S.but HN8.out k HY8.out (by decide))
      have HP9 := Lib.hid (k.other HP8.out (by have := (Array.getElem?_eq_some_iff.1 HY4.out).1; omega))
      have HV9 := Lib.hid (HV8.out.trans (k.below (by omega)))
      clear h k
      refine hK.out _ _ ?_
      clear hK K
      (try simp only [Act.put, List.setIfInBounds_toArray, List.set_cons_zero, List.set_cons_succ])
      refine wpAnyT_done (by kernel_rfl) ?_ _
      go_wp2_with fail
      case roundEnd => exact ⟨⟨n + 1, c', d', doR R x, by omega, by go_num, HZ9.out, HY9.out, HC9.out, HE2.out, HV9.out⟩, by simp [intOf]; omega⟩
    · obtain rfl : n = l.length := by omega
      have HMAP := Lib.hid (SM.map wr R c HC4.out (S.tab hT HW4.out) w.heap.size (ruleX k) 18 (enters_of Tryd.func18 (by kernel_rfl) rfl)
        (fun V' hb' i' x' => rule_calls k w.heap.size V' ((hb'.cell (p := ⟨w.heap.size, 0, none⟩) (Array.getElem?_eq_some_iff.1 HA4.out).1).trans (cell_in HA4.out rfl)) i' x') (fun i' x' => rule_in k i' x'))
      go_upto_region 11 with (first
        | (refine ld_if rfl 27 _ rfl (X) rfl 27 _ _ _ HZ4.out Tryd.underlying27 rfl (by rw [S.size HC4.out]; exact srow_info) ?_)
        | (go_at_call 17; refine HMAP.out.mono ?_; rintro e w5 ⟨cm, rfl, hcm, hb⟩; have HM5 := Lib.hid hcm; clear hcm; have HZ5 := Lib.hid ((hb.block _ (Array.getElem?_eq_some_iff.1 HZ4.out).1).trans HZ4.out); have HY5 := Lib.hid ((hb.block _ (Array.getElem?_eq_some_iff.1 HY4.out).1).trans HY4.out); have HC5 := Lib.hid (S.later HC4.out hb); have HA5 := Lib.hid ((hb.block _ (Array.getElem?_eq_some_iff.1 HA4.out).1).trans HA4.out); have HW5 := Lib.hid (HW4.out.trans (hb.mono HW4.out.size)); clear hb)
        | (refine st_agg rfl 27 _ _ rfl w5.heap.size cm rfl rfl 27 zeroS (heap_alloc_last w5 _) (by rw [S.size HM5.out]; exact srow_info) (by rw [S.size HM5.out]; rfl) (S.one HM5.out) ?_; intro w6 h6 k6; have HQ6 := Lib.hid h6; have HK6 := Lib.hid k6; clear h6 k6))
      obtain ⟨M, hM⟩ : ∃ M, M = w5.heap.size := ⟨_, rfl⟩
      have hb6 : Below w5.heap.size w5 w6 := (Below.newly' w5 _).trans (HK6.out.below (Nat.le_refl _))
      have HZ6 := Lib.hid ((hb6.block _ (Array.getElem?_eq_some_iff.1 HZ5.out).1).trans HZ5.out)
      have HY6 := Lib.hid ((hb6.block _ (Array.getElem?_eq_some_iff.1 HY5.out).1).trans HY5.out)
      have HA6 := Lib.hid ((hb6.block _ (Array.getElem?_eq_some_iff.1 HA5.out).1).trans HA5.out)
      have HC6 := Lib.hid (S.later HC5.out hb6)
      have HM6 := Lib.hid (S.later HM5.out hb6)
      have HW6 := Lib.hid (HW5.out.trans (hb6.mono HW5.out.size))
      rw [← hM] at HQ6 ⊢
      clear hb6 hM HK6 HMAP HLO HLC HLI HZ5 HY5 HA5 HC5 HM5 HW5 HZ4 HY4 HA4 HC4 HV4 HW4 HS4
      go_wp2_with fail
      go_loopw [39] (fun i wl => ∃ n : Nat, n ≤ 32 ∧ i = .int .i64 n ∧ Below w6.heap.size w6 wl) (fun i _ => 32 - (intOf i).toNat)
      case atStart => exact ⟨0, by omega, rfl, Below.refl _ _⟩
      case round =>
        obtain ⟨n, hn, rfl, hb⟩ := hrel
        have HL7 := Lib.hid hb
        have HZ7 := Lib.hid ((hb.block _ (Array.getElem?_eq_some_iff.1 HZ6.out).1).trans HZ6.out)
        have HY7 := Lib.hid ((hb.block _ (Array.getElem?_eq_some_iff.1 HY6.out).1).trans HY6.out)
        have HC7 := Lib.hid (S.later HC6.out hb)
        have HM7 := Lib.hid (S.later HM6.out hb)
        have HA7 := Lib.hid ((hb.block _ (Array.getElem?_eq_some_iff.1 HA6.out).1).trans HA6.out)
        have HQ7 := Lib.hid ((hb.block _ (Array.getElem?_eq_some_iff.1 HQ6.out).1).trans HQ6.out)
        have HW7 := Lib.hid (HW6.out.trans (hb.mono HW6.out.size))
        clear hb
        by_cases hlt : n < 32
        · have HG := Lib.hid (fun W => ref_Get6 R d HD.out (n : Int) W)
          have HH := Lib.hid (fun W (h : At W (mapR R (ruleX k)) cm) => S.get W _ cm (n : Int) h ⟨by omega, by omega⟩)
          have hlt' : (n : Int) < 32 := by omega
          rw [get_on hlt] at HG HH
          cases hr : R n with
          | none =>
            rw [hr] at HG
            rw [show mapR R (ruleX k) n = none by unfold mapR; rw [hr]; rfl] at HH
            simp only [Option.getD_none, Option.isSome_none] at HG HH
            clear hr
            go_wp2_with (first
              | (refine ld_if rfl 31 _ rfl (X + 1) rfl 31 _ _ _ HY7.out Tryd.underlying31 rfl (by rw [HD.out.size]; exact row_info) ?_)
              | (go_at_call 13; refine (HG.out _).mono ?_; rintro e w8 ⟨rfl, hb⟩; have HL8 := Lib.hid (HL7.out.trans (hb.mono HL7.out.size)); have HZ8 := Lib.hid ((hb.block _ (Array.getElem?_eq_some_iff.1 HZ7.out).1).trans HZ7.out); have HY8 := Lib.hid ((hb.block _ (Array.getElem?_eq_some_iff.1 HY7.out).1).trans HY7.out); have HC8 := Lib.hid (S.later HC7.out hb); have HM8 := Lib.hid (S.later HM7.out hb); have HA8 := Lib.hid ((hb.block _ (Array.getElem?_eq_some_iff.1 HA7.out).1).trans HA7.out); have HQ8 := Lib.hid ((hb.block _ (Array.getElem?_eq_some_iff.1 HQ7.out).1).trans HQ7.out); have HW8 := Lib.hid (HW7.out.trans (hb.mono HW7.out.size)); clear hb)
              | (refine ld_if rfl 27 _ rfl (M) rfl 27 _ _ _ HQ8.out Tryd.underlying27 rfl (by rw [S.size HM8.out]; exact srow_info) ?_)
              | (go_at_call 12; refine (HH.out _ HM8.out).mono ?_; rintro e w9 ⟨rfl, hb⟩; have HL9 := Lib.hid (HL8.out.trans (hb.mono HL8.out.size)); have HZ9 := Lib.hid ((hb.block _ (Array.getElem?_eq_some_iff.1 HZ8.out).1).trans HZ8.out); have HY9 := Lib.hid ((hb.block _ (Array.getElem?_eq_some_iff.1 HY8.out).1).trans HY8.out); have HC9 := Lib.hid (S.later HC8.out hb); have HM9 := Lib.hid (S.later HM8.out hb); have HA9 := Lib.hid ((hb.block _ (Array.getElem?_eq_some_iff.1 HA8.out).1).trans HA8.out); have HQ9 := Lib.hid ((hb.block _ (Array.getElem?_eq_some_iff.1 HQ8.out).1).trans HQ8.out); have HW9 := Lib.hid (HW8.out.trans (hb.mono HW8.out.size)); clear hb; have cK := cell_in (j := 0) (v := .int .i64 k) HA9.out rfl))
            go_roundw
            case rel => exact ⟨n + 1, by omega, by go_num, HL9.out⟩
            case measure => simp [intOf]; omega
          | some x =>
            rw [hr] at HG
            rw [show mapR R (ruleX k) n = some (bits .xor .i64 (bits .xor .i64 x (n : Int)) k) by unfold mapR; rw [hr]; rfl] at HH
            simp only [Option.getD_some, Option.isSome_some] at HG HH
            clear hr
            go_wp2_with (first
              | (refine ld_if rfl 31 _ rfl (X + 1) rfl 31 _ _ _ HY7.out Tryd.underlying31 rfl (by rw [HD.out.size]; exact row_info) ?_)
              | (go_at_call 13; refine (HG.out _).mono ?_; rintro e w8 ⟨rfl, hb⟩; have HL8 := Lib.hid (HL7.out.trans (hb.mono HL7.out.size)); have HZ8 := Lib.hid ((hb.block _ (Array.getElem?_eq_some_iff.1 HZ7.out).1).trans HZ7.out); have HY8 := Lib.hid ((hb.block _ (Array.getElem?_eq_some_iff.1 HY7.out).1).trans HY7.out); have HC8 := Lib.hid (S.later HC7.out hb); have HM8 := Lib.hid (S.later HM7.out hb); have HA8 := Lib.hid ((hb.block _ (Array.getElem?_eq_some_iff.1 HA7.out).1).trans HA7.out); have HQ8 := Lib.hid ((hb.block _ (Array.getElem?_eq_some_iff.1 HQ7.out).1).trans HQ7.out); have HW8 := Lib.hid (HW7.out.trans (hb.mono HW7.out.size)); clear hb)
              | (refine ld_if rfl 27 _ rfl (M) rfl 27 _ _ _ HQ8.out Tryd.underlying27 rfl (by rw [S.size HM8.out]; exact srow_info) ?_)
              | (go_at_call 12; refine (HH.out _ HM8.out).mono ?_; rintro e w9 ⟨rfl, hb⟩; have HL9 := Lib.hid (HL8.out.trans (hb.mono HL8.out.size)); have HZ9 := Lib.hid ((hb.block _ (Array.getElem?_eq_some_iff.1 HZ8.out).1).trans HZ8.out); have HY9 := Lib.hid ((hb.block _ (Array.getElem?_eq_some_iff.1 HY8.out).1).trans HY8.out); have HC9 := Lib.hid (S.later HC8.out hb); have HM9 := Lib.hid (S.later HM8.out hb); have HA9 := Lib.hid ((hb.block _ (Array.getElem?_eq_some_iff.1 HA8.out).1).trans HA8.out); have HQ9 := Lib.hid ((hb.block _ (Array.getElem?_eq_some_iff.1 HQ8.out).1).trans HQ8.out); have HW9 := Lib.hid (HW8.out.trans (hb.mono HW8.out.size)); clear hb; have cK := cell_in (j := 0) (v := .int .i64 k) HA9.out rfl))
            go_roundw
            case rel => exact ⟨n + 1, by omega, by go_num, HL9.out⟩
            case measure => simp [intOf]; omega
        · obtain rfl : n = 32 := by omega
          have hb := drawn_below wr
          have HZ8 := Lib.hid ((hb.block _ (Array.getElem?_eq_some_iff.1 HZ7.out).1).trans HZ7.out)
          have HY8 := Lib.hid ((hb.block _ (Array.getElem?_eq_some_iff.1 HY7.out).1).trans HY7.out)
          have HC8 := Lib.hid (S.later HC7.out hb)
          have HM8 := Lib.hid (S.later HM7.out hb)
          have HQ8 := Lib.hid ((hb.block _ (Array.getElem?_eq_some_iff.1 HQ7.out).1).trans HQ7.out)
          have HW8 := Lib.hid (HW7.out.trans (hb.mono HW7.out.size))
          clear hb
          have hmb := map_bits R (ruleX k) 32
          go_upto_region 19 with fail
          refine wp_region_T (S := fun W => W.heap[M]? = some (.cells cm 27 (0, 0)) ∧ W.heap[X + 1]? = some (.cells d 31 (0, 0)) ∧ W.heap[X]? = some (.cells c 27 (0, 0))) [] (by kernel_rfl) (by first | exact ⟨HQ8.out, HY8.out, HZ8.out⟩ | exact ⟨HQ9.out, HY9.out, HZ9.out⟩ | exact ⟨HQ10.out, HY10.out, HZ10.out⟩ | exact ⟨HQ11.out, HY11.out, HZ11.out⟩) (fun hHeld => ?_)
          refine wpAnyT_take (i := 0) (oi := ⟨some 70, _, _, _, _, _⟩) (v := _) rfl (by kernel_rfl) (by kernel_rfl) (by kernel_rfl) (by kernel_rfl) (fun _ _ _ h => h) (yieldsIf_load_row (by rfl) 27 _ rfl M rfl cm 27 (0, 0) _ (fun w hw => hw.1) Tryd.underlying27 rfl (by rw [S.size HM8.out]; exact srow_info)) (by assumption) ?_
          (try simp only [Act.put, List.setIfInBounds_toArray, List.set_cons_zero, List.set_cons_succ])
          refine wpAnyT_take (i := 2) (oi := ⟨some 72, _, _, _, _, _⟩) (v := _) rfl (by kernel_rfl) (by kernel_rfl) (by kernel_rfl) (by kernel_rfl) (fun _ _ _ h => h) (yieldsIf_load_row (by rfl) 31 _ rfl (X + 1) rfl d 31 (0, 0) _ (fun w hw => hw.2.1) Tryd.underlying31 rfl (by rw [HD.out.size]; exact row_info)) (by assumption) ?_
          (try simp only [Act.put, List.setIfInBounds_toArray, List.set_cons_zero, List.set_cons_succ])
          refine wpAnyT_one (i := 1) (o := ⟨some 71, _, _, _, _, _⟩) (by kernel_rfl) rfl (fun K hK => ?_)
          go_simp
          go_at_call 19
          refine (S.bits _ _ cm HM8.out).mono ?_
          rintro e w9 ⟨rfl, hb⟩
          have HZ9 := Lib.hid ((hb.block _ (Array.getElem?_eq_some_iff.1 HZ8.out).1).trans HZ8.out)
          have HY9 := Lib.hid ((hb.block _ (Array.getElem?_eq_some_iff.1 HY8.out).1).trans HY8.out)
          have HC9 := Lib.hid (S.later HC8.out hb)
          have HM9 := Lib.hid (S.later HM8.out hb)
          have HQ9 := Lib.hid ((hb.block _ (Array.getElem?_eq_some_iff.1 HQ8.out).1).trans HQ8.out)
          have HW9 := Lib.hid (HW8.out.trans (hb.mono HW8.out.size))
          clear hb
          (try go_wp2_with fail)
          refine hK.out _ _ (by first | exact ⟨HQ8.out, HY8.out, HZ8.out⟩ | exact ⟨HQ9.out, HY9.out, HZ9.out⟩ | exact ⟨HQ10.out, HY10.out, HZ10.out⟩ | exact ⟨HQ11.out, HY11.out, HZ11.out⟩) (fun hHeld => ?_)
          clear hK K
          (try simp only [Act.put, List.setIfInBounds_toArray, List.set_cons_zero, List.set_cons_succ])
          refine wpAnyT_one (i := 3) (o := ⟨some 73, _, _, _, _, _⟩) (by kernel_rfl) rfl (fun K hK => ?_)
          go_simp
          go_at_call 20
          refine (ref_Bits6 R d HD.out _).mono ?_
          rintro e w10 ⟨rfl, hb⟩
          have HZ10 := Lib.hid ((hb.block _ (Array.getElem?_eq_some_iff.1 HZ9.out).1).trans HZ9.out)
          have HY10 := Lib.hid ((hb.block _ (Array.getElem?_eq_some_iff.1 HY9.out).1).trans HY9.out)
          have HC10 := Lib.hid (S.later HC9.out hb)
          have HM10 := Lib.hid (S.later HM9.out hb)
          have HQ10 := Lib.hid ((hb.block _ (Array.getElem?_eq_some_iff.1 HQ9.out).1).trans HQ9.out)
          have HW10 := Lib.hid (HW9.out.trans (hb.mono HW9.out.size))
          clear hb
          (try go_wp2_with fail)
          refine hK.out _ _ (by first | exact ⟨HQ8.out, HY8.out, HZ8.out⟩ | exact ⟨HQ9.out, HY9.out, HZ9.out⟩ | exact ⟨HQ10.out, HY10.out, HZ10.out⟩ | exact ⟨HQ11.out, HY11.out, HZ11.out⟩) (fun hHeld => ?_)
          clear hK K
          (try simp only [Act.put, List.setIfInBounds_toArray, List.set_cons_zero, List.set_cons_succ])
          refine wpAnyT_take (i := 4) (oi := ⟨some 74, _, _, _, _, _⟩) (v := ?vg2_4) rfl (by kernel_rfl) (by kernel_rfl) (by kernel_rfl) (by kernel_rfl) (fun _ _ _ h => h) (Or.inl ⟨by rfl, ?hg2_4⟩) (by assumption) ?rg2_4
          case hg2_4 => (intro w hSw; (try dsimp only at hSw); first | (go_simp; done) | (go_simp; with_reducible rfl))
          (try simp only [Act.put, List.setIfInBounds_toArray, List.set_cons_zero, List.set_cons_succ])
          refine wpAnyT_take (i := 5) (oi := ⟨some 75, _, _, _, _, _⟩) (v := ?vg2_5) rfl (by kernel_rfl) (by kernel_rfl) (by kernel_rfl) (by kernel_rfl) (fun _ _ _ h => h) (Or.inl ⟨by rfl, ?hg2_5⟩) (by assumption) ?rg2_5
          case hg2_5 => (intro w hSw; (try dsimp only at hSw); first | (go_simp; done) | (go_simp; with_reducible rfl))
          (try simp only [Act.put, List.setIfInBounds_toArray, List.set_cons_zero, List.set_cons_succ])
          refine wpAnyT_take (i := 6) (oi := ⟨some 76, _, _, _, _, _⟩) (v := _) rfl (by kernel_rfl) (by kernel_rfl) (by kernel_rfl) (by kernel_rfl) (fun _ _ _ h => h) (yieldsIf_load_row (by rfl) 27 _ rfl X rfl c 27 (0, 0) _ (fun w hw => hw.2.2) Tryd.underlying27 rfl (by rw [S.size HC8.out]; exact srow_info)) (by assumption) ?_
          (try simp only [Act.put, List.setIfInBounds_toArray, List.set_cons_zero, List.set_cons_succ])
          refine wpAnyT_take (i := 7) (oi := ⟨some 77, _, _, _, _, _⟩) (v := _) rfl (by kernel_rfl) (by kernel_rfl) (by kernel_rfl) (by kernel_rfl) (fun _ _ _ h => h) (yieldsIf_load_row (by rfl) 31 _ rfl (X + 1) rfl d 31 (0, 0) _ (fun w hw => hw.2.1) Tryd.underlying31 rfl (by rw [HD.out.size]; exact row_info)) (by assumption) ?_
          (try simp only [Act.put, List.setIfInBounds_toArray, List.set_cons_zero, List.set_cons_succ])
          refine wpAnyT_one (i := 8) (o := ⟨some 78, _, _, _, _, _⟩) (by kernel_rfl) rfl (fun K hK => ?_)
          go_simp
          go_at_call 14
          refine (same_walk S R c d _ HC10.out HD.out (S.tab hT HW10.out)).mono ?_
          rintro e w11 ⟨rfl, hb⟩
          have HZ11 := Lib.hid ((hb.block _ (Array.getElem?_eq_some_iff.1 HZ10.out).1).trans HZ10.out)
          have HY11 := Lib.hid ((hb.block _ (Array.getElem?_eq_some_iff.1 HY10.out).1).trans HY10.out)
          have HC11 := Lib.hid (S.later HC10.out hb)
          have HM11 := Lib.hid (S.later HM10.out hb)
          have HQ11 := Lib.hid ((hb.block _ (Array.getElem?_eq_some_iff.1 HQ10.out).1).trans HQ10.out)
          have HW11 := Lib.hid (HW10.out.trans (hb.mono HW10.out.size))
          clear hb
          (try go_wp2_with fail)
          refine hK.out _ _ (by first | exact ⟨HQ8.out, HY8.out, HZ8.out⟩ | exact ⟨HQ9.out, HY9.out, HZ9.out⟩ | exact ⟨HQ10.out, HY10.out, HZ10.out⟩ | exact ⟨HQ11.out, HY11.out, HZ11.out⟩) (fun hHeld => ?_)
          clear hK K
          (try simp only [Act.put, List.setIfInBounds_toArray, List.set_cons_zero, List.set_cons_succ])
          refine wpAnyT_take (i := 9) (oi := ⟨some 79, _, _, _, _, _⟩) (v := ?vg2_9) rfl (by kernel_rfl) (by kernel_rfl) (by kernel_rfl) (by kernel_rfl) (fun _ _ _ h => h) (Or.inl ⟨by rfl, ?hg2_9⟩) (by assumption) ?rg2_9
          case hg2_9 => (intro w hSw; (try dsimp only at hSw); first | (go_simp; done) | (go_simp; with_reducible rfl))
          (try simp only [Act.put, List.setIfInBounds_toArray, List.set_cons_zero, List.set_cons_succ])
          refine wpAnyT_take (i := 10) (oi := ⟨some 4, _, _, _, _, _⟩) (v := ?vg2_10) rfl (by kernel_rfl) (by kernel_rfl) (by kernel_rfl) (by kernel_rfl) (fun _ _ _ h => h) (Or.inl ⟨by rfl, ?hg2_10⟩) (by assumption) ?rg2_10
          case hg2_10 => (intro w hSw; (try dsimp only at hSw); first | (go_simp; done) | (go_simp; with_reducible rfl))
          (try simp only [Act.put, List.setIfInBounds_toArray, List.set_cons_zero, List.set_cons_succ])
          refine wpAnyT_done (by kernel_rfl) ?_ _
          go_wp2_with fail
          go_ret
          exact ⟨rfl, HW11.out⟩
end
end Go.Proofs.YtmdfpkklnaekmaaDoor
