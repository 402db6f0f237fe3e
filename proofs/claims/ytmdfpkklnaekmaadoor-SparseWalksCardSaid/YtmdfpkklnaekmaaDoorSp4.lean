/- Package sparse: Set, Cut. (written by tools/gen06/spset.py) -/
import Derived.Test.YtmdfpkklnaekmaaDoorSp3
import Derived.Test.YtmdfpkklnaekmaaDoorRegionY
import Derived.Deep.Cut
namespace Go.Proofs.YtmdfpkklnaekmaaDoor
open Go.RowKit
set_option maxRecDepth 1000000
set_option linter.unusedSimpArgs false

theorem zeroRow_info : (Tryd.prog.info? 27).map (·.size) = some 2 := by kernel_rfl
/-- 'list[:lo]' and 'list[hi:]'. -/
theorem sp_cuts {W : World} {v : Value} {l : List Int} (h : LisAt W v l) (lo hi : Nat) (hlo : lo ≤ l.length) (hhi : hi ≤ l.length) : ∃ a1 n1 c1 a3 n3 c3, SegAt W (.slice a1 n1 c1) (l.take lo) ∧ SegAt W (.slice a3 n3 c3) (l.drop hi) ∧
    (∀ w, (Instr.slice 25 v none (some (.int .i64 (lo : Int))) none).run Tryd.prog w = .ok (.slice a1 n1 c1) w) ∧ (∀ w, (Instr.slice 25 v (some (.int .i64 (hi : Int))) none none).run Tryd.prog w = .ok (.slice a3 n3 c3) w) := by
  have hu : Tryd.prog.underlying 25 = some (.slice (Tryd.prog.elem 25)) := by kernel_rfl
  have hs : ∀ w, (sizeOf (Tryd.prog.elem 25)).run Tryd.prog w = .ok 1 w := fun w => by
    have e : Tryd.prog.elem 25 = 3 := by kernel_rfl
    rw [e]
    obtain ⟨i, hi, _, h1, _⟩ := info_parts int_info
    simp [sizeOf, typeInfo, hi, h1]
  rcases h with ⟨rfl, rfl⟩ | ⟨h0, g, c, cs, fr, rfl, h2, h3, h4⟩
  · obtain rfl : lo = 0 := by simpa using hlo
    obtain rfl : hi = 0 := by simpa using hhi
    refine ⟨none, 0, 0, none, 0, 0, ⟨none, 0, rfl, fun h => absurd h (by simp)⟩, ⟨none, 0, rfl, fun h => absurd h (by simp)⟩, fun w => ?_, fun w => ?_⟩
    · rw [run_slice_h w _ _ _ _ hu _ _ (by simp) (by simp), hs]; rfl
    · rw [run_slice_l w _ _ _ _ hu _ _ (by simp) (by simp), hs]; rfl
  · refine ⟨some ⟨g, 0, none⟩, lo, c, (if c = hi then some ⟨g, 0, none⟩ else some ⟨g, hi, none⟩), l.length - hi, c - hi, ⟨_, c, by rw [List.length_take, Nat.min_eq_left hlo], fun _ => ⟨_, rfl, fun j u hu => ?_⟩⟩, ⟨_, c - hi, by rw [List.length_drop], fun hp => ?_⟩, fun w => ?_, fun w => ?_⟩
    · rw [add_at, Nat.zero_add]
      refine cell_in h3 (h4 j u ?_)
      rw [iv, List.map_take, List.getElem?_take] at hu
      split at hu
      · exact hu
      · cases hu
    · rw [List.length_drop] at hp
      rw [if_neg (by omega)]
      refine ⟨_, rfl, fun j u hu => ?_⟩
      rw [add_at]
      refine cell_in h3 (h4 (hi + j) u ?_)
      rw [iv, List.map_drop, List.getElem?_drop] at hu
      exact hu
    · rw [run_slice_h w _ _ _ _ hu _ _ (by omega) (by omega), hs]
      simp only [Result.andThen_ok, sliced, Int.toNat_natCast, Nat.sub_zero, Nat.zero_mul, Option.map_some, add_at, Nat.add_zero, ite_self]
    · rw [run_slice_l w _ _ _ _ hu _ _ (by omega) (by omega), hs]
      simp only [Result.andThen_ok, sliced, Int.toNat_natCast, Nat.mul_one, Option.map_some, add_at, Nat.zero_add]
theorem sp_join3 (w : World) (v1 v3 : Value) (l1 l3 : List Int) (x : Int) (h1 : SegAt w v1 l1) (h3 : SegAt w v3 l3) (hl : l1.length + l3.length ≤ 4000) :
    Calls Tryd.prog 37 #[.slice (some ⟨w.heap.size + 1, 0, none⟩) 3 3] ((w.alloc (.cells #[.int .i64 x] 3)).alloc (.cells #[v1, .slice (some ⟨w.heap.size, 0, none⟩) 1 1, v3] 25))
      fun e w' => ∃ a n c, e = .returned (.slice a n c) ∧ LisAt w' (.slice a n c) (l1 ++ ([x] ++ l3)) ∧ Below ((w.alloc (.cells #[.int .i64 x] 3)).alloc (.cells #[v1, .slice (some ⟨w.heap.size, 0, none⟩) 1 1, v3] 25)).heap.size ((w.alloc (.cells #[.int .i64 x] 3)).alloc (.cells #[v1, .slice (some ⟨w.heap.size, 0, none⟩) 1 1, v3] 25)) w' := by
  have hb : Below w.heap.size w ((w.alloc (.cells #[.int .i64 x] 3)).alloc (.cells #[v1, .slice (some ⟨w.heap.size, 0, none⟩) 1 1, v3] 25)) := Below.more (Below.newly' _ _) _
  have hx : ((w.alloc (.cells #[.int .i64 x] 3)).alloc (.cells #[v1, .slice (some ⟨w.heap.size, 0, none⟩) 1 1, v3] 25)).heap[w.heap.size]? = some (.cells #[.int .i64 x] 3 (0, 0)) :=
    ((Below.newly' _ _).block _ (by simp)).trans (heap_alloc_last _ _)
  have hB := heap_alloc_last (w.alloc (.cells #[.int .i64 x] 3)) (.cells #[v1, .slice (some ⟨w.heap.size, 0, none⟩) 1 1, v3] 25)
  have hsz : (w.alloc (.cells #[.int .i64 x] 3)).heap.size = w.heap.size + 1 := by simp
  rw [hsz] at hB
  generalize ((w.alloc (.cells #[.int .i64 x] 3)).alloc (.cells #[v1, .slice (some ⟨w.heap.size, 0, none⟩) 1 1, v3] 25)) = W at hb hx hB
  have := sp_joined W (w.heap.size + 1) [(v1, l1), (.slice (some ⟨w.heap.size, 0, none⟩) 1 1, [x]), (v3, l3)] (fun k hk => by
      match k, hk with
      | 0, _ => exact cell_in hB rfl
      | 1, _ => exact cell_in hB rfl
      | 2, _ => exact cell_in hB rfl) (fun k hk => by
      match k, hk with
      | 0, _ => exact h1.later hb
      | 1, _ => exact ⟨_, 1, rfl, fun _ => ⟨_, rfl, fun j u hu => by
          rw [add_at, Nat.zero_add]
          refine cell_in hx ?_
          simpa [iv] using hu⟩⟩
      | 2, _ => exact h3.later hb) (by simp [catL]; omega) (by simp)
  simpa [catL] using this
theorem sp_join2 (w : World) (v1 v3 : Value) (l1 l3 : List Int) (h1 : SegAt w v1 l1) (h3 : SegAt w v3 l3) (hl : l1.length + l3.length ≤ 4000) :
    Calls Tryd.prog 37 #[.slice (some ⟨w.heap.size, 0, none⟩) 2 2] (w.alloc (.cells #[v1, v3] 25))
      fun e w' => ∃ a n c, e = .returned (.slice a n c) ∧ LisAt w' (.slice a n c) (l1 ++ l3) ∧ Below (w.alloc (.cells #[v1, v3] 25)).heap.size (w.alloc (.cells #[v1, v3] 25)) w' := by
  have hb : Below w.heap.size w (w.alloc (.cells #[v1, v3] 25)) := Below.newly' _ _
  have hB := heap_alloc_last w (.cells #[v1, v3] 25)
  generalize (w.alloc (.cells #[v1, v3] 25)) = W at hb hB
  have := sp_joined W (w.heap.size) [(v1, l1), (v3, l3)] (fun k hk => by
      match k, hk with
      | 0, _ => exact cell_in hB rfl
      | 1, _ => exact cell_in hB rfl) (fun k hk => by
      match k, hk with
      | 0, _ => exact h1.later hb
      | 1, _ => exact h3.later hb) (by simp [catL]; omega) (by simp)
  simpa [catL] using this
theorem keep_new {w : World} {X : Nat} {o : Obj} {a b : Value} (h : w.cell? ⟨X, 0, none⟩ = some a ∧ w.cell? ⟨X, 1, none⟩ = some b) : (w.alloc o).cell? ⟨X, 0, none⟩ = some a ∧ (w.alloc o).cell? ⟨X, 1, none⟩ = some b :=
  ⟨((Below.newly' w o).cell (p := ⟨X, 0, none⟩) (World.block_lt_of_cell? w _ h.1)).trans h.1, ((Below.newly' w o).cell (p := ⟨X, 1, none⟩) (World.block_lt_of_cell? w _ h.2)).trans h.2⟩
theorem keep_below {w w' : World} {X : Nat} {a b : Value} (h : w.cell? ⟨X, 0, none⟩ = some a ∧ w.cell? ⟨X, 1, none⟩ = some b) (hb : Below w.heap.size w w') : w'.cell? ⟨X, 0, none⟩ = some a ∧ w'.cell? ⟨X, 1, none⟩ = some b :=
  ⟨(hb.cell (p := ⟨X, 0, none⟩) (World.block_lt_of_cell? w _ h.1)).trans h.1, (hb.cell (p := ⟨X, 1, none⟩) (World.block_lt_of_cell? w _ h.2)).trans h.2⟩
set_option maxHeartbeats 4000000 in
theorem sp_Set (W : World) (R : Rw) (c : Array Value) (i x : Int) (h : At6 W R c) (hx : -9223372036854775808 ≤ x ∧ x ≤ 9223372036854775807) :
    Calls Tryd.prog 25 #[.agg c, .int .i64 i, .int .i64 x] W fun e W' => ∃ c', e = .returned (.agg c') ∧ At6 W' (setR R i x) c' ∧ Below W.heap.size W W' := by
  by_cases ho : onP i = true
  · have hok := h.1.set i x hx
    obtain ⟨_, v, rfl, h2⟩ := h
    obtain ⟨j, rfl, hj⟩ := on_nat ho
    have HB := Lib.hid (sp_bit_on j hj)
    have hz := set_bits R x hj
    have hm := and_bit_on R hj
    have hm0 := and_bit_off R (j := j)
    obtain ⟨b', hb'⟩ : ∃ b', b' = bitsR (setR R (j : Int) x) 32 := ⟨_, rfl⟩
    rw [← hb'] at hz
    obtain ⟨p, hp⟩ : ∃ p, p = 2 ^ j := ⟨_, rfl⟩
    rw [← hp] at HB hz hm hm0
    have hpn : ((p : Int) == 0) = false := beq_eq_false_iff_ne.2 (by have : 0 < p := by rw [hp]; exact Nat.two_pow_pos j
                                                                     omega)
    have HA := Lib.hid (fun w => sp_around (bitsR R 32) (lt_32 R) v j hj w)
    rw [rk_cnt R j (by omega), rk_cnt R (j + 1) (by omega)] at HA
    have HOK := Lib.hid hok
    have HL := Lib.hid h2
    have HS := Lib.hid (lis_set R x hj)
    have hc1 := cnt_mono R (show j ≤ j + 1 by omega)
    have hc2 := cnt_mono R (show j + 1 ≤ 32 by omega)
    have hc3 := cnt_le R 32
    have HLEN := Lib.hid (show ((lisR R).take (cntR R j)).length + ((lisR R).drop (cntR R (j + 1))).length ≤ 4000 by rw [List.length_take, List.length_drop, lisR_len]; omega)
    rw [← lisR_len] at hc2
    obtain ⟨a1, n1, c1, a3, n3, c3, hs1, hs3, hr1, hr3⟩ := sp_cuts h2 (cntR R j) (cntR R (j + 1)) (by omega) hc2
    have HS1' := Lib.hid hs1
    have HS3' := Lib.hid hs3
    clear hs1 hs3
    clear ho h2 hok hc1 hc2 hc3
    have HP := Lib.hid hp
    have HB' := Lib.hid hb'
    clear hp hb'
    clear hm hm0
    go_enter Tryd.func25, Tryd.ntmps25
    go_upto_region 4 with (first
      | (go_at_call 30; refine (HB.out _).mono ?_; rintro e w1 ⟨rfl, rfl⟩)
      | (go_at_call 31; refine (HA.out _).mono ?_; rintro e w3 ⟨rfl, hb⟩))
    obtain ⟨w2, hw2⟩ : ∃ w2, w2 = (W.alloc (.cells #[.int .u32 (bitsR R 32 : Nat), v] 27)).alloc (.cells #[.int .u32 0, .slice none 0 0] 27) := ⟨_, rfl⟩
    have hb2 : Below W.heap.size W w2 := by rw [hw2]; exact Below.more (Below.newly' _ _) _
    have hX2 : w2.heap[W.heap.size]? = some (.cells #[.int .u32 (bitsR R 32 : Nat), v] 27 (0, 0)) := by rw [hw2]; exact ((Below.newly' _ _).block _ (by simp)).trans (heap_alloc_last _ _)
    have hY2 : w2.heap[W.heap.size + 1]? = some (.cells #[.int .u32 0, .slice none 0 0] 27 (0, 0)) := by
      have h := heap_alloc_last (W.alloc (.cells #[.int .u32 (bitsR R 32 : Nat), v] 27)) (.cells #[.int .u32 0, .slice none 0 0] 27)
      rw [hw2]
      simpa using h
    rw [← hw2] at hb
    clear hw2
    have hs2 := (Array.getElem?_eq_some_iff.1 hY2).1
    have hX3 := (hb.block _ (by omega)).trans hX2
    have hY3 := (hb.block _ hs2).trans hY2
    have hb3 : Below W.heap.size W w3 := hb2.trans (hb.mono (by omega))
    have HSZ := Lib.hid (show W.heap.size + 1 < w3.heap.size from (Array.getElem?_eq_some_iff.1 hY3).1)
    have HK : Hid (w3.drew.cell? ⟨W.heap.size, 0, none⟩ = some (.int .u32 (bitsR R 32 : Nat)) ∧ w3.drew.cell? ⟨W.heap.size, 1, none⟩ = some v) := ⟨cell_in (W := w3) hX3 rfl, cell_in (W := w3) hX3 rfl⟩
    have HY : Hid (w3.drew.heap[W.heap.size + 1]? = some (.cells #[.int .u32 0, .slice none 0 0] 27 (0, 0))) := hY3
    have HS1 : Hid (SegAt w3.drew (.slice a1 n1 c1) ((lisR R).take (cntR R j))) := HS1'.out.later (hb3.trans (Below.drewMany (Below.refl _ w3) 1))
    have HS3 : Hid (SegAt w3.drew (.slice a3 n3 c3) ((lisR R).drop (cntR R (j + 1)))) := HS3'.out.later (hb3.trans (Below.drewMany (Below.refl _ w3) 1))
    have HB3 := Lib.hid hb3
    clear hs2 hX2 hY2 hX3 hY3 hb2 hb3 hb HS1' HS3'
    refine wp_region_T (S := (fun V => V.cell? ⟨W.heap.size, 0, none⟩ = some (.int .u32 (bitsR R 32 : Nat)) ∧ V.cell? ⟨W.heap.size, 1, none⟩ = some v)) [18] (by kernel_rfl) (by first | exact HK.out | exact keep_new HK.out | exact keep_new (keep_new HK.out) | exact HK5.out) (fun hHeld => ?_)
    refine wpAnyT_take (i := 0) (oi := ⟨some 19, _, _, _, _, _⟩) (v := ?vg1_0) rfl (by kernel_rfl) (by kernel_rfl) (by kernel_rfl) (by kernel_rfl) (fun _ _ _ h => h) (Or.inl ⟨by rfl, ?hg1_0⟩) (by assumption) ?rg1_0
    case hg1_0 => (intro w hSw; (try dsimp only at hSw); first | (go_simp; done) | (go_simp; with_reducible rfl))
    (try simp only [Act.put, List.setIfInBounds_toArray, List.set_cons_zero, List.set_cons_succ])
    refine wpAnyT_take (i := 1) (oi := ⟨some 20, _, _, _, _, _⟩) (v := ?vg1_1) rfl (by kernel_rfl) (by kernel_rfl) (by kernel_rfl) (by kernel_rfl) (fun _ _ _ h => h) (Or.inl ⟨by rfl, ?hg1_1⟩) (by assumption) ?rg1_1
    case hg1_1 => (intro w hSw; (try dsimp only at hSw); first | (go_simp; done) | (go_simp; with_reducible rfl))
    (try simp only [Act.put, List.setIfInBounds_toArray, List.set_cons_zero, List.set_cons_succ])
    refine wpAnyT_take (i := 2) (oi := ⟨some 21, _, _, _, _, _⟩) (v := ?vg1_2) rfl (by kernel_rfl) (by kernel_rfl) (by kernel_rfl) (by kernel_rfl) (fun _ _ _ h => h) (Or.inl ⟨by rfl, ?hg1_2⟩) (by assumption) ?rg1_2
    case hg1_2 => (intro w hSw; (try dsimp only at hSw); first | (go_simp; done) | (go_simp; with_reducible rfl))
    (try simp only [Act.put, List.setIfInBounds_toArray, List.set_cons_zero, List.set_cons_succ])
    refine wpAnyT_takeC (i := 3) (oi := ⟨some 22, _, _, _, _, _⟩) (v := .int .u32 (p : Int)) rfl (by kernel_rfl) (by kernel_rfl) (by kernel_rfl) (by kernel_rfl) (fun _ _ _ h => h) ⟨by rfl, fun w hSw => ⟨30, #[.int .i64 (j : Int)], ?hg1_3, HB.out w⟩⟩ (by assumption) ?rg1_3
    case hg1_3 => go_simp
    (try simp only [Act.put, List.setIfInBounds_toArray, List.set_cons_zero, List.set_cons_succ])
    refine wpAnyT_take (i := 4) (oi := ⟨some 23, _, _, _, _, _⟩) (v := ?vg1_4) rfl (by kernel_rfl) (by kernel_rfl) (by kernel_rfl) (by kernel_rfl) (fun _ _ _ h => h) (Or.inl ⟨by rfl, ?hg1_4⟩) (by assumption) ?rg1_4
    case hg1_4 => (intro w hSw; (try dsimp only at hSw); first | (go_simp; done) | (go_simp; with_reducible rfl))
    (try simp only [Act.put, List.setIfInBounds_toArray, List.set_cons_zero, List.set_cons_succ])
    refine wpAnyT_take (i := 5) (oi := ⟨some 24, _, _, _, _, _⟩) (v := ?vg1_5) rfl (by kernel_rfl) (by kernel_rfl) (by kernel_rfl) (by kernel_rfl) (fun _ _ _ h => h) (Or.inl ⟨by rfl, ?hg1_5⟩) (by assumption) ?rg1_5
    case hg1_5 => (intro w hSw; (try dsimp only at hSw); first | (go_simp; done) | (go_simp; with_reducible rfl))
    (try simp only [Act.put, List.setIfInBounds_toArray, List.set_cons_zero, List.set_cons_succ])
    refine wpAnyT_take (i := 6) (oi := ⟨some 25, _, _, _, _, _⟩) (v := ?vg1_6) rfl (by kernel_rfl) (by kernel_rfl) (by kernel_rfl) (by kernel_rfl) (fun _ _ _ h => h) (Or.inl ⟨by rfl, ?hg1_6⟩) (by assumption) ?rg1_6
    case hg1_6 => (intro w hSw; (try dsimp only at hSw); first | (go_simp; done) | (go_simp; with_reducible rfl))
    (try simp only [Act.put, List.setIfInBounds_toArray, List.set_cons_zero, List.set_cons_succ])
    refine wpAnyT_take (i := 7) (oi := ⟨some 26, _, _, _, _, _⟩) (v := ?vg1_7) rfl (by kernel_rfl) (by kernel_rfl) (by kernel_rfl) (by kernel_rfl) (fun _ _ _ h => h) (Or.inl ⟨by rfl, ?hg1_7⟩) (by assumption) ?rg1_7
    case hg1_7 => (intro w hSw; (try dsimp only at hSw); first | (go_simp; done) | (go_simp; with_reducible rfl))
    (try simp only [Act.put, List.setIfInBounds_toArray, List.set_cons_zero, List.set_cons_succ])
    refine wpAnyT_take (i := 8) (oi := ⟨some 27, _, _, _, _, _⟩) (v := ?vg1_8) rfl (by kernel_rfl) (by kernel_rfl) (by kernel_rfl) (by kernel_rfl) (fun _ _ _ h => h) (Or.inl ⟨by rfl, ?hg1_8⟩) (by assumption) ?rg1_8
    case hg1_8 => (intro w hSw; (try dsimp only at hSw); first | (go_simp; done) | (go_simp; with_reducible rfl))
    (try simp only [Act.put, List.setIfInBounds_toArray, List.set_cons_zero, List.set_cons_succ])
    refine wpAnyT_take (i := 9) (oi := ⟨some 28, _, _, _, _, _⟩) (v := ?vg1_9) rfl (by kernel_rfl) (by kernel_rfl) (by kernel_rfl) (by kernel_rfl) (fun _ _ _ h => h) (Or.inl ⟨by rfl, ?hg1_9⟩) (by assumption) ?rg1_9
    case hg1_9 => (intro w hSw; (try dsimp only at hSw); first | (go_simp; done) | (go_simp; with_reducible rfl))
    (try simp only [Act.put, List.setIfInBounds_toArray, List.set_cons_zero, List.set_cons_succ])
    refine wpAnyT_take (i := 11) (oi := ⟨some 30, _, _, _, _, _⟩) (v := ?vg1_11) rfl (by kernel_rfl) (by kernel_rfl) (by kernel_rfl) (by kernel_rfl) (fun _ _ _ h => h) (Or.inl ⟨by rfl, ?hg1_11⟩) (by assumption) ?rg1_11
    case hg1_11 => (intro w hSw; (try dsimp only at hSw); first | (go_simp; done) | (go_simp; with_reducible rfl))
    (try simp only [Act.put, List.setIfInBounds_toArray, List.set_cons_zero, List.set_cons_succ])
    refine wpAnyT_take (i := 12) (oi := ⟨some 31, _, _, _, _, _⟩) (v := ?vg1_12) rfl (by kernel_rfl) (by kernel_rfl) (by kernel_rfl) (by kernel_rfl) (fun _ _ _ h => h) (Or.inl ⟨by rfl, ?hg1_12⟩) (by assumption) ?rg1_12
    case hg1_12 => (intro w hSw; (try dsimp only at hSw); first | (go_simp; done) | (go_simp; with_reducible rfl))
    (try simp only [Act.put, List.setIfInBounds_toArray, List.set_cons_zero, List.set_cons_succ])
    refine wpAnyT_take (i := 13) (oi := ⟨some 32, _, _, _, _, _⟩) (v := ?vg1_13) rfl (by kernel_rfl) (by kernel_rfl) (by kernel_rfl) (by kernel_rfl) (fun _ _ _ h => h) (Or.inl ⟨by rfl, ?hg1_13⟩) (by assumption) ?rg1_13
    case hg1_13 => (intro w hSw; (try dsimp only at hSw); first | (go_simp; done) | (go_simp; with_reducible rfl))
    (try simp only [Act.put, List.setIfInBounds_toArray, List.set_cons_zero, List.set_cons_succ])
    refine wpAnyT_take (i := 14) (oi := ⟨some 33, _, _, _, _, _⟩) (v := ?vg1_14) rfl (by kernel_rfl) (by kernel_rfl) (by kernel_rfl) (by kernel_rfl) (fun _ _ _ h => h) (Or.inl ⟨by rfl, ?hg1_14⟩) (by assumption) ?rg1_14
    case hg1_14 => (intro w hSw; (try dsimp only at hSw); first | (go_simp; done) | (go_simp; with_reducible rfl))
    (try simp only [Act.put, List.setIfInBounds_toArray, List.set_cons_zero, List.set_cons_succ])
    refine wpAnyT_one (i := 10) (o := ⟨some 29, _, _, _, _, _⟩) (by kernel_rfl) rfl (fun K hK => ?_)
    go_simp
    refine hK.out _ _ (by first | exact HK.out | exact keep_new HK.out | exact keep_new (keep_new HK.out) | exact HK5.out) (fun hHeld => ?_)
    clear hK K
    (try simp only [Act.put, List.setIfInBounds_toArray, List.set_cons_zero, List.set_cons_succ])
    refine wpAnyT_one (i := 15) (o := ⟨some 34, _, _, _, _, _⟩) (by kernel_rfl) rfl (fun K hK => ?_)
    go_simp
    refine hK.out _ _ (by first | exact HK.out | exact keep_new HK.out | exact keep_new (keep_new HK.out) | exact HK5.out) (fun hHeld => ?_)
    clear hK K
    (try simp only [Act.put, List.setIfInBounds_toArray, List.set_cons_zero, List.set_cons_succ])
    refine wpAnyT_one (i := 16) (o := ⟨some 35, _, _, _, _, _⟩) (by kernel_rfl) rfl (fun K hK => ?_)
    go_simp
    go_at_call 37
    refine (sp_join3 w3.drew _ _ _ _ x HS1.out HS3.out (by have := HLEN.out; omega)).mono ?_
    rintro e w5 ⟨a5, n5, c5, rfl, hl5, hb5⟩
    have HK5 := Lib.hid (keep_below (keep_new (keep_new HK.out)) hb5)
    have HY5 := Lib.hid ((hb5.block _ (by simp; have := HSZ.out; omega)).trans (((Below.newly' _ _).block _ (by simp; have := HSZ.out; omega)).trans (((Below.newly' _ _).block _ (by have := HSZ.out; simpa using (by omega : W.heap.size + 1 < w3.heap.size))).trans HY.out)))
    have HB5 := Lib.hid ((((HB3.out.trans (Below.drewMany (Below.refl _ w3) 1)).trans ((Below.more (Below.newly' _ _) _).mono (by have := HSZ.out; simpa using (by omega : W.heap.size ≤ w3.heap.size)))).trans (hb5.mono (by simp; have := HSZ.out; omega))))
    have HL5 := Lib.hid hl5
    clear hl5 hb5
    dsimp only
    refine hK.out _ _ (by first | exact HK.out | exact keep_new HK.out | exact keep_new (keep_new HK.out) | exact HK5.out) (fun hHeld => ?_)
    clear hK K
    (try simp only [Act.put, List.setIfInBounds_toArray, List.set_cons_zero, List.set_cons_succ])
    refine wpAnyT_take (i := 17) (oi := ⟨some 36, _, _, _, _, _⟩) (v := ?vg1_17) rfl (by kernel_rfl) (by kernel_rfl) (by kernel_rfl) (by kernel_rfl) (fun _ _ _ h => h) (Or.inl ⟨by rfl, ?hg1_17⟩) (by assumption) ?rg1_17
    case hg1_17 => (intro w hSw; (try dsimp only at hSw); first | (go_simp; done) | (go_simp; with_reducible rfl))
    (try simp only [Act.put, List.setIfInBounds_toArray, List.set_cons_zero, List.set_cons_succ])
    refine wpAnyT_last (i := 18) (o := ⟨none, _, _, _, _, _⟩) (by kernel_rfl) (by decide) rfl (fun K hK => ?_)
    refine st_agg_wp 27 _ _ rfl (W.heap.size + 1) #[.int .u32 (b' : Int), .slice a5 n5 c5] rfl rfl 27 #[.int .u32 0, .slice none 0 0] HY5.out zeroRow_info rfl (by simp [Value.oneCell']) ?_
    intro w6 h6 k6
    refine hK.out _ _ ?_
    clear hK K
    (try simp only [Act.put, List.setIfInBounds_toArray, List.set_cons_zero, List.set_cons_succ])
    refine wpAnyT_done (by kernel_rfl) ?_ _
    go_wp2_with fail
    refine bodyPost_ret (results_cell_row rfl _ _ (W.heap.size + 1) 27 _ (0, 0) _ rfl h6 Tryd.underlying27 rfl zeroRow_info) rfl ⟨_, rfl, ⟨HOK.out, _, by rw [HB'.out], ?_⟩, HB5.out.trans (k6.below (by omega))⟩
    have hl := HL5.out
    rw [← HS.out] at hl
    exact hl.kept k6.by_ (fun Y e => by cases e; exact ⟨_, _, _, HY5.out, by decide⟩)
  · rw [set_off ho]
    have HB := Lib.hid (sp_bit_off i ho)
    have hh := h
    obtain ⟨_, v, rfl, h2⟩ := hh
    obtain ⟨a, n, rfl, _⟩ := h2.shape
    have HH := Lib.hid h
    clear h2 ho h
    go_enter Tryd.func25, Tryd.ntmps25
    go_wp2_with (go_at_call 30; refine (HB.out _).mono ?_; rintro e w1 ⟨rfl, rfl⟩)
    have hl := heap_alloc_last (W.alloc (.cells #[.int .u32 (bitsR R 32 : Nat), .slice a (lisR R).length n] 27)) (.cells #[.int .u32 (bitsR R 32 : Nat), .slice a (lisR R).length n] 27)
    rw [World.size_alloc] at hl
    refine bodyPost_ret (results_cell_row rfl _ _ (W.heap.size + 1) 27 _ (0, 0) _ rfl hl Tryd.underlying27 rfl zeroRow_info) rfl ⟨_, rfl, HH.out.later (Below.more (Below.newly' _ _) _), Below.more (Below.newly' _ _) _⟩
end Go.Proofs.YtmdfpkklnaekmaaDoor
