/- Package sparse: a list of its own of what lists have (joined). -/
import Derived.Test.YtmdfpkklnaekmaaDoorSp1
import Derived.Test.YtmdfpkklnaekmaaDoorInts
import Derived.Laws.CopyOwn
import Derived.Deep.OwnRows
namespace Go.Proofs.YtmdfpkklnaekmaaDoor
open Go.RowKit
set_option maxRecDepth 1000000
set_option linter.unusedSimpArgs false

/-- v reads as these numbers, wherever they lie. -/
def SegAt (w : World) (v : Value) (zs : List Int) : Prop := ∃ (a : Option Addr) (cap : Nat), v = .slice a zs.length cap ∧ (0 < zs.length → ∃ ad, a = some ad ∧ ∀ j u, (iv zs)[j]? = some u → w.cell? (ad.add j) = some u)
/-- v is a list of just these numbers that nothing else is written into: nil, if there is none. -/
def LisAt (w : World) (v : Value) (zs : List Int) : Prop :=
  (zs = [] ∧ v = .slice none 0 0) ∨ (0 < zs.length ∧ ∃ (g c : Nat) (cs : Array Value) (fr : Nat × Nat), v = .slice (some ⟨g, 0, none⟩) zs.length c ∧ zs.length ≤ c ∧ w.heap[g]? = some (.cells cs 3 fr) ∧ ∀ (j : Nat) (u : Value), (iv zs)[j]? = some u → cs[j]? = some u)
/-- .. that lies from block B on. -/
def LisFrom (B : Nat) (w : World) (v : Value) (zs : List Int) : Prop :=
  (zs = [] ∧ v = .slice none 0 0) ∨ (0 < zs.length ∧ ∃ (g c : Nat) (cs : Array Value) (fr : Nat × Nat), B ≤ g ∧ v = .slice (some ⟨g, 0, none⟩) zs.length c ∧ zs.length ≤ c ∧ w.heap[g]? = some (.cells cs 3 fr) ∧ ∀ (j : Nat) (u : Value), (iv zs)[j]? = some u → cs[j]? = some u)
theorem LisFrom.at_ {B : Nat} {w : World} {v : Value} {zs : List Int} : LisFrom B w v zs → LisAt w v zs
  | .inl h => .inl h
  | .inr ⟨h0, g, c, cs, fr, _, h⟩ => .inr ⟨h0, g, c, cs, fr, h⟩
theorem SegAt.later {w w' : World} {v : Value} {zs : List Int} (h : SegAt w v zs) (hb : Below w.heap.size w w') : SegAt w' v zs := by
  obtain ⟨a, cap, rfl, h2⟩ := h
  refine ⟨a, cap, rfl, fun h0 => ?_⟩
  obtain ⟨ad, rfl, hc⟩ := h2 h0
  exact ⟨ad, rfl, fun j u hu => (hb.cell (p := ad.add j) (World.block_lt_of_cell? w _ (hc j u hu))).trans (hc j u hu)⟩
theorem LisAt.nil (w : World) : LisAt w (.slice none 0 0) [] := .inl ⟨rfl, rfl⟩
theorem LisAt.kept {w w' : World} {v : Value} {zs : List Int} {row : Option Nat} (h : LisAt w v zs) (hg : w.grownBy w' row) (hT : ∀ X, row = some X → ∃ cs T fr, w.heap[X]? = some (.cells cs T fr) ∧ T ≠ 3) : LisAt w' v zs := by
  rcases h with h | ⟨h0, g, c, cs, fr, h1, h2, h3, h4⟩
  · exact .inl h
  · refine .inr ⟨h0, g, c, cs, fr, h1, h2, ?_, h4⟩
    refine (hg.block g (Array.getElem?_eq_some_iff.1 h3).1 ?_).trans h3
    intro e
    obtain ⟨cs', T, fr', hX, hne⟩ := hT g e.symm
    rw [h3] at hX
    simp only [Option.some.injEq, Obj.cells.injEq] at hX
    exact hne hX.2.1.symm
theorem add_at (g o j : Nat) : (⟨g, o, none⟩ : Addr).add j = ⟨g, o + j, none⟩ := by
  unfold Addr.add; split <;> simp_all
theorem LisAt.cells {w : World} {v : Value} {zs : List Int} (h : LisAt w v zs) : SegAt w v zs := by
  rcases h with ⟨rfl, rfl⟩ | ⟨h0, g, c, cs, fr, rfl, h2, h3, h4⟩
  · exact ⟨none, 0, rfl, fun h => absurd h (by simp)⟩
  · refine ⟨_, c, rfl, fun _ => ⟨_, rfl, fun j u hu => ?_⟩⟩
    rw [add_at, Nat.zero_add]
    exact cell_in h3 (h4 j u hu)

/-- What the first k of these lists have. -/
def catL (ls : List (Value × List Int)) (k : Nat) : List Int := (ls.take k).flatMap (·.2)
theorem cat_succ {ls : List (Value × List Int)} {k : Nat} (hk : k < ls.length) : catL ls (k + 1) = catL ls k ++ ls[k].2 := by
  unfold catL
  rw [List.take_succ_eq_append_getElem hk, List.flatMap_append]
  simp
theorem cat_le {ls : List (Value × List Int)} : ∀ {j : Nat} (k : Nat), k ≤ j → j ≤ ls.length → (catL ls k).length ≤ (catL ls j).length
  | 0, k, hk, _ => by obtain rfl : k = 0 := by omega
                      exact Nat.le_refl _
  | j + 1, k, hk, hj => by
    by_cases e : k = j + 1
    · subst e; exact Nat.le_refl _
    · have := cat_le (ls := ls) (j := j) k (by omega) (by omega)
      rw [cat_succ (by omega), List.length_append]
      omega
/-- The list being filled. -/
def midL (ls : List (Value × List Int)) (k n : Nat) : List Value := iv (catL ls k) ++ List.replicate (n - (catL ls k).length) (.int .i64 0)
theorem mid_len {ls : List (Value × List Int)} {k n : Nat} (h : (catL ls k).length ≤ n) : (midL ls k n).length = n := by
  unfold midL
  rw [List.length_append, iv_len, List.length_replicate]
  omega
theorem mid_succ {ls : List (Value × List Int)} {k n : Nat} (hk : k < ls.length) (h : (catL ls (k + 1)).length ≤ n) : splice (midL ls k n) (catL ls k).length (iv ls[k].2) = midL ls (k + 1) n := by
  have e := cat_succ hk
  have hl : (catL ls (k + 1)).length = (catL ls k).length + ls[k].2.length := by rw [e, List.length_append]
  unfold splice midL
  rw [e, iv_app, List.take_append_of_le_length (by rw [iv_len]; exact Nat.le_refl _), List.take_of_length_le (by rw [iv_len]; exact Nat.le_refl _), List.append_assoc]
  congr 2
  rw [iv_len, List.drop_append, List.drop_of_length_le (by rw [iv_len]; omega), List.nil_append, List.drop_replicate, iv_len, List.length_append]
  congr 1
  omega

theorem wr64 {x : Int} (h0 : -9223372036854775808 ≤ x) (h1 : x ≤ 9223372036854775807) : wrap64 x = x := by unfold wrap64; omega
theorem int_size : (Tryd.prog.info? 3).map (·.size) = some 1 := by kernel_rfl
set_option maxHeartbeats 4000000 in
theorem sp_joined_new (w : World) (B : Nat) (ls : List (Value × List Int)) (hcells : ∀ k (hk : k < ls.length), w.cell? ⟨B, k, none⟩ = some ls[k].1) (hseg : ∀ k (hk : k < ls.length), SegAt w ls[k].1 ls[k].2)
    (hn : (catL ls ls.length).length ≤ 4096) (hl : ls.length ≤ 100) :
    Calls Tryd.prog 37 #[.slice (some ⟨B, 0, none⟩) ls.length ls.length] w fun e w' => ∃ a n c, e = .returned (.slice a n c) ∧ LisFrom w.heap.size w' (.slice a n c) (catL ls ls.length) ∧ Below w.heap.size w w' := by
  obtain ⟨i, hi, hz, h1, h2⟩ := info_parts int_info
  have HS := Lib.hid hseg
  have HC := Lib.hid hcells
  clear hseg hcells
  go_enter Tryd.func37, Tryd.ntmps37
  go_wp2_with fail
  go_loopw [3, 12] (fun n i wr => ∃ k : Nat, k ≤ ls.length ∧ i = .int .i64 k ∧ n = .int .i64 ((catL ls k).length : Nat) ∧ w = wr) (fun _ i _ => ls.length - (intOf i).toNat)
  case atStart => exact ⟨0, Nat.zero_le _, rfl, rfl, rfl⟩
  case round =>
    obtain ⟨k, hk, rfl, rfl, rfl⟩ := hrel
    by_cases hlt : k < ls.length
    · have hc := HC.out k hlt
      obtain ⟨a, cap, ha, _⟩ := HS.out k hlt
      have hle := cat_le (ls := ls) (k + 1) hlt (Nat.le_refl _)
      have hle' : ((catL ls (k + 1)).length : Int) ≤ 4096 := by omega
      have hs := cat_succ hlt
      have hsl : ((catL ls (k + 1)).length : Int) = (catL ls k).length + ls[k].2.length := by rw [hs, List.length_append]; omega
      rw [hsl] at hle'
      have HSL := Lib.hid hsl
      rw [ha] at hc
      clear hs hsl
      go_wp2_with fail
      go_roundw
      case rel => exact ⟨k + 1, by omega, by simp, by rw [HSL.out], trivial⟩
      case measure => simp [intOf]; omega
    · obtain rfl : k = ls.length := by omega
      by_cases h0 : (catL ls ls.length).length = 0
      · have h0' : ((catL ls ls.length).length : Int) = 0 := by omega
        go_wp2_with fail
        go_ret
        exact ⟨_, _, _, rfl, by rw [List.eq_nil_of_length_eq_zero h0]; exact .inl ⟨rfl, rfl⟩, Below.refl _ _⟩
      · have h0' : (((catL ls ls.length).length : Int) == 0) = false := beq_eq_false_iff_ne.2 (by omega)
        obtain ⟨N, hN⟩ : ∃ N, N = (catL ls ls.length).length := ⟨_, rfl⟩
        have HN := Lib.hid hN
        have HM := Lib.hid hn
        have HP := Lib.hid h0
        rw [← hN] at h0'
        rw [← hN]
        have hN4 : (N : Int) ≤ 4096 := by omega
        clear hN hn h0
        go_wp2_with (refine wpList_make_row _ rfl _ _ 25 rfl 3 i (.int .i64 0) Tryd.underlying25 hi hz h1 rfl .i64 .i64 N rfl rfl (by rw [h2]; have := HM.out; have := HN.out; omega) (by have := HM.out; have := HN.out; omega) ?_)
        go_loopw [7, 27] (fun at_ i v => ∃ k : Nat, k ≤ ls.length ∧ i = .int .i64 k ∧ at_ = .int .i64 ((catL ls k).length : Nat) ∧ Hid (v.heap[w.heap.size]? = some (.cells (midL ls k N).toArray 3 (0, 0))) ∧ Below w.heap.size w v) (fun _ i _ => ls.length - (intOf i).toNat)
        case atStart =>
          refine ⟨0, Nat.zero_le _, rfl, rfl, ?_, Below.newly' _ _⟩
          show _ = _
          rw [show midL ls 0 N = (madeCells #[.int .i64 0] N).toList by rw [toList_madeCells_one]; simp [midL, catL, iv]]
          exact heap_alloc_last _ _
        case round =>
          obtain ⟨k, hk, rfl, rfl, hg, hb⟩ := hrel
          have HB := Lib.hid hb
          clear hb
          by_cases hlt : k < ls.length
          · have hc := (HB.out.cell (p := ⟨B, k, none⟩) (World.block_lt_of_cell? _ _ (HC.out k hlt))).trans (HC.out k hlt)
            obtain ⟨a, cap, ha, hs2⟩ := (HS.out k hlt).later HB.out
            have HS2 := Lib.hid hs2
            have hle := cat_le (ls := ls) (k + 1) hlt (Nat.le_refl _)
            rw [← HN.out] at hle
            have hs := cat_succ hlt
            have hsl : ((catL ls (k + 1)).length : Int) = (catL ls k).length + ls[k].2.length := by rw [hs, List.length_append]; omega
            have hle' : ((catL ls (k + 1)).length : Int) ≤ N := by omega
            rw [hsl] at hle'
            have HSL := Lib.hid hsl
            rw [ha] at hc
            clear hs hsl hs2
            by_cases hE : N = (catL ls k).length
            · subst hE
              have hz2 : ls[k].2.length = 0 := by omega
              have hz3 : ls[k].2 = [] := List.eq_nil_of_length_eq_zero hz2
              have HZ := Lib.hid hz3
              have HZ2 := Lib.hid hz2
              clear hz2 hz3
              go_wp2_with (refine wpList_copy_nothing rfl _ _ 25 25 rfl 3 Tryd.underlying25 int_size (some ⟨w.heap.size, 0, none⟩) a 0 0 ls[k].2.length cap rfl rfl (Nat.min_zero _) ?_)
              go_roundw
              case rel => exact ⟨k + 1, by omega, by simp, by rw [HSL.out, HZ.out]; simp, by unfold midL; rw [cat_succ hlt, HZ.out, List.append_nil]; exact hg, HB.out⟩
              case measure => simp [intOf]; omega
            · go_wp2_with (refine wpList_copy_splice rfl _ _ 25 25 rfl 3 Tryd.underlying25 int_size (some ⟨w.heap.size, (catL ls k).length, none⟩) a (N - (catL ls k).length) (N - (catL ls k).length) ls[k].2.length cap rfl rfl w.heap.size (catL ls k).length (midL ls k N) 3 hg.out (iv ls[k].2) (by rw [iv_len]; exact (Nat.min_eq_left (by omega)).symm) (fun h => by rw [iv_len] at h; exact ⟨rfl, HS2.out h⟩) (by rw [iv_len, mid_len (by omega)]; omega) iv_one w.heap.size w HB.out (Nat.le_refl _) ?_; intro w2 h2 b2; rw [mid_succ hlt hle] at h2; have HB2 := Lib.hid b2; clear b2)
              go_roundw
              case rel => exact ⟨k + 1, by omega, by simp, by rw [HSL.out, iv_len, wr64 (by omega) (by omega)], h2, HB2.out⟩
              case measure => simp [intOf]; omega
          · obtain rfl : k = ls.length := by omega
            go_wp2_with fail
            go_ret
            have hN := HN.out
            have hm : midL ls ls.length N = iv (catL ls ls.length) := by unfold midL; rw [← hN, Nat.sub_self]; simp
            refine ⟨_, _, _, rfl, .inr ⟨by have := HP.out; omega, w.heap.size, N, _, (0, 0), Nat.le_refl _, by rw [← hN], by omega, hg.out, fun j u hu => ?_⟩, HB.out⟩
            rw [hm]
            simpa using hu
theorem sp_joined (w : World) (B : Nat) (ls : List (Value × List Int)) (hcells : ∀ k (hk : k < ls.length), w.cell? ⟨B, k, none⟩ = some ls[k].1) (hseg : ∀ k (hk : k < ls.length), SegAt w ls[k].1 ls[k].2)
    (hn : (catL ls ls.length).length ≤ 4096) (hl : ls.length ≤ 100) :
    Calls Tryd.prog 37 #[.slice (some ⟨B, 0, none⟩) ls.length ls.length] w fun e w' => ∃ a n c, e = .returned (.slice a n c) ∧ LisAt w' (.slice a n c) (catL ls ls.length) ∧ Below w.heap.size w w' :=
  (sp_joined_new w B ls hcells hseg hn hl).mono fun _ _ ⟨a, n, c, h1, h2, h3⟩ => ⟨a, n, c, h1, h2.at_, h3⟩
end Go.Proofs.YtmdfpkklnaekmaaDoor
