/- Layer 4's law: what it makes, and what it wants. -/
import Derived.Test.YtlgjmmhofklneaaDoorRef04T
namespace Go.Proofs.YtlgjmmhofklneaaDoor
open Go.RowKit
set_option maxRecDepth 1000000

set_option maxHeartbeats 2000000 in
theorem made_ok (n : Int) (v : Value) (l : List Int) (w : World) (hv : IntsAt w v l) (hl : l.length ≤ 1000) :
    Calls Tryd.prog 10 #[.int .i64 0, .int .i64 n, v] w fun e w' => e = .returned .nilIface ∧ Below w.heap.size w w' := by
  have HV := Lib.hid hv
  obtain ⟨a, cap, b, o, rfl, ha, hc, hr, _⟩ := hv
  obtain ⟨len, hlen⟩ : ∃ len, len = l.length := ⟨_, rfl⟩
  have HLL := Lib.hid hlen
  have hlen1 : len ≤ 1000 := by omega
  rw [← hlen] at HV ⊢
  clear ha hc hr hlen hl
  go_enter Tryd.func10, Tryd.ntmps10
  go_wp2_with fail
  refine (fault_New_ok n w).mono ?_
  rintro e w1 ⟨rfl, rfl⟩
  go_wp2_with fail
  go_loopw [7, 15] (fun x n wl => ∃ k : Nat, k ≤ len ∧ n = .int .i64 k ∧ x = .nilIface ∧ wl = w1) (fun _ n _ => len - (intOf n).toNat)
  case atStart => exact ⟨0, Nat.zero_le _, rfl, rfl, rfl⟩
  case round =>
    obtain ⟨k, hk, rfl, rfl, rfl⟩ := hrel
    by_cases h1 : k < len
    · obtain ⟨b, o, hao, hcell, hrn⟩ := HV.out.cellAt HLL.out k h1
      subst hao
      obtain ⟨m, hm⟩ : ∃ m, m = l.getD k 0 := ⟨_, rfl⟩
      rw [← hm] at hcell
      clear hm hrn
      go_wp2_with fail
      refine (fault_In_nil m _).mono ?_
      rintro e w2 ⟨rfl, rfl⟩
      go_wp2_with fail
      go_roundw
      case rel => exact ⟨k + 1, by omega, by go_num, rfl, trivial⟩
      case measure => simp [intOf]; omega
    · go_wp2_with fail
      go_ret
      exact ⟨rfl, Below.refl _ _⟩

set_option maxHeartbeats 2000000 in
theorem made_err (c n : Int) (v : Value) (l : List Int) (w : World) (h0 : ¬ c = 0) (hc : -9223372036854775808 ≤ c ∧ c ≤ 9223372036854775807) (hn : -9223372036854775808 ≤ n ∧ n ≤ 9223372036854775807) (hv : IntsAt w v l) (hl : l.length ≤ 1000) :
    Calls Tryd.prog 10 #[.int .i64 c, .int .i64 n, v] w fun e w' => ∃ E, e = .returned E ∧ Ch w'.heap.size w' E (some c) (l.reverse ++ [n]) ∧ Below w.heap.size w w' := by
  have HV := Lib.hid hv
  have HNew := Lib.hid (fault_New c n w h0 hc hn)
  obtain ⟨a, cap, b, o, rfl, ha, hcc, hr, _⟩ := hv
  obtain ⟨len, hlen⟩ : ∃ len, len = l.length := ⟨_, rfl⟩
  have HLL := Lib.hid hlen
  have hlen1 : len ≤ 1000 := by omega
  rw [← hlen] at HV ⊢
  clear ha hcc hr hlen hl hc hn h0
  go_enter Tryd.func10, Tryd.ntmps10
  go_wp2_with fail
  refine HNew.out.mono ?_
  rintro e w1 ⟨b1, rfl, _, hch, hb⟩
  have HC := Lib.hid hch
  have HB := Lib.hid hb
  clear hch hb
  go_wp2_with fail
  go_loopw [7, 15] (fun x i wl => ∃ k : Nat, k ≤ len ∧ i = .int .i64 k ∧ Ch wl.heap.size wl x (some c) ((l.take k).reverse ++ [n]) ∧ Below w.heap.size w wl) (fun _ n _ => len - (intOf n).toNat)
  case atStart => exact ⟨0, Nat.zero_le _, rfl, by simpa using HC.out, HB.out⟩
  case round =>
    obtain ⟨k, hk, rfl, hch, hb⟩ := hrel
    have HC2 := Lib.hid hch
    have HB2 := Lib.hid hb
    clear hch hb
    by_cases h1 : k < len
    · obtain ⟨b, o, hao, hcell, hrn⟩ := (HV.out.later HB2.out).cellAt HLL.out k h1
      subst hao
      obtain ⟨m, hm⟩ : ∃ m, m = l.getD k 0 := ⟨_, rfl⟩
      rw [← hm] at hcell hrn
      have HM := Lib.hid hm
      have HRN := Lib.hid hrn
      clear hm hrn
      go_wp2_with fail
      refine (fault_In _ _ _ m _ HC2.out (Nat.le_refl _) HRN.out).mono ?_
      rintro e w2 ⟨b2, rfl, _, _, _, hch, hb⟩
      have HC3 : Hid (Ch w2.heap.size w2 (.iface 43 (.pointer (some ⟨b2, 0, none⟩))) (some c) ((l.take (k + 1)).reverse ++ [n])) := by
        show Ch _ _ _ _ _
        rw [take_snocI l k (by have := HLL.out; omega), ← HM.out, List.reverse_append, List.reverse_singleton]
        exact hch
      have HB3 := Lib.hid (HB2.out.trans (hb.mono HB2.out.size))
      clear hch hb
      go_wp2_with fail
      go_roundw
      case rel => exact ⟨k + 1, by omega, by go_num, HC3.out, HB3.out⟩
      case measure => simp [intOf]; omega
    · have e : Hid (l.take k = l) := by
        show _ = _
        have := HLL.out
        exact List.take_of_length_le (by omega)
      go_wp2_with fail
      go_ret
      exact ⟨_, rfl, by rw [← e.out]; simpa [e.out] using HC2.out, HB2.out⟩

theorem want_ok (n : Int) (v : Value) (w : World) :
    Calls Tryd.prog 11 #[.int .i64 0, .int .i64 n, v] w fun e w' => e = .returned (.agg #[.bool false, .int .i64 0, .slice none 0 0]) ∧ Below w.heap.size w w' := by
  have HN := Lib.hid (Below.newly' w (.cells #[.bool false, .int .i64 0, .slice none 0 0] 29))
  go_enter Tryd.func11, Tryd.ntmps11
  go_wp2_with fail
  refine bodyPost_ret (v := .agg #[.bool false, .int .i64 0, .slice none 0 0]) (by simp [results, Tryd.results11, go_sem]) rfl ⟨rfl, HN.out⟩
theorem want_err (c n : Int) (v : Value) (l : List Int) (w : World) (h0 : ¬ c = 0) (hv : IntsAt w v l) (hl : l.length ≤ 500) :
    Calls Tryd.prog 11 #[.int .i64 c, .int .i64 n, v] w fun e w' => ∃ v', e = .returned (.agg #[.bool true, .int .i64 c, v']) ∧ Ints w.heap.size v' (l.reverse ++ [n]) w' ∧ Below w.heap.size w w' := by
  have h : (c == 0) = false := beq_eq_false_iff_ne.2 h0
  have HT := Lib.hid (fun W hb => ref_Turned v l W (hv.later hb) (by omega))
  have HLEN : Hid (l.reverse.length ≤ 1000) := by show _ ≤ _; simp; omega
  have HN := Lib.hid (Below.newly' w (.cells #[.bool false, .int .i64 0, .slice none 0 0] 29))
  clear hv h0
  go_enter Tryd.func11, Tryd.ntmps11
  go_wp2_with fail
  refine (HT.out _ HN.out).mono ?_
  rintro e w1 ⟨v1, rfl, hi, hb⟩
  have HI := Lib.hid hi
  have HB := Lib.hid hb
  clear hi hb
  go_wp2_with (at_builtin; go_loud (refine ints_append_new rfl (.tmp 12) (.tmp 14) rfl rfl HI.out [n] _ rfl 1 1 rfl rfl (by have := HLEN.out; simp only [List.length_singleton]; omega) ?_))
  intro v' w' hi hgr
  have h1 : w1.heap[w.heap.size]? = some (.cells #[.bool false, .int .i64 0, .slice none 0 0] 29 (0, 0)) := by
    rw [HB.out.block w.heap.size (by simp)]; exact heap_alloc_new w _
  have h2 : w'.heap[w.heap.size]? = some (.cells #[.bool false, .int .i64 0, .slice none 0 0] 29 (0, 0)) := by
    have hne : some w.heap.size ≠ v1.ownBlock := by
      intro e
      have h3 := (HI.out.1.lt _ e.symm).1
      have h4 : (w.alloc (.cells #[.bool false, .int .i64 0, .slice none 0 0] 29)).heap.size = w.heap.size + 1 := by simp
      omega
    rw [hgr.block w.heap.size (Array.getElem?_eq_some_iff.1 h1).1 hne, h1]
  have c0 : w'.cell? ⟨w.heap.size, 0, none⟩ = some (.bool false) := by simp [World.cell?, h2]
  have c1 : w'.cell? ⟨w.heap.size, 1, none⟩ = some (.int .i64 0) := by simp [World.cell?, h2]
  have c2 : w'.cell? ⟨w.heap.size, 2, none⟩ = some (.slice none 0 0) := by simp [World.cell?, h2]
  have f0 : w'.frozen? ⟨w.heap.size, 0, none⟩ = false := by simp [World.frozen?, h2]
  have f1 : w'.frozen? ⟨w.heap.size, 1, none⟩ = false := by simp [World.frozen?, h2]
  have f2 : w'.frozen? ⟨w.heap.size, 2, none⟩ = false := by simp [World.frozen?, h2]
  have HI2 := Lib.hid hi
  have HNE : Hid (∀ k, v'.ownBlock = some k → w.heap.size + 1 ≤ k) := fun k hk => by
    have h3 := (hi.1.lt k hk).1
    have h4 : (w.alloc (.cells #[.bool false, .int .i64 0, .slice none 0 0] 29)).heap.size = w.heap.size + 1 := by simp
    omega
  have H2 := Lib.hid h2
  have HB2 := Lib.hid (HB.out.grown hgr HI.out.2 (fun k hk => (HI.out.1.lt k hk).1))
  obtain ⟨a, cap, hv'⟩ := hi.len
  subst hv'
  clear hi hgr h1 h2
  go_wp2_with fail
  have hrow : ∀ x : Value, (((w'.setCell ⟨w.heap.size, 0, none⟩ (.bool true)).setCell ⟨w.heap.size, 1, none⟩ (.int .i64 c)).setCell ⟨w.heap.size, 2, none⟩ x).heap[w.heap.size]? = some (.cells #[.bool true, .int .i64 c, x] 29 (0, 0)) := by
    intro x
    simp [World.setCell, Array.getElem?_modify, H2.out]
  refine bodyPost_ret (results_cell_row rfl _ _ w.heap.size 29 _ (0, 0) _ rfl (hrow _) Tryd.underlying29 rfl (by kernel_rfl)) rfl ⟨_, rfl, ?_, ?_⟩
  · have hk : ∀ (W : World) (o : Nat) (x : Value), Ints w.heap.size (.slice a (l.reverse ++ [n]).length cap) (l.reverse ++ [n]) W → Ints w.heap.size (.slice a (l.reverse ++ [n]).length cap) (l.reverse ++ [n]) (W.setCell ⟨w.heap.size, o, none⟩ x) := fun W o x hi =>
      hi.grown (row := some w.heap.size) ⟨rfl, rfl, rfl, by simp [World.setCell], fun k _ hk => Below.heap_setCell _ _ _ _ (fun e => hk (by simp [e]))⟩ (.inr (fun e => by have := HNE.out _ e; omega))
    have e : (l.reverse ++ [n]).length = l.length + 1 := by simp
    rw [← e]
    exact hk _ _ _ (hk _ _ _ (hk _ _ _ (HI2.out.low (by simp))))
  · exact (((HN.out.trans (HB2.out.mono HN.out.size)).setCell (p := ⟨w.heap.size, 0, none⟩) (Nat.le_refl _) _).setCell (p := ⟨w.heap.size, 1, none⟩) (Nat.le_refl _) _).setCell (p := ⟨w.heap.size, 2, none⟩) (Nat.le_refl _) _
end Go.Proofs.YtlgjmmhofklneaaDoor
