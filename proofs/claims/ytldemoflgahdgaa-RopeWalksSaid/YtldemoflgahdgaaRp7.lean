/- Package rope: way. -/
import Derived.Test.YtldemoflgahdgaaRp6
namespace Go.Proofs.Ytldemoflgahdgaa
open Go.RowKit
set_option maxRecDepth 1000000
set_option linter.unusedSimpArgs false

theorem cat_split {ks : List Kid} {k : Nat} (hk : k < ks.length) : catK ks = catK (ks.take k) ++ ks[k].l ++ catK (ks.drop (k + 1)) := by
  rw [← catK_one ks[k], ← catK_app, ← catK_app, ← List.take_succ_eq_append_getElem hk, List.take_append_drop]
/-- The place i lies in the k-th kid, at r; the one behind all others is one of the last kid. -/
def WayAt (i : Nat) (ks : List Kid) (k r : Nat) : Prop := ∃ hk : k < ks.length, i = (catK (ks.take k)).length + r ∧ r ≤ ks[k].l.length ∧ (i < (catK ks).length → r < ks[k].l.length)
set_option maxHeartbeats 2000000 in
theorem rp_way (w : World) {S : Nat → Prop} (h n i : Nat) (p : Kid) (ks : List Kid) (hh : HeadAt S w 33 4 p.a (en (kidc h) ks) n) (hkl : ks.length = n) (hn1 : 1 ≤ n) (hn16 : n ≤ 16) (hi : i ≤ (catK ks).length) (hN : (catK ks).length ≤ 200000) :
    Calls Try.prog 29 #[.agg (kidc (h + 1) p).toArray, .int .i64 (i : Int)] w fun e w' => ∃ k r : Nat, e = .returned (.tuple #[.int .i64 (k : Int), .int .i64 (r : Int)]) ∧
      WayAt i ks k r ∧ Below w.heap.size w w' := by
  obtain ⟨w1, hw1⟩ : ∃ w1, w.alloc (.cells (kidc (h + 1) p).toArray 33) = w1 := ⟨_, rfl⟩
  obtain ⟨hb1, hx1, hs1⟩ := nodes_new hw1
  obtain ⟨g, c, cur, fr, hpa, hcap, hS, hg, hcs⟩ := hh.pos hn1
  have ca2 : w1.cell? ⟨w.heap.size, 2, none⟩ = some (.slice (some ⟨g, 0, none⟩) n c) := by rw [← hpa]; exact cell_in hx1 rfl
  have hg1 := (hb1.block g (Array.getElem?_eq_some_iff.1 hg).1).trans hg
  have HC : Hid (∀ k (hk : k < ks.length), w1.cell? ⟨g, k * 4, none⟩ = some (.int .i64 (ks[k].l.length : Int))) := fun k hk => by
    have := en_range (h := h) hg1 hcs hk 0 _ rfl
    rwa [Nat.add_zero] at this
  have HB1 := Lib.hid hb1
  have HKL := Lib.hid (And.intro hkl (And.intro hn1 hi))
  have HN := Lib.hid hN
  have hn16' : (n : Int) ≤ 16 := by omega
  have hi5 : (i : Int) ≤ 200000 := by omega
  clear hh hkl hn1 hn16 hi hN hb1 hx1 hs1 hpa hcap hS hg hcs hg1
  go_enter Try.func29, Try.ntmps29
  go_upto_region 1 with fail
  clear hw1
  go_wp2_with fail
  go_loopw [1, 6] (fun iv kv wr => ∃ k r : Nat, kv = .int .i64 (k : Int) ∧ iv = .int .i64 (r : Int) ∧ k < n ∧ Hid (i = (catK (ks.take k)).length + r) ∧ w1 = wr) (fun _ kv _ => n - (intOf kv).toNat)
  case atStart => exact ⟨0, i, rfl, rfl, by have := HKL.out; omega, (by show _ = _; simp [catK]), rfl⟩
  case round =>
    obtain ⟨k, r, rfl, rfl, hk, HI, rfl⟩ := hrel
    have hkl := HKL.out
    have hkk : k < ks.length := by omega
    have hc := HC.out k hkk
    have hsum := cat_take_succ hkk
    have hsp := congrArg List.length (cat_split hkk)
    rw [List.length_append, List.length_append] at hsp
    obtain ⟨z, hz⟩ : ∃ z, z = ks[k].l.length := ⟨_, rfl⟩
    rw [← hz] at hc hsum hsp
    have hr5 : (r : Int) ≤ 200000 := by have := HI.out; omega
    have HZ := Lib.hid hz
    have HSP := Lib.hid hsp
    have HSUM := Lib.hid hsum
    have hki : (k : Int) < (n : Int) := by omega
    clear hz hsp hsum hkl
    by_cases h1 : k + 1 < n
    · have h1' : (k : Int) < (n : Int) - 1 := by omega
      by_cases h2 : z ≤ r
      · have h2' : (r : Int) ≥ (z : Int) := by omega
        have h2d : (z : Int) ≤ (r : Int) := by omega
        obtain ⟨d, hd⟩ : ∃ d : Nat, (r : Int) - (z : Int) = d := ⟨r - z, by omega⟩
        have HD : Hid (r = z + d) := (by show _ = _; omega)
        clear h2
        go_wp2_with fail
        go_roundw
        case rel => exact ⟨k + 1, d, by simp, by first | rfl | rw [hd], by omega, (by show _ = _; have := HI.out; have := HSUM.out; have := HD.out; omega), trivial⟩
        case measure => simp [intOf]; omega
      · have h2' : ¬ (r : Int) ≥ (z : Int) := by omega
        have h2d : ¬ (z : Int) ≤ (r : Int) := by omega
        have H2 := Lib.hid h2
        clear h2
        go_wp2_with fail
        go_ret2
        exact ⟨k, r, rfl, ⟨hkk, HI.out, by have := H2.out; have := HZ.out; omega, fun _ => by have := H2.out; have := HZ.out; omega⟩, HB1.out⟩
    · have h1' : ¬ (k : Int) < (n : Int) - 1 := by omega
      go_wp2_with fail
      go_ret2
      have hkl := HKL.out
      have hd : catK (ks.drop (k + 1)) = [] := by rw [List.drop_of_length_le (by omega)]; rfl
      have hsp := HSP.out
      rw [hd, List.length_nil] at hsp
      have hz := HZ.out
      have hI := HI.out
      exact ⟨k, r, rfl, ⟨hkk, hI, by omega, fun h => by omega⟩, HB1.out⟩
end Go.Proofs.Ytldemoflgahdgaa
