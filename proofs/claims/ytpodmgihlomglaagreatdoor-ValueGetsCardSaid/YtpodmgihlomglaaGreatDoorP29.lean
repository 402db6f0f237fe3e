import Derived.Test.YtpodmgihlomglaaGreatDoorP22
namespace Go.Proofs.YtpodmgihlomglaaGreatDoor
open Go.RowKit
set_option maxRecDepth 1000000
set_option linter.unusedSimpArgs false
theorem innC_rp {rc mc rc' : Array Value} (hr : rc.size = 4) (hr' : rc'.size = 4) (d : Value) (n : Nat) : ((innC rc mc d n).toList.take 0 ++ rc'.toList ++ (innC rc mc d n).toList.drop (0 + rc'.size)).toArray = innC rc' mc d n := by
 have h2 : (innC rc mc d n).toList = rc.toList ++ (mc.toList ++ [d, .int .i64 (n : Int)]) := by simp [innC]
 have h3 : 0 + rc'.size = rc.toList.length := by simp [hr, hr']
 rw [h2, h3, List.drop_left]
 simp [innC]
theorem innC_mp {rc mc mc' : Array Value} (hr : rc.size = 4) (hm : mc.size = 6) (hm' : mc'.size = 6) (d : Value) (n : Nat) : ((innC rc mc d n).toList.take 4 ++ mc'.toList ++ (innC rc mc d n).toList.drop (4 + mc'.size)).toArray = innC rc mc' d n := by
 have h2 : (innC rc mc d n).toList = rc.toList ++ (mc.toList ++ [d, .int .i64 (n : Int)]) := by simp [innC]
 have h4 : (4 : Nat) = rc.toList.length := by simp [hr]
 have h3 : 4 + mc'.size = (rc.toList ++ mc.toList).length := by simp [hr, hm, hm']
 have h5 : List.take 4 (rc.toList ++ (mc.toList ++ [d, .int .i64 (n : Int)])) = rc.toList := by rw [h4, List.take_left]
 rw [h2, h3, h5, ← List.append_assoc, List.drop_left]
 simp [innC]
theorem step_size : (Tryz.prog.info? 44).map (·.size) = some 3 := by kernel_rfl
theorem bears_fit (k s : Int) : bearsE k s = fitT k s := by
 unfold bearsE fitT
 by_cases h0 : s = 0
 ·subst h0; simp
 by_cases h1 : s = 1
 ·subst h1; simp
 by_cases h2 : s = 2
 ·subst h2; simp
 simp [h0, h1, h2]
theorem fit_in (k s : Int) : fitT k s = 0 ∨ fitT k s = 1 ∨ fitT k s = 3 := by
 unfold fitT
 repeat' split
 all_goals omega
theorem get_part {a : Tr} {s i : Int} {u : ByteArray} (h : fitT a.k s = 0) : getT a s i u = (partT a i u, if (atT a i u).isSome then 0 else 5) := by
 unfold getT partT
 rw [if_neg (by simpa using h)]
 cases atT a i u <;> rfl
theorem get_unfit {a : Tr} {s i : Int} {u : ByteArray} (h : fitT a.k s ≠ 0) : getT a s i u = (nullT, fitT a.k s) := by
 unfold getT
 rw [if_pos h]
set_option maxHeartbeats 4000000 in
theorem va_Get {S : Nat → Prop} (w : World) (a : Tr) (x : Cel) (ha : ValB a) (hv : VAt S w a x) (s i : Int) (u : ByteArray) (hu : u.size ≤ 9223372036854775800) :
  Calls Tryz.prog 19 #[.agg (celC x), .agg #[.int .i64 s, .int .i64 i, .string u]] w fun r w' => ∃ y, r = .returned (.tuple #[.agg (celC y), .int .i64 (getT a s i u).2]) ∧ VAt S w' (getT a s i u).1 y ∧ Below w.heap.size w w' := by
 obtain ⟨w1, hw1⟩ : ∃ w1, ((w.alloc (.cells (celC x) 35)).alloc (.cells #[.int .i64 s, .int .i64 i, .string u] 44)).alloc (.cells #[.int .i64 0, .int .i64 0, .string ⟨#[]⟩, .pointer none] 35) = w1 := ⟨_, rfl⟩
 obtain ⟨hb1, hx1, hs1', hy1, hz1⟩ := three_newV hw1
 have HX1 := Lib.hid hx1
 have HT1 := Lib.hid hs1'
 have HY1 := Lib.hid hy1
 have HB1 := Lib.hid hb1
 have HS1 := Lib.hid hz1
 have HBE := Lib.hid (va_bears w1 x s i u)
 rw [hv.k, bears_fit] at HBE
 by_cases hf : fitT a.k s = 0
 ·have h4 : 4 ≤ a.k := by rcases fit_kind hf with ⟨_, h⟩ | ⟨_, h⟩ | ⟨_, h⟩ <;> omega
  obtain ⟨b, l, hp, _⟩ := hv.parts h4
  have HAT := Lib.hid (fun W (hb : Below w.heap.size w W) => va_at W a x b ha (hv.old.later hb) hp s i u hf hu)
  have HPX : Hid ((celC x)[3]? = some (.pointer (some ⟨b, 0, none⟩))) := by show _ = _; rw [← hp]; rfl
  rw [get_part hf]
  rw [hf] at HBE
  cases e : atT a i u with
  | none =>
   have hn : partT a i u = nullT := by unfold partT; rw [e]
   rw [e, hn] at HAT
   rw [hn]
   clear hx1 hs1' hy1 hz1 hb1 hf h4 hp hv ha e hu hn
   go_enter Tryz.func19, Tryz.ntmps19
   go_upto_region 1 with fail
   clear hw1
   go_upto_region 4 with (first
    | (refine ld_if rfl 35 _ rfl w.heap.size rfl 35 _ _ _ HX1.out Tryz.underlying35 rfl val_size ?_)
    | (refine ld_if rfl 44 _ rfl (w.heap.size + 1) rfl 44 _ _ _ HT1.out Tryz.underlying44 rfl step_size ?_)
    | (go_at_call 51; refine HBE.out.mono ?_; rintro r w2 ⟨rfl, hb2⟩; have HB2 := Lib.hid (tW HB1.out hb2); have HX2 := Lib.hid (kW hb2 HX1.out); have HT2 := Lib.hid (kW hb2 HT1.out); have HY2 := Lib.hid (kW hb2 HY1.out); clear hb2))
   have cp : w2.cell? ⟨w.heap.size, 3, none⟩ = some (.pointer (some ⟨b, 0, none⟩)) := cell_in HX2.out HPX.out
   clear HBE HX1 HT1 HY1
   go_wp2_with (first
    | (refine ld_if rfl 44 _ rfl (w.heap.size + 1) rfl 44 _ _ _ HT2.out Tryz.underlying44 rfl step_size ?_)
    | (go_at_call 52; refine (HAT.out _ HB2.out).mono ?_; rintro r w3 ⟨y, rfl, hy, hb3⟩; have HB3 := Lib.hid (tW HB2.out hb3); have HY3 := Lib.hid (kW hb3 HY2.out); have HL3 : Hid (w.heap.size + 3 ≤ w3.heap.size) := (by have h1 := (Array.getElem?_eq_some_iff.1 HY3.out).1; show _ ≤ _; omega); clear hb3 hy)
    | (refine st_agg rfl 35 _ _ rfl w3.heap.size (celC y) rfl rfl 35 _ (heap_alloc_last _ _) val_size rfl (celC_one y) ?_; intro w4 h4 k4; have HB4 := Lib.hid ((HB3.out.trans ((Below.newly' w3 _).mono HB3.out.size)).trans (k4.below HB3.out.size)); have HY4 := Lib.hid (k4.other (((Below.newly' w3 _).block _ (Array.getElem?_eq_some_iff.1 HY3.out).1).trans HY3.out) (by have := HL3.out; omega)); clear h4 k4)
    | (refine st_agg rfl 35 _ _ rfl (w.heap.size + 2) #[.int .i64 0, .int .i64 0, .string ⟨#[]⟩, .pointer none] rfl rfl 35 _ HY4.out val_size rfl (by simp [Value.oneCell']) ?_; intro w5 h5 k5))
   exact bodyPost_ret (results_cell_row1 rfl _ _ (w.heap.size + 2) 35 _ (0, 0) _ rfl h5 Tryz.underlying35 rfl val_size) rfl ⟨zeroV, rfl, vAt_null _ _, HB4.out.trans (k5.below (by omega))⟩
  | some j =>
   rw [e] at HAT
   clear hx1 hs1' hy1 hz1 hb1 hf h4 hp hv ha e hu
   go_enter Tryz.func19, Tryz.ntmps19
   go_upto_region 1 with fail
   clear hw1
   go_upto_region 4 with (first
    | (refine ld_if rfl 35 _ rfl w.heap.size rfl 35 _ _ _ HX1.out Tryz.underlying35 rfl val_size ?_)
    | (refine ld_if rfl 44 _ rfl (w.heap.size + 1) rfl 44 _ _ _ HT1.out Tryz.underlying44 rfl step_size ?_)
    | (go_at_call 51; refine HBE.out.mono ?_; rintro r w2 ⟨rfl, hb2⟩; have HB2 := Lib.hid (tW HB1.out hb2); have HX2 := Lib.hid (kW hb2 HX1.out); have HT2 := Lib.hid (kW hb2 HT1.out); have HY2 := Lib.hid (kW hb2 HY1.out); clear hb2))
   have cp : w2.cell? ⟨w.heap.size, 3, none⟩ = some (.pointer (some ⟨b, 0, none⟩)) := cell_in HX2.out HPX.out
   clear HBE HX1 HT1 HY1
   go_wp2_with (first
    | (refine ld_if rfl 44 _ rfl (w.heap.size + 1) rfl 44 _ _ _ HT2.out Tryz.underlying44 rfl step_size ?_)
    | (go_at_call 52; refine (HAT.out _ HB2.out).mono ?_; rintro r w3 ⟨y, rfl, hy, hb3⟩; have HV3 := Lib.hid hy; have HB3 := Lib.hid (tW HB2.out hb3); have HY3 := Lib.hid (kW hb3 HY2.out); have HL3 : Hid (w.heap.size + 3 ≤ w3.heap.size) := (by have h1 := (Array.getElem?_eq_some_iff.1 HY3.out).1; show _ ≤ _; omega); clear hb3 hy)
    | (refine st_agg rfl 35 _ _ rfl w3.heap.size (celC y) rfl rfl 35 _ (heap_alloc_last _ _) val_size rfl (celC_one y) ?_; intro w4 h4 k4; have HB4 := Lib.hid ((HB3.out.trans ((Below.newly' w3 _).mono HB3.out.size)).trans (k4.below HB3.out.size)); have HV4 := Lib.hid h4; have HQ4 := Lib.hid (((Below.newly' w3 _).mono HB3.out.size).trans (k4.below HB3.out.size)); have HY4 := Lib.hid (k4.other (((Below.newly' w3 _).block _ (Array.getElem?_eq_some_iff.1 HY3.out).1).trans HY3.out) (by have := HL3.out; omega)); clear h4 k4)
    | (refine ld_if rfl 35 _ rfl w3.heap.size rfl 35 _ _ _ HV4.out Tryz.underlying35 rfl val_size ?_)
    | (refine st_agg rfl 35 _ _ rfl (w.heap.size + 2) (celC y) rfl rfl 35 _ HY4.out val_size rfl (celC_one y) ?_; intro w5 h5 k5))
   have hl := (Array.getElem?_eq_some_iff.1 HY4.out).1
   exact bodyPost_ret (results_cell_row1 rfl _ _ (w.heap.size + 2) 35 _ (0, 0) _ rfl h5 Tryz.underlying35 rfl val_size) rfl ⟨y, rfl, (HV3.out.kq (Kq.low (HQ4.out.trans (k5.below (by omega))) fun _ h => h.2)).weak fun _ h => h.1, HB4.out.trans (k5.below (by omega))⟩
 ·rw [get_unfit hf]
  rcases fit_in a.k s with e | e | e
  ·exact absurd e hf
  all_goals
   rw [e] at HBE ⊢
   clear hx1 hs1' hy1 hz1 hb1 hf hv ha e hu
   go_enter Tryz.func19, Tryz.ntmps19
   go_upto_region 1 with fail
   clear hw1
   go_wp2_with (first
    | (refine ld_if rfl 35 _ rfl w.heap.size rfl 35 _ _ _ HX1.out Tryz.underlying35 rfl val_size ?_)
    | (refine ld_if rfl 44 _ rfl (w.heap.size + 1) rfl 44 _ _ _ HT1.out Tryz.underlying44 rfl step_size ?_)
    | (go_at_call 51; refine HBE.out.mono ?_; rintro r w2 ⟨rfl, hb2⟩; have HB2 := Lib.hid (tW HB1.out hb2); have HX2 := Lib.hid (kW hb2 HX1.out); have HT2 := Lib.hid (kW hb2 HT1.out); have HY2 := Lib.hid (kW hb2 HY1.out); clear hb2)
    | (refine st_agg rfl 35 _ _ rfl (w.heap.size + 2) #[.int .i64 0, .int .i64 0, .string ⟨#[]⟩, .pointer none] rfl rfl 35 _ HY2.out val_size rfl (by simp [Value.oneCell']) ?_; intro w5 h5 k5))
   exact bodyPost_ret (results_cell_row1 rfl _ _ (w.heap.size + 2) 35 _ (0, 0) _ rfl h5 Tryz.underlying35 rfl val_size) rfl ⟨zeroV, rfl, vAt_null _ _, HB2.out.trans (k5.below (by omega))⟩
end Go.Proofs.YtpodmgihlomglaaGreatDoor
