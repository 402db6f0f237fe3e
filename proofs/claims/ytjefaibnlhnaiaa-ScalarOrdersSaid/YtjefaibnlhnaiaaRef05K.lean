/- Layer 5: the document's own keys. -/
import Derived.Test.YtjefaibnlhnaiaaRef05
import Derived.Test.YtjefaibnlhnaiaaRef01Text
namespace Go.Proofs.Ytjefaibnlhnaiaa
open Go.RowKit
set_option maxRecDepth 1000000

theorem cut_one (s : ByteArray) (k : Nat) (h : k < s.size) : s.extract k (k + 1) = ⟨#[s[k]]⟩ := by
  apply ByteArray.ext
  apply Array.toList_inj.1
  have h1 : (s.extract k (k + 1)).data.toList = (s.data.toList.drop k).take 1 := by
    simp [ByteArray.data_extract]
  rw [h1, List.drop_eq_getElem_cons (by simpa using h)]
  rfl
theorem cov_take (s : ByteArray) (k : Nat) (h : k < s.size) : covS (s.data.toList.take (k + 1)) = covS (s.data.toList.take k) ++ covOne s[k] := by
  rw [take_bytes s k h]
  simp [covS]

set_option maxHeartbeats 4000000 in
theorem ref_Covered (s : ByteArray) (w : World) (hs : s.size ≤ 1000000) :
    Calls Try.prog 28 #[.string s] w fun e w' => e = .returned (.string ⟨(covS s.data.toList).toArray⟩) ∧ w' = w := by
  go_enter Try.func28, Try.ntmps28
  go_wp2
  go_loopw [3, 7] (fun x n wl => ∃ (k : Nat) (txt : List UInt8), k ≤ s.size ∧ n = .int .i64 k ∧ x = .string ⟨txt.toArray⟩ ∧ txt = covS (s.data.toList.take k) ∧ wl = w) (fun _ n _ => s.size - (intOf n).toNat)
  case atStart => exact ⟨0, [], Nat.zero_le _, rfl, rfl, by simp [covS], rfl⟩
  case round =>
    obtain ⟨k, txt, hk, rfl, rfl, ht, rfl⟩ := hrel
    have htl : txt.length ≤ 2000000 := by
      have h := cov_len (s.data.toList.take k)
      rw [ht]
      have h2 : (s.data.toList.take k).length ≤ 1000000 := by rw [List.length_take]; omega
      omega
    have HT := Lib.hid ht
    clear ht
    by_cases h1 : k < s.size
    · have hcut := cut_one s k h1
      have HCT := Lib.hid (cov_take s k h1)
      by_cases h0 : s[k] = 0
      · have h0' : (s[k].toNat : Int) = 0 := by rw [h0]; rfl
        go_wp2_with fail
        go_roundw
        case rel => exact ⟨k + 1, txt ++ [0] ++ [255], by omega, by go_num, by rw [← cat_mk, ← cat_mk], by rw [HCT.out, HT.out, h0]; simp [covOne], trivial⟩
        case measure => simp [intOf]; omega
      · have h0' : ¬ (s[k].toNat : Int) = 0 := fun e => h0 (UInt8.toNat_inj.1 (by simpa using e))
        go_wp2_with fail
        go_roundw
        case rel => exact ⟨k + 1, txt ++ [s[k]], by omega, by go_num, by rw [← cat_mk], by rw [HCT.out, HT.out]; simp [covOne, h0], trivial⟩
        case measure => simp [intOf]; omega
    · have e : Hid (s.data.toList.take k = s.data.toList) := List.take_of_length_le (by rw [len_bytes]; omega)
      rw [e.out] at HT
      have HT2 := Lib.hid HT.out
      clear HT e
      go_wp2_with fail
      go_ret
      exact ⟨by rw [← HT2.out]; rfl, rfl⟩
set_option maxHeartbeats 4000000 in
theorem ref_Key5 (k n : Int) (t : ByteArray) (w : World) (hn : InR n) (ht : t.size ≤ 1000000) :
    Calls Try.prog 15 #[scV k n t] w fun e w' => e = .returned (.string ⟨(keySc (k, n, t.data.toList)).toArray⟩) ∧ Below w.heap.size w w' := by
  have hb0 : Below w.heap.size w (w.alloc (.cells #[.int .i64 k, .int .i64 n, .string t] 23)) := Below.newly' w _
  have HN := Lib.hid hb0
  have HC := Lib.hid (fun W => ref_Check5 k n t W)
  have hcov := cov_len t.data.toList
  rw [len_bytes] at hcov
  have HCL := Lib.hid hcov
  have HV := Lib.hid (fun W => ref_Covered t W ht)
  have HB := Lib.hid (fun W => ref_Bytes n W hn)
  clear hn hb0 hcov
  by_cases hc : chkSc (k, n, t.data.toList) = 0
  · have key : ∀ (W : World), Below (w.alloc (.cells #[.int .i64 k, .int .i64 n, .string t] 23)).heap.size (w.alloc (.cells #[.int .i64 k, .int .i64 n, .string t] 23)) W →
        W.cell? ⟨w.heap.size, 0, none⟩ = some (.int .i64 k) ∧ W.cell? ⟨w.heap.size, 1, none⟩ = some (.int .i64 n) ∧ W.cell? ⟨w.heap.size, 2, none⟩ = some (.string t) ∧ Below w.heap.size w W := fun W h =>
      ⟨(h.cell (p := ⟨w.heap.size, 0, none⟩) (by simp)).trans (by simp), (h.cell (p := ⟨w.heap.size, 1, none⟩) (by simp)).trans (by simp), (h.cell (p := ⟨w.heap.size, 2, none⟩) (by simp)).trans (by simp), HN.out.trans (h.mono HN.out.size)⟩
    have KEY := Lib.hid key
    clear key
    rcases chk_cases _ hc with h | h | h | ⟨m, h⟩ | ⟨u, h⟩
    · simp only [Prod.mk.injEq] at h
      obtain ⟨rfl, rfl, h3⟩ := h
      have H3 := Lib.hid h3
      rw [h3] at HC hc
      clear h3 hc
      go_enter Try.func15, Try.ntmps15
      go_wp2_with fail
      refine (HC.out _).mono ?_
      rintro e w1 ⟨rfl, hb⟩
      obtain ⟨c0, c1, c2, hb1⟩ := KEY.out _ hb
      have H1 := Lib.hid hb1
      clear hb hb1
      rw [chk_null]
      go_wp2_with fail
      go_ret
      exact ⟨by rw [H3.out, key_null]; rfl, H1.out⟩
    · simp only [Prod.mk.injEq] at h
      obtain ⟨rfl, rfl, h3⟩ := h
      have H3 := Lib.hid h3
      rw [h3] at HC hc
      clear h3 hc
      have hcv := cv1_run
      have hca : ∀ (w : World) (a : Addr), cv1 w a (some (.int .u8 0)) = .ok (.string ⟨#[0]⟩) w := fun w a => cv1_at w a 0 (by decide) (by decide)
      go_enter Try.func15, Try.ntmps15
      go_wp2_with fail
      refine (HC.out _).mono ?_
      rintro e w1 ⟨rfl, hb⟩
      obtain ⟨c0, c1, c2, hb1⟩ := KEY.out _ hb
      have H1 := Lib.hid hb1
      clear hb hb1
      rw [chk_false]
      go_wp2_with fail
      go_ret
      exact ⟨by rw [H3.out, key_false]; rfl, Below.more H1.out _⟩
    · simp only [Prod.mk.injEq] at h
      obtain ⟨rfl, rfl, h3⟩ := h
      have H3 := Lib.hid h3
      rw [h3] at HC hc
      clear h3 hc
      have hcv := cv1_run
      have hca : ∀ (w : World) (a : Addr), cv1 w a (some (.int .u8 1)) = .ok (.string ⟨#[1]⟩) w := fun w a => cv1_at w a 1 (by decide) (by decide)
      go_enter Try.func15, Try.ntmps15
      go_wp2_with fail
      refine (HC.out _).mono ?_
      rintro e w1 ⟨rfl, hb⟩
      obtain ⟨c0, c1, c2, hb1⟩ := KEY.out _ hb
      have H1 := Lib.hid hb1
      clear hb hb1
      rw [chk_true]
      go_wp2_with fail
      go_ret
      exact ⟨by rw [H3.out, key_true]; rfl, Below.more H1.out _⟩
    · simp only [Prod.mk.injEq] at h
      obtain ⟨rfl, rfl, h3⟩ := h
      have H3 := Lib.hid h3
      rw [h3] at HC hc
      clear h3 hc
      go_enter Try.func15, Try.ntmps15
      go_wp2_with fail
      refine (HC.out _).mono ?_
      rintro e w1 ⟨rfl, hb⟩
      obtain ⟨c0, c1, c2, hb1⟩ := KEY.out _ hb
      have H1 := Lib.hid hb1
      clear hb hb1
      rw [chk_int]
      go_wp2_with fail
      refine (HB.out _).mono ?_
      rintro e w2 ⟨rfl, hb⟩
      have H2 := Lib.hid (H1.out.trans (hb.mono H1.out.size))
      have hl : (bytesS n).length = 8 := bytesS_len n
      clear hb
      go_wp2_with fail
      go_ret
      exact ⟨by rw [H3.out, key_int, show (3 :: bytesS n) = [3] ++ bytesS n from rfl, ← cat_mk]; rfl, H2.out⟩
    · simp only [Prod.mk.injEq] at h
      obtain ⟨rfl, rfl, h3⟩ := h
      have HK : Hid (chkSc (3, 0, t.data.toList) = 0) := hc
      clear h3 hc
      go_enter Try.func15, Try.ntmps15
      go_wp2_with fail
      refine (HC.out _).mono ?_
      rintro e w1 ⟨rfl, hb⟩
      obtain ⟨c0, c1, c2, hb1⟩ := KEY.out _ hb
      have H1 := Lib.hid hb1
      clear hb hb1
      rw [HK.out]
      go_wp2_with fail
      refine (HV.out _).mono ?_
      rintro e w2 ⟨rfl, rfl⟩
      have hl : (covS t.data.toList).length ≤ 2000000 := by have := HCL.out; omega
      go_wp2_with fail
      go_ret
      exact ⟨by rw [key_text, show (4 :: (covS t.data.toList ++ [0, 0])) = [4] ++ covS t.data.toList ++ [0, 0] from rfl, ← cat_mk, ← cat_mk]; rfl, H1.out⟩
  · have h0 : (chkSc (k, n, t.data.toList) != 0) = true := bne_iff_ne.2 hc
    have HK := Lib.hid (key_bad _ hc)
    go_enter Try.func15, Try.ntmps15
    go_wp2_with fail
    refine (HC.out _).mono ?_
    rintro e w1 ⟨rfl, hb⟩
    have H1 := Lib.hid (HN.out.trans (hb.mono HN.out.size))
    clear hb
    go_wp2_with fail
    go_ret
    exact ⟨by rw [HK.out]; rfl, H1.out⟩
theorem ref_Hash5 (seed : Nat) (k n : Int) (t : ByteArray) (w : World) (hseed : seed < 18446744073709551616) (hn : InR n) (ht : t.size ≤ 1000000) :
    Calls Try.prog 24 #[.int .u64 (seed : Int), scV k n t] w fun e w' => e = .returned (.int .u64 (txtN seed (keySc (k, n, t.data.toList)) : Nat)) ∧ Below w.heap.size w w' := by
  have HN := Lib.hid (Below.newly' w (.cells #[.int .i64 k, .int .i64 n, .string t] 23))
  have HK := Lib.hid (fun W => ref_Key5 k n t W hn ht)
  have hl := key_len (k, n, t.data.toList)
  simp only [len_bytes] at hl
  have HT := Lib.hid (fun W => ref_Text seed ⟨(keySc (k, n, t.data.toList)).toArray⟩ hseed (by simp [ByteArray.size]; omega) W)
  clear hseed hn ht hl
  go_enter Try.func24, Try.ntmps24
  go_wp2_with fail
  refine (HK.out _).mono ?_
  rintro e w1 ⟨rfl, hb⟩
  have H1 := Lib.hid (HN.out.trans (hb.mono HN.out.size))
  clear hb
  go_wp2_with fail
  refine (HT.out _).mono ?_
  rintro e w2 ⟨rfl, rfl⟩
  go_wp2_with fail
  go_ret
  exact ⟨rfl, H1.out⟩
end Go.Proofs.Ytjefaibnlhnaiaa
