/- Layer 4: the document's own code and text of an error. -/
import Derived.Test.YtlgjmmhofklneaaDoorRef04
namespace Go.Proofs.YtlgjmmhofklneaaDoor
open Go.RowKit
set_option maxRecDepth 1000000

theorem errS_take (c : Int) (l : List Int) (k : Nat) (h : k < l.length) : errS c (l.take (k + 1)) = errS c (l.take k) ++ ([32, 97, 116, 32] ++ Lib.itoa (l.getD k 0)) := by
  simp only [errS, atsS_take l k h, atS, List.append_assoc]
/-- The code that is asked: of a chain that is coded (or not), of this code, at these places. -/
def askedS (coded : Bool) (code : Int) (l : List Int) : Int := if coded then code else if l = [] then 0 else 19
theorem ref_Asked (coded : Bool) (code : Int) (a : Option Addr) (cap : Nat) (l : List Int) (w : World) (hm : l.length ≤ 1000) :
    Calls Tryd.prog 14 #[.agg #[.bool coded, .int .i64 code, .slice a l.length cap]] w fun e w' => e = .returned (.int .i64 (askedS coded code l)) ∧ Below w.heap.size w w' := by
  have HN := Lib.hid (Below.newly' w (.cells #[.bool coded, .int .i64 code, .slice a l.length cap] 29))
  cases coded
  · by_cases h : l = []
    · subst h
      go_enter Tryd.func14, Tryd.ntmps14
      go_wp2
      go_ret
      exact ⟨rfl, HN.out⟩
    · have e : Hid (askedS false code l = 19) := by show _ = _; simp [askedS, h]
      have h0 : ((l.length : Int) == 0) = false := by
        rw [beq_eq_false_iff_ne]
        intro h1
        exact h (List.eq_nil_of_length_eq_zero (by omega))
      obtain ⟨len, hlen⟩ : ∃ len, len = l.length := ⟨_, rfl⟩
      rw [← hlen] at h0 HN ⊢
      clear hlen h
      go_enter Tryd.func14, Tryd.ntmps14
      go_wp2
      go_ret
      exact ⟨by rw [e.out]; rfl, HN.out⟩
  · go_enter Tryd.func14, Tryd.ntmps14
    go_wp2
    go_ret
    exact ⟨rfl, HN.out⟩

theorem ref_Text_ok (code : Int) (a : Option Addr) (cap : Nat) (w : World) :
    Calls Tryd.prog 18 #[.agg #[.bool false, .int .i64 code, .slice a 0 cap]] w fun e w' => e = .returned (.string ⟨#[111, 107]⟩) ∧ Below w.heap.size w w' := by
  have HN := Lib.hid (Below.newly' w (.cells #[.bool false, .int .i64 code, .slice a 0 cap] 29))
  go_enter Tryd.func18, Tryd.ntmps18
  go_wp2
  go_ret
  exact ⟨rfl, HN.out⟩

set_option maxHeartbeats 4000000 in
theorem ref_Text (coded : Bool) (code : Int) (a : Option Addr) (cap len : Nat) (l : List Int) (w : World) (hcode : InR code) (hcl : coded = true ∨ l ≠ []) (hlen : len = l.length) (hm : l.length ≤ 1000) (hv : IntsAt w (.slice a len cap) l) :
    Calls Tryd.prog 18 #[.agg #[.bool coded, .int .i64 code, .slice a len cap]] w fun e w' => e = .returned (.string ⟨(errS (askedS coded code l) l).toArray⟩) ∧ Below w.heap.size w w' := by
  have HI : Hid (InR (askedS coded code l)) := by
    show InR _
    unfold askedS
    split
    · exact hcode
    · split <;> exact ⟨by decide, by decide⟩
  have hg : coded = false → ((len : Int) == 0) = false := by
    rintro rfl
    rcases hcl with h | h
    · cases h
    · rw [beq_eq_false_iff_ne]
      exact fun e => h (List.eq_nil_of_length_eq_zero (by omega))
  have HN := Lib.hid (Below.newly' w (.cells #[.bool coded, .int .i64 code, .slice a len cap] 29))
  have HA := Lib.hid (fun W => ref_Asked coded code a cap l W hm)
  rw [← hlen] at HA
  have HL := Lib.hid hlen
  have hlen1 : len ≤ 1000 := by omega
  have HV := Lib.hid hv
  have HR : Hid (∀ n ∈ l, -9223372036854775808 ≤ n ∧ n ≤ 9223372036854775807) := by obtain ⟨_, _, _, _, _, _, _, hr, _⟩ := hv; exact hr
  obtain ⟨c, hc⟩ : ∃ c, c = askedS coded code l := ⟨_, rfl⟩
  rw [← hc] at HI HA ⊢
  have hlc := Lib.itoa_length_le c HI.out.1 HI.out.2
  have HLC := Lib.hid hlc
  clear hc hcl hm hv hlen hcode
  cases coded with
  | true =>
    clear hg
    go_enter Tryd.func18, Tryd.ntmps18
    go_wp2_with fail
    refine (HA.out _).mono ?_
    rintro e w1 ⟨rfl, hb⟩
    have B1 := Lib.hid hb
    clear hb
    go_wp2_with fail
    refine (ref_Digits c HI.out _).mono ?_
    rintro e w2 ⟨rfl, hb⟩
    have B2 := Lib.hid (B1.out.trans (hb.mono B1.out.size))
    have c2 := (B2.out.cell (p := ⟨w.heap.size, 2, none⟩) (by simp)).trans (show (w.alloc (.cells #[.bool true, .int .i64 code, .slice a len cap] 29)).cell? ⟨w.heap.size, 2, none⟩ = some (.slice a len cap) by simp)
    have B3 := Lib.hid (HN.out.trans (B2.out.mono HN.out.size))
    clear hb B1 B2
    go_wp2_with fail
    go_loopw [3, 22] (fun x n wl => ∃ (k : Nat) (txt : List UInt8), k ≤ len ∧ n = .int .i64 k ∧ x = .string ⟨txt.toArray⟩ ∧ txt = errS c (l.take k) ∧ Below w.heap.size w wl) (fun _ n _ => len - (intOf n).toNat)
    case atStart => exact ⟨0, [101, 114, 114, 111, 114, 32] ++ Lib.itoa c, Nat.zero_le _, rfl, by rw [← cat_mk], by simp [errS, atsS], B3.out⟩
    case round =>
      obtain ⟨k, txt, hk, rfl, rfl, ht, hb⟩ := hrel
      have htl : txt.length ≤ 30000 := by
        have h := atsS_len (l.take k) (fun n hn => HR.out n (List.mem_of_mem_take hn))
        have h2 : (l.take k).length ≤ 1000 := by have := HL.out; rw [List.length_take]; omega
        have h3 := HLC.out
        rw [ht]
        simp only [errS, List.length_append, List.length_cons, List.length_nil]
        omega
      have HT := Lib.hid ht
      have HTL := Lib.hid htl
      have HB := Lib.hid hb
      clear ht hb
      by_cases h1 : k < len
      · obtain ⟨b, o, hao, hcell, hrn⟩ := (HV.out.later HB.out).cellAt HL.out k h1
        subst hao
        obtain ⟨n, hn⟩ : ∃ n, n = l.getD k 0 := ⟨_, rfl⟩
        rw [← hn] at hcell hrn
        have HNN := Lib.hid hn
        have HRN := Lib.hid hrn
        have hlen2 := Lib.itoa_length_le n hrn.1 hrn.2
        clear hn hrn
        go_wp2_with fail
        refine (ref_Digits n HRN.out _).mono ?_
        rintro e w5 ⟨rfl, hb⟩
        have B5 := Lib.hid (HB.out.trans (hb.mono HB.out.size))
        clear hb
        go_wp2_with fail
        go_roundw
        case rel => exact ⟨k + 1, txt ++ ([32, 97, 116, 32] ++ Lib.itoa n), by omega, by go_num, by rw [← cat_mk, ← cat_mk], by rw [HT.out, HNN.out]; exact (errS_take c l k (by have := HL.out; omega)).symm, B5.out⟩
        case measure => simp [intOf]; omega
      · have e : Hid (l.take k = l) := by
          show _ = _
          have := HL.out
          exact List.take_of_length_le (by omega)
        go_wp2_with fail
        go_ret
        exact ⟨by rw [HT.out, e.out]; rfl, HB.out⟩
  | false =>
    have h0 := hg rfl
    clear hg
    go_enter Tryd.func18, Tryd.ntmps18
    go_wp2_with fail
    refine (HA.out _).mono ?_
    rintro e w1 ⟨rfl, hb⟩
    have B1 := Lib.hid hb
    clear hb
    go_wp2_with fail
    refine (ref_Digits c HI.out _).mono ?_
    rintro e w2 ⟨rfl, hb⟩
    have B2 := Lib.hid (B1.out.trans (hb.mono B1.out.size))
    have c2 := (B2.out.cell (p := ⟨w.heap.size, 2, none⟩) (by simp)).trans (show (w.alloc (.cells #[.bool false, .int .i64 code, .slice a len cap] 29)).cell? ⟨w.heap.size, 2, none⟩ = some (.slice a len cap) by simp)
    have B3 := Lib.hid (HN.out.trans (B2.out.mono HN.out.size))
    clear hb B1 B2
    go_wp2_with fail
    go_loopw [3, 22] (fun x n wl => ∃ (k : Nat) (txt : List UInt8), k ≤ len ∧ n = .int .i64 k ∧ x = .string ⟨txt.toArray⟩ ∧ txt = errS c (l.take k) ∧ Below w.heap.size w wl) (fun _ n _ => len - (intOf n).toNat)
    case atStart => exact ⟨0, [101, 114, 114, 111, 114, 32] ++ Lib.itoa c, Nat.zero_le _, rfl, by rw [← cat_mk], by simp [errS, atsS], B3.out⟩
    case round =>
      obtain ⟨k, txt, hk, rfl, rfl, ht, hb⟩ := hrel
      have htl : txt.length ≤ 30000 := by
        have h := atsS_len (l.take k) (fun n hn => HR.out n (List.mem_of_mem_take hn))
        have h2 : (l.take k).length ≤ 1000 := by have := HL.out; rw [List.length_take]; omega
        have h3 := HLC.out
        rw [ht]
        simp only [errS, List.length_append, List.length_cons, List.length_nil]
        omega
      have HT := Lib.hid ht
      have HTL := Lib.hid htl
      have HB := Lib.hid hb
      clear ht hb
      by_cases h1 : k < len
      · obtain ⟨b, o, hao, hcell, hrn⟩ := (HV.out.later HB.out).cellAt HL.out k h1
        subst hao
        obtain ⟨n, hn⟩ : ∃ n, n = l.getD k 0 := ⟨_, rfl⟩
        rw [← hn] at hcell hrn
        have HNN := Lib.hid hn
        have HRN := Lib.hid hrn
        have hlen2 := Lib.itoa_length_le n hrn.1 hrn.2
        clear hn hrn
        go_wp2_with fail
        refine (ref_Digits n HRN.out _).mono ?_
        rintro e w5 ⟨rfl, hb⟩
        have B5 := Lib.hid (HB.out.trans (hb.mono HB.out.size))
        clear hb
        go_wp2_with fail
        go_roundw
        case rel => exact ⟨k + 1, txt ++ ([32, 97, 116, 32] ++ Lib.itoa n), by omega, by go_num, by rw [← cat_mk, ← cat_mk], by rw [HT.out, HNN.out]; exact (errS_take c l k (by have := HL.out; omega)).symm, B5.out⟩
        case measure => simp [intOf]; omega
      · have e : Hid (l.take k = l) := by
          show _ = _
          have := HL.out
          exact List.take_of_length_le (by omega)
        go_wp2_with fail
        go_ret
        exact ⟨by rw [HT.out, e.out]; rfl, HB.out⟩
end Go.Proofs.YtlgjmmhofklneaaDoor
