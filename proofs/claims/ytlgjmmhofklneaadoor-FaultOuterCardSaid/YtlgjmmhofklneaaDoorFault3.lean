/- Package fault: Text and Error by their contracts. -/
import Derived.Test.YtlgjmmhofklneaaDoorFault2
import Derived.Test.YtlgjmmhofklneaaDoorFaultPure
import Derived.Test.YtlgjmmhofklneaaDoorNumDigits
import Derived.Test.YtlgjmmhofklneaaDoorBld
import Derived.Test.YtlgjmmhofklneaaDoorRef01Text
namespace Go.Proofs.YtlgjmmhofklneaaDoor
open Go.RowKit
set_option maxRecDepth 1000000

theorem Bld.later {B b : Nat} {l : List UInt8} {w w1 : World} (h : Bld B b l w) (hb : Below w.heap.size w w1) : Bld B b l w1 := by
  have key : ∀ p, Lib.BuilderAtF 60 5 B b p (Lib.byteCells l) w → Lib.BuilderAtF 60 5 B b p (Lib.byteCells l) w1 := by
    rintro p ⟨hB, v, hbk, hown, hne⟩
    have hlt : b < w.heap.size := (Array.getElem?_eq_some_iff.1 hbk).1
    exact ⟨hB, v, (hb.block b hlt).trans hbk, hown.kept (row := none) ⟨hb.os, hb.tape, hb.output, hb.size, fun k hk _ => hb.block k hk⟩ (by cases v.ownBlock <;> simp), hne⟩
  rcases h with h | h
  · exact .inl (key _ h)
  · exact .inr (key _ h)
theorem Bld.block {B b : Nat} {l : List UInt8} {w : World} (h : Bld B b l w) : ∃ cs T fr, w.heap[b]? = some (.cells cs T fr) ∧ T ≠ 3 := by
  rcases h with ⟨_, v, hbk, _⟩ | ⟨_, v, hbk, _⟩ <;> exact ⟨_, _, _, hbk, by decide⟩
theorem Bld.lt {B b : Nat} {l : List UInt8} {w : World} (h : Bld B b l w) : b < w.heap.size := by
  obtain ⟨_, _, _, h, _⟩ := h.block
  exact (Array.getElem?_eq_some_iff.1 h).1

/-- Text's state: the builder in block w.heap.size. -/
structure Tx (w wl : World) (txt : List UInt8) : Prop where
  below : Below w.heap.size w wl
  bld : Bld w.heap.size w.heap.size txt wl
theorem Tx.start (w : World) : Tx w (w.alloc (.cells #[.pointer none, .slice none 0 0] 60)) [] := ⟨Below.newly' _ _, bld_new w⟩
theorem Tx.more {w wl w1 : World} {txt : List UInt8} (h : Tx w wl txt) (hb : Below wl.heap.size wl w1) : Tx w w1 txt := ⟨h.below.trans (hb.mono (Nat.le_of_lt h.bld.lt)), h.bld.later hb⟩
theorem Tx.wrote {w wl w1 : World} {txt txt' : List UInt8} (h : Tx w wl txt) (hk : Keeps w.heap.size w.heap.size wl w1) (hb : Bld w.heap.size w.heap.size txt' w1) : Tx w w1 txt' := ⟨h.below.trans hk.1, hb⟩
theorem Tx.le {w wl : World} {txt : List UInt8} (h : Tx w wl txt) : w.heap.size ≤ wl.heap.size := h.below.size

theorem fault_Text_nil (w : World) : Calls Tryd.prog 17 #[.nilIface] w fun e w' => e = .returned (.string ⟨#[111, 107]⟩) ∧ w' = w := by
  go_enter Tryd.func17, Tryd.ntmps17
  go_wp2
  go_ret
  exact ⟨rfl, rfl⟩

theorem catc_size (p : Array UInt8) (l : List UInt8) : ((⟨p⟩ : ByteArray) ++ ⟨l.toArray⟩).size = p.size + l.length := by
  rw [ByteArray.size_append]
  simp [ByteArray.size]
theorem catc_list (p : Array UInt8) (l : List UInt8) : ((⟨p⟩ : ByteArray) ++ ⟨l.toArray⟩).data.toList = p.toList ++ l := by
  simp [ByteArray.data_append]
/-- The cell that a loop over a list reads. -/
theorem IntsAt.cellAt {w : World} {a : Option Addr} {len cap : Nat} {l : List Int} (h : IntsAt w (.slice a len cap) l) (hl : len = l.length) (k : Nat) (hk : k < len) : ∃ b o, a = some ⟨b, o, none⟩ ∧ w.cell? ⟨b, o + k, none⟩ = some (.int .i64 (l.getD k 0)) ∧ (-9223372036854775808 ≤ l.getD k 0 ∧ l.getD k 0 ≤ 9223372036854775807) := by
  obtain ⟨a', cap', b, o, heq, ha, hc, hr, hm⟩ := h
  simp only [Value.slice.injEq] at heq
  obtain ⟨rfl, _, rfl⟩ := heq
  refine ⟨b, o, ha (by omega), hc k (by omega), hr _ ?_⟩
  rw [List.getD_eq_getElem?_getD, List.getElem?_eq_getElem (by omega)]
  exact List.getElem_mem _

theorem codeS_in {B : Nat} {w : World} {E : Value} {c : Option Int} {l : List Int} (h : Ch B w E c l) : InR (codeS c) := by
  cases c with
  | none => exact ⟨by decide, by decide⟩
  | some k => exact h.range.2 k rfl

set_option maxHeartbeats 4000000 in
theorem fault_Text {B : Nat} (E : Value) (c : Option Int) (l : List Int) (w : World) (hg : ET w) (ht : Tab w) (hch : Ch B w E c l) (hB : B ≤ w.heap.size) (hl : l.length ≤ 1000) :
    Calls Tryd.prog 17 #[E] w fun e w' => e = .returned (.string ⟨(errS (codeS c) l).toArray⟩) ∧ Below w.heap.size w w' := by
  have HG := Lib.hid hg
  have HT := Lib.hid ht
  have HC := Lib.hid hch
  have HB := Lib.hid hB
  have HL := Lib.hid hl
  have HI := Lib.hid (codeS_in hch)
  have hlen := Lib.itoa_length_le (codeS c) HI.out.1 HI.out.2
  have HLEN := Lib.hid hlen
  obtain ⟨u, x, hE⟩ := hch.iface
  subst hE
  clear hg ht hch hB hl
  go_enter Tryd.func17, Tryd.ntmps17
  have S0 := Lib.hid (Tx.start w)
  go_wp2_with fail
  refine (fault_Code _ c l _ (HG.out.below S0.out.below) (HC.out.later (S0.out.below.mono HB.out) (Nat.le_refl _)) (Nat.le_trans HB.out S0.out.le)).mono ?_
  rintro e w1 ⟨rfl, hb⟩
  have S1 := Lib.hid (S0.out.more hb)
  clear hb S0
  go_wp2_with fail
  refine (num_Digits (codeS c) _ HI.out (HT.out.below S1.out.below)).mono ?_
  rintro e w2 ⟨rfl, hb⟩
  have S2 := Lib.hid (S1.out.more hb)
  clear hb S1
  go_wp2_with fail
  refine (bld_write _ _ [] _ _ S2.out.bld (by have := HLEN.out; rw [catc_size]; simp; omega) S2.out.le).mono ?_
  rintro e w3 ⟨rfl, hbl, hk⟩
  have S3 : Hid (Tx w w3 ([101, 114, 114, 111, 114, 32] ++ Lib.itoa (codeS c))) := S2.out.wrote hk (by rw [catc_list] at hbl; simpa using hbl)
  clear hbl hk S2
  go_wp2_with fail
  refine (fault_Where _ c l _ (HG.out.below S3.out.below) (HC.out.later (S3.out.below.mono HB.out) (Nat.le_refl _)) (Nat.le_trans HB.out S3.out.le) HL.out).mono ?_
  rintro e w4 ⟨v, rfl, hi, hb⟩
  have S4 := Lib.hid (S3.out.more hb)
  have I4 := Lib.hid (hi.low S3.out.le)
  clear hb S3
  obtain ⟨a, cap, rfl⟩ := hi.len
  clear hi
  have HR := Lib.hid HC.out.range.1
  obtain ⟨len, hlen'⟩ : ∃ len, len = l.length := ⟨_, rfl⟩
  have HLL := Lib.hid hlen'
  have hlen1 : len ≤ 1000 := by rw [hlen']; exact HL.out
  rw [← hlen'] at I4 ⊢
  clear hlen'
  go_wp2_with fail
  go_loopw [16] (fun n wl => ∃ k : Nat, k ≤ len ∧ n = .int .i64 k ∧ Tx w wl ([101, 114, 114, 111, 114, 32] ++ Lib.itoa (codeS c) ++ atsS (l.take k)) ∧ Ints w.heap.size (.slice a len cap) l wl) (fun n _ => len - (intOf n).toNat)
  case atStart => exact ⟨0, Nat.zero_le _, rfl, by simpa [atsS] using S4.out, I4.out⟩
  case round =>
    obtain ⟨k, hk, rfl, hs, hi⟩ := hrel
    have SX := Lib.hid hs
    have IX := Lib.hid hi
    clear hs hi
    by_cases h1 : k < len
    · obtain ⟨b, o, hao, hcell, hrn⟩ := (IX.out.reads HR.out).cellAt HLL.out k h1
      subst hao
      obtain ⟨n, hn⟩ : ∃ n, n = l.getD k 0 := ⟨_, rfl⟩
      rw [← hn] at hcell hrn
      have HN := Lib.hid hn
      have HRN := Lib.hid hrn
      have hlen2 := Lib.itoa_length_le n hrn.1 hrn.2
      have HLEN2 := Lib.hid hlen2
      clear hn hrn
      go_wp2_with fail
      refine (num_Digits n _ HRN.out (HT.out.below SX.out.below)).mono ?_
      rintro e w5 ⟨rfl, hb⟩
      have S5 := Lib.hid (SX.out.more hb)
      have I5 := Lib.hid (IX.out.later hb)
      have HTL : Hid ((atsS (l.take k)).length ≤ 25 * 1000) := by
        have h := atsS_len (l.take k) (fun n hn => HR.out n (List.mem_of_mem_take hn))
        have h2 : (l.take k).length ≤ 1000 := by have := HL.out; rw [List.length_take]; omega
        show _ ≤ _
        omega
      clear hb
      go_wp2_with fail
      refine (bld_write _ _ _ _ _ S5.out.bld (by have h3 := HLEN2.out; have h4 := HLEN.out; have h5 := HTL.out; rw [catc_size]; simp only [List.length_append, List.length_cons, List.length_nil]; simp; omega) S5.out.le).mono ?_
      rintro e w6 ⟨rfl, hbl, hk2⟩
      have S6 : Hid (Tx w w6 ([101, 114, 114, 111, 114, 32] ++ Lib.itoa (codeS c) ++ atsS (l.take (k + 1)))) := S5.out.wrote hk2 (by
        rw [catc_list] at hbl
        have e : atsS (l.take (k + 1)) = atsS (l.take k) ++ ([32, 97, 116, 32] ++ Lib.itoa n) := by rw [atsS_take l k (by have := HLL.out; omega), ← HN.out]; rfl
        rw [e, ← List.append_assoc]
        exact hbl)
      have I6 := Lib.hid (I5.out.others hk2.2 hk2.1.size S5.out.bld.block)
      clear hbl hk2
      go_wp2_with fail
      go_roundw
      case rel => exact ⟨k + 1, by omega, by go_num, S6.out, I6.out⟩
      case measure => simp [intOf]; omega
    · have e : Hid (l.take k = l) := by
        show _ = _
        have := HLL.out
        exact List.take_of_length_le (by omega)
      go_wp2_with fail
      refine (bld_String _ _ _ _ SX.out.bld SX.out.le).mono ?_
      rintro e2 w5 ⟨rfl, hb⟩
      have H5 := Lib.hid (SX.out.below.trans hb)
      clear hb
      go_wp2_with fail
      go_ret
      exact ⟨by rw [e.out]; rfl, H5.out⟩

theorem fault_Error {B : Nat} (b : Nat) (c : Option Int) (l : List Int) (w : World) (hg : ET w) (ht : Tab w) (hch : Ch B w (.iface 43 (.pointer (some ⟨b, 0, none⟩))) c l) (hB : B ≤ w.heap.size) (hl : l.length ≤ 1000) :
    Calls Tryd.prog 24 #[.pointer (some ⟨b, 0, none⟩)] w fun e w' => e = .returned (.string ⟨(errS (codeS c) l).toArray⟩) ∧ Below w.heap.size w w' := by
  have H := Lib.hid (fault_Text _ c l w hg ht hch hB hl)
  clear hg ht hch hB hl
  go_enter Tryd.func24, Tryd.ntmps24
  go_wp2_with fail
  refine H.out.mono ?_
  rintro e w1 ⟨rfl, hb⟩
  have HB := Lib.hid hb
  clear hb
  go_wp2_with fail
  go_ret
  exact ⟨rfl, HB.out⟩
end Go.Proofs.YtlgjmmhofklneaaDoor
