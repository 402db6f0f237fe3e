/- Package fault: Text and Error by their contracts. -/
import Derived.Test.YtgdlkaoadlipmaaGreatDoorFault2
import Derived.Test.YtgdlkaoadlipmaaGreatDoorFaultPure
import Derived.Test.YtgdlkaoadlipmaaGreatDoorPkG
import Derived.Test.YtgdlkaoadlipmaaGreatDoorPkE
namespace Go.Proofs.YtgdlkaoadlipmaaGreatDoor
open Go.RowKit
set_option maxRecDepth 1000000

theorem Bld.later {B b : Nat} {l : List UInt8} {w w1 : World} (h : Bld B b l w) (hb : Below w.heap.size w w1) : Bld B b l w1 := by
  have key : ∀ p, Lib.BuilderAtF 44 5 B b p (Lib.byteCells l) w → Lib.BuilderAtF 44 5 B b p (Lib.byteCells l) w1 := by
    rintro p ⟨hB, v, hbk, hown, hne⟩
    have hlt : b < w.heap.size := (Array.getElem?_eq_some_iff.1 hbk).1
    exact ⟨hB, v, (hb.block b hlt).trans hbk, hown.kept (row := none) ⟨hb.os, hb.tape, hb.output, hb.size, fun k hk _ => hb.block k hk⟩ (by cases v.ownBlock <;> simp), hne⟩
  rcases h with h | h
  · exact .inl (key _ h)
  · exact .inr (key _ h)
theorem Bld.block {B b : Nat} {l : List UInt8} {w : World} (h : Bld B b l w) : ∃ cs T fr, w.heap[b]? = some (.cells cs T fr) ∧ T ≠ 3 := by
  rcases h with ⟨_, v, hbk, _⟩ | ⟨_, v, hbk, _⟩ <;> exact ⟨_, _, _, hbk, by decide⟩
theorem Bld.lt {B b : Nat} {l : List UInt8} {w : World} (h : Bld B b l w) : b < w.heap.size := by
  obtain ⟨_, _, _, h, _⟩ := h.block
  exact (Array.getElem?_eq_some_iff.1 h).1

/-- Text's state: the builder in block w.heap.size. -/
structure Tx (w wl : World) (txt : List UInt8) : Prop where
  below : Below w.heap.size w wl
  bld : Bld w.heap.size w.heap.size txt wl
theorem Tx.start (w : World) : Tx w (w.alloc (.cells #[.pointer none, .slice none 0 0] 44)) [] := ⟨Below.newly' _ _, bld_new w⟩
theorem Tx.more {w wl w1 : World} {txt : List UInt8} (h : Tx w wl txt) (hb : Below wl.heap.size wl w1) : Tx w w1 txt := ⟨h.below.trans (hb.mono (Nat.le_of_lt h.bld.lt)), h.bld.later hb⟩
theorem Tx.wrote {w wl w1 : World} {txt txt' : List UInt8} (h : Tx w wl txt) (hk : Keeps w.heap.size w.heap.size wl w1) (hb : Bld w.heap.size w.heap.size txt' w1) : Tx w w1 txt' := ⟨h.below.trans hk.1, hb⟩
theorem Tx.le {w wl : World} {txt : List UInt8} (h : Tx w wl txt) : w.heap.size ≤ wl.heap.size := h.below.size

theorem catc_size (p : Array UInt8) (l : List UInt8) : ((⟨p⟩ : ByteArray) ++ ⟨l.toArray⟩).size = p.size + l.length := by
  rw [ByteArray.size_append]
  simp [ByteArray.size]
theorem catc_list (p : Array UInt8) (l : List UInt8) : ((⟨p⟩ : ByteArray) ++ ⟨l.toArray⟩).data.toList = p.toList ++ l := by
  simp [ByteArray.data_append]
/-- The cell that a loop over a list reads. -/
theorem IntsAt.cellAt {w : World} {a : Option Addr} {len cap : Nat} {l : List Int} (h : IntsAt w (.slice a len cap) l) (hl : len = l.length) (k : Nat) (hk : k < len) : ∃ b o, a = some ⟨b, o, none⟩ ∧ w.cell? ⟨b, o + k, none⟩ = some (.int .i64 (l.getD k 0)) ∧ (-9223372036854775808 ≤ l.getD k 0 ∧ l.getD k 0 ≤ 9223372036854775807) := by
  obtain ⟨a', cap', b, o, heq, ha, hc, hr, hm⟩ := h
  simp only [Value.slice.injEq] at heq
  obtain ⟨rfl, _, rfl⟩ := heq
  refine ⟨b, o, ha (by omega), hc k (by omega), hr _ ?_⟩
  rw [List.getD_eq_getElem?_getD, List.getElem?_eq_getElem (by omega)]
  exact List.getElem_mem _

theorem codeS_in {B : Nat} {w : World} {E : Value} {c : Option Int} {l : List Int} (h : Ch B w E c l) : InR (codeS c) := by
  cases c with
  | none => exact ⟨by decide, by decide⟩
  | some k => exact h.range.2 k rfl

end Go.Proofs.YtgdlkaoadlipmaaGreatDoor
