import Derived.Test.YtpodmgihlomglaaGreatDoorQ35
import Derived.Test.YtpodmgihlomglaaGreatDoorQ37
namespace Go.Proofs.YtpodmgihlomglaaGreatDoor
open Go.RowKit
set_option maxRecDepth 1000000
set_option linter.unusedSimpArgs false
theorem ins_none (v : Tr) : insT (noneT 4) 0 v = withinT (.nd 4 0 ⟨#[]⟩ [] [v]) := by
 unfold insT noneT
 simp [Tr.k, Tr.xs, putN]
theorem set_none (v : Tr) : setT (noneT 5) 1 0 ⟨#[]⟩ v = withinT (.nd 5 0 ⟨#[]⟩ [⟨#[]⟩] [v]) := by
 unfold setT noneT atT fitT
 simp [Tr.k, Tr.xs, Tr.ks, putN, placeK]
theorem add_none (v : Tr) : addT (noneT 6) v = withinT (.nd 6 0 ⟨#[]⟩ [] [v]) := by
 unfold addT noneT atT
 simp [Tr.k, Tr.xs, Tr.ks, putB]
def Chain (v : Tr) (dp : Nat) : Prop := ValB v ∧ depT v = dp ∧ nodT v = dp
theorem chain_null : Chain nullT 1 := ⟨valB_null, by unfold nullT; simp [depT, depL], by unfold nullT; simp [nodT, nodL]⟩
theorem within_one {v : Tr} {dp : Nat} (h : Chain v dp) (h64 : dp ≤ 64) (k : Int) (ks : List ByteArray) : withinT (.nd k 0 ⟨#[]⟩ ks [v]) = if dp = 64 then (nullT, 7) else (.nd k 0 ⟨#[]⟩ ks [v], 0) := by
 have h1 : depT (.nd k 0 ⟨#[]⟩ ks [v]) = dp + 1 := by rw [depT, depL, depL, h.2.1]; omega
 have h2 : nodT (.nd k 0 ⟨#[]⟩ ks [v]) = dp + 1 := by rw [nodT, nodL, nodL, h.2.2]
 unfold withinT
 rw [h1, h2]
 by_cases h3 : dp = 64
 ·rw [if_pos (by omega), if_pos h3]
 ·rw [if_neg (by omega), if_neg (by omega), if_neg h3]
theorem chain_next {v : Tr} {dp : Nat} (h : Chain v dp) (h64 : dp < 64) {k : Int} {ks : List ByteArray} (hk : (k = 4 ∧ ks = []) ∨ (k = 5 ∧ ks = [⟨#[]⟩]) ∨ (k = 6 ∧ ks = [])) : Chain (.nd k 0 ⟨#[]⟩ ks [v]) (dp + 1) := by
 have h1 : depT (.nd k 0 ⟨#[]⟩ ks [v]) = dp + 1 := by rw [depT, depL, depL, h.2.1]; omega
 have h2 : nodT (.nd k 0 ⟨#[]⟩ ks [v]) = dp + 1 := by rw [nodT, nodL, nodL, h.2.2]
 refine ⟨⟨⟨good_iff.2 ⟨fun x hx => ?_, .inr ⟨rfl, rfl, ?_⟩⟩, by omega, by omega⟩, txtT_iff.2 ⟨Nat.zero_le _, fun y hy => ?_, fun x hx => ?_⟩⟩, h1, h2⟩
 ·obtain rfl : x = v := by simpa [Tr.xs] using hx
  exact h.1.1.1
 ·rcases hk with ⟨rfl, rfl⟩ | ⟨rfl, rfl⟩ | ⟨rfl, rfl⟩
  ·exact .inl ⟨rfl, rfl⟩
  ·exact .inr (.inl ⟨rfl, rfl, List.pairwise_singleton _ _⟩)
  ·exact .inr (.inr ⟨rfl, rfl, List.pairwise_singleton _ _⟩)
 ·rcases hk with ⟨rfl, rfl⟩ | ⟨rfl, rfl⟩ | ⟨rfl, rfl⟩
  ·cases hy
  ·obtain rfl : y = ⟨#[]⟩ := by simpa [Tr.ks] using hy
   exact Nat.zero_le _
  ·cases hy
 ·obtain rfl : x = v := by simpa [Tr.xs] using hx
  exact h.1.2
end Go.Proofs.YtpodmgihlomglaaGreatDoor
