/- Layer 4: the document's own answers: Turned, Same, Asked, Text. -/
import Derived.Test.YtlgjmmhofklneaaDoorFault3
import Derived.Deep.QuietTactic
import Derived.BigQuiet
namespace Go.Proofs.YtlgjmmhofklneaaDoor
open Go.RowKit
set_option maxRecDepth 1000000

theorem Below.drewMany {B : Nat} {w w1 : World} (h : Below B w w1) (n : Nat) : Below B w (w1.drewN n) := ⟨h.os, h.tape, h.output, h.size, h.block⟩
theorem take_rev (l : List Int) (k : Nat) (h : k < l.length) : l.reverse.take (k + 1) = l.reverse.take k ++ [l.getD (l.length - 1 - k) 0] := by
  rw [take_snocI l.reverse k (by simpa using h), List.getD_eq_getElem?_getD, List.getD_eq_getElem?_getD, List.getElem?_reverse h]

set_option maxHeartbeats 2000000 in
theorem ref_Turned (v : Value) (l : List Int) (w : World) (hv : IntsAt w v l) (hl : l.length ≤ 1000) :
    Calls Tryd.prog 25 #[v] w fun e w' => ∃ v', e = .returned v' ∧ Ints w.heap.size v' l.reverse w' ∧ Below w.heap.size w w' := by
  have HV := Lib.hid hv
  obtain ⟨a, cap, b, o, rfl, ha, hc, hr, _⟩ := hv
  obtain ⟨len, hlen⟩ : ∃ len, len = l.length := ⟨_, rfl⟩
  have HLL := Lib.hid hlen
  have hlen1 : len ≤ 1000 := by omega
  rw [← hlen] at HV ⊢
  have hN : Hid (Ints w.heap.size (.slice (some ⟨w.heap.size, 0, none⟩) 0 0) [] (w.alloc (.cells #[] 3))) := Ints.lit (Nat.le_refl _) #[] [] rfl (by simp)
  clear ha hc hr hlen hl
  go_enter Tryd.func25, Tryd.ntmps25
  go_wp2
  go_loopw [3, 8] (fun x n wl => ∃ k : Nat, k ≤ len ∧ n = .int .i64 k ∧ Below w.heap.size w wl ∧ Ints w.heap.size x (l.reverse.take k) wl) (fun _ n _ => len - (intOf n).toNat)
  case atStart => exact ⟨0, Nat.zero_le _, rfl, Below.newly' _ _, by simpa using hN.out⟩
  case round =>
    obtain ⟨k, hk, rfl, hb, hi⟩ := hrel
    have HB := Lib.hid hb
    have HI := Lib.hid hi
    clear hb hi
    by_cases h1 : k < len
    · obtain ⟨b, o, hao, hcell, hrn⟩ := (HV.out.later HB.out).cellAt HLL.out (len - 1 - k) (by omega)
      subst hao
      obtain ⟨n, hn⟩ : ∃ n, n = l.getD (len - 1 - k) 0 := ⟨_, rfl⟩
      rw [← hn] at hcell hrn
      have HN := Lib.hid hn
      clear hn hrn
      have HLEN : Hid ((l.reverse.take k).length ≤ 1000) := by
        have h := HLL.out
        show _ ≤ _
        rw [List.length_take, List.length_reverse]; omega
      go_wp2_with (at_builtin; go_loud (refine ints_append_new rfl (.tmp 11) (.tmp 20) rfl rfl HI.out [n] _ rfl 1 1 rfl rfl (by have := HLEN.out; simp only [List.length_singleton]; omega) ?_))
      intro v' w' hi hgr
      have HB2 := Lib.hid (HB.out.grown hgr HI.out.2 (fun j hj => (HI.out.1.lt j hj).1))
      have HI2 : Hid (Ints w.heap.size v' (l.reverse.take (k + 1)) w') := by
        show Ints _ _ _ _
        rw [take_rev l k (by have := HLL.out; omega), ← HLL.out, ← HN.out]; exact hi
      clear hi hgr
      go_wp2_with fail
      go_roundw
      case rel => exact ⟨k + 1, by omega, by go_num, HB2.out, HI2.out⟩
      case measure => simp [intOf]; omega
    · have e : Hid (l.reverse.take k = l.reverse) := by
        show _ = _
        have := HLL.out
        exact List.take_of_length_le (by simp; omega)
      go_wp2_with fail
      go_ret
      exact ⟨_, rfl, by rw [← e.out]; exact HI.out, HB.out⟩

set_option maxHeartbeats 2000000 in
theorem ref_Same (v v' : Value) (l l' : List Int) (w : World) (hv : IntsAt w v l) (hv' : IntsAt w v' l') :
    Calls Tryd.prog 15 #[v, v'] w fun e w' => e = .returned (.bool (decide (l = l'))) ∧ Below w.heap.size w w' := by
  have HV := Lib.hid hv
  have HV' := Lib.hid hv'
  obtain ⟨a, cap, b, o, rfl, ha, hc, hr, hm⟩ := hv
  obtain ⟨a', cap', b', o', rfl, ha', hc', hr', hm'⟩ := hv'
  unfold maxLen at hm hm'
  clear ha ha' hc hc' hr hr'
  by_cases hl : l.length = l'.length
  · obtain ⟨len, hlen⟩ : ∃ len, len = l.length := ⟨_, rfl⟩
    have HLL := Lib.hid hlen
    have HLL' := Lib.hid (hlen.trans hl)
    rw [← hl] at HV' ⊢
    rw [← hlen] at HV HV' hm ⊢
    clear hlen hl hm'
    go_enter Tryd.func15, Tryd.ntmps15
    go_wp2
    go_loopw [13] (fun n wl => ∃ k : Nat, k ≤ len ∧ n = .int .i64 k ∧ Below w.heap.size w wl ∧ l.take k = l'.take k) (fun n _ => len - (intOf n).toNat)
    case atStart => exact ⟨0, Nat.zero_le _, rfl, Below.refl _ _, by simp⟩
    case round =>
      obtain ⟨k, hk, rfl, hb, he⟩ := hrel
      have HB := Lib.hid hb
      have HE := Lib.hid he
      clear hb he
      by_cases h1 : k < len
      · obtain ⟨b, o, hao, hcell, hrn⟩ := (HV.out.later HB.out).cellAt HLL.out k h1
        subst hao
        obtain ⟨b', o', hao', hcell', hrn'⟩ := (HV'.out.later HB.out).cellAt HLL'.out k h1
        subst hao'
        obtain ⟨n, hn⟩ : ∃ n, n = l.getD k 0 := ⟨_, rfl⟩
        rw [← hn] at hcell hrn
        obtain ⟨n', hn'⟩ : ∃ n', n' = l'.getD k 0 := ⟨_, rfl⟩
        rw [← hn'] at hcell' hrn'
        have HN := Lib.hid hn
        have HN' := Lib.hid hn'
        clear hn hrn hn' hrn'
        have HM : Hid (l.take (k + 1) = l'.take (k + 1) ↔ n = n') := by
          show _ ↔ _
          rw [take_snocI l k (by have := HLL.out; omega), take_snocI l' k (by have := HLL'.out; omega), HE.out, ← HN.out, ← HN'.out]
          simp
        by_cases hnn : n = n'
        · subst hnn
          have h2 : (n != n) = false := by simp
          go_wp2_with fail
          go_quiet (fail)
          go_wp2_with fail
          go_roundw
          case rel => exact ⟨k + 1, by omega, by go_num, Below.drewMany HB.out _, HM.out.2 trivial⟩
          case measure => simp [intOf]; omega
        · have h2 : (n != n') = true := bne_iff_ne.2 hnn
          have e : Hid (decide (l = l') = false) := by
            show _ = _
            rw [decide_eq_false_iff_not]
            intro e
            exact hnn (HM.out.1 (by rw [e]))
          go_wp2_with fail
          go_quiet (fail)
          go_wp2_with fail
          go_ret
          exact ⟨by rw [e.out]; rfl, Below.drewMany HB.out _⟩
      · have e : Hid (decide (l = l') = true) := by
          show _ = _
          rw [decide_eq_true_iff]
          have h3 := HLL.out
          have h4 := HLL'.out
          have h5 := HE.out
          rwa [List.take_of_length_le (by omega), List.take_of_length_le (by omega)] at h5
        go_wp2_with fail
        go_ret
        exact ⟨by rw [e.out]; rfl, HB.out⟩
  · have e : Hid (decide (l = l') = false) := by
      show _ = _
      rw [decide_eq_false_iff_not]
      intro e
      exact hl (by rw [e])
    have hl2 : ((l.length : Int) != (l'.length : Int)) = true := by rw [bne_iff_ne]; omega
    obtain ⟨n1, h1⟩ : ∃ n1, n1 = l.length := ⟨_, rfl⟩
    obtain ⟨n2, h2⟩ : ∃ n2, n2 = l'.length := ⟨_, rfl⟩
    rw [← h1] at hl2 hm ⊢
    rw [← h2] at hl2 hm' ⊢
    clear hl h1 h2 HV HV'
    go_enter Tryd.func15, Tryd.ntmps15
    go_wp2_with fail
    go_ret
    exact ⟨by rw [e.out]; rfl, Below.refl _ _⟩
end Go.Proofs.YtlgjmmhofklneaaDoor
