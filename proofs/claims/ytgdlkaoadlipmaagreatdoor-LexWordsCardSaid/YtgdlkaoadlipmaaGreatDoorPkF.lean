/- Texts put together: Ref02Walks Ref02Quote Ref02Hex. -/
import Derived.Test.YtgdlkaoadlipmaaGreatDoorPkC
import Derived.Test.YtgdlkaoadlipmaaGreatDoorPkA
import Derived.LoopTactic
import Derived.WalkLawsBesides
import Derived.Handy
import Derived.Deep.QuietTactic
import Derived.BigQuiet
import Derived.Deep.RegionHeld3
import Derived.Deep.RegionWith
import Derived.IntWalk

/- The contracts of the document's own answers for layer 2. -/
namespace Go.Proofs.YtgdlkaoadlipmaaGreatDoor
open Go.RowKit

/-- Nothing but draws. -/
def Drawn (w w' : World) : Prop := ∃ n, w' = w.drewN n
theorem Drawn.refl (w : World) : Drawn w w := ⟨0, rfl⟩
theorem Drawn.more {w w1 : World} (h : Drawn w w1) (n : Nat) : Drawn w (w1.drewN n) := by
  obtain ⟨k, rfl⟩ := h
  exact ⟨k + n, by rw [World.drewN_drewN]⟩
theorem Drawn.below {w w1 : World} (h : Drawn w w1) : Below w.heap.size w w1 := by
  obtain ⟨n, rfl⟩ := h
  exact ⟨rfl, rfl, rfl, Nat.le_refl _, fun _ _ => rfl⟩
theorem len_bytes (s : ByteArray) : s.data.toList.length = s.size := by simp
theorem take_bytes (s : ByteArray) (k : Nat) (h : k < s.size) : s.data.toList.take (k + 1) = s.data.toList.take k ++ [s[k]] := by
  rw [List.take_succ_eq_append_getElem (by simpa using h)]; rfl
theorem get_bytes (s : ByteArray) (k : Nat) (h : k < s.size) : s.data.toList[k]? = some s[k] := by
  rw [List.getElem?_eq_getElem (by simpa using h)]; rfl
theorem ret_nat {x y : Int} (h : x = y) : Ending.returned (.int .i64 x) = .returned (.int .i64 y) := by rw [h]


theorem order_bytes (a b : ByteArray) (k : Nat) (ht : a.data.toList.take k = b.data.toList.take k) (ha : k ≤ a.size) (hb : k ≤ b.size) :
    (k = a.size → k = b.size → orderS a.data.toList b.data.toList = 0) ∧ (k = a.size → ¬ k = b.size → orderS a.data.toList b.data.toList = -1) ∧ (¬ k = a.size → k = b.size → orderS a.data.toList b.data.toList = 1) ∧
    (∀ (h1 : k < a.size) (h2 : k < b.size), ((a[k].toNat : Int) < (b[k].toNat : Int) → orderS a.data.toList b.data.toList = -1) ∧ ((b[k].toNat : Int) < (a[k].toNat : Int) → orderS a.data.toList b.data.toList = 1)) := by
  obtain ⟨h1, h2, h3, h4⟩ := order_of a.data.toList b.data.toList k ht (by rw [len_bytes]; exact ha) (by rw [len_bytes]; exact hb)
  rw [len_bytes, len_bytes] at h1 h2 h3
  refine ⟨h1, h2, h3, fun g1 g2 => ?_⟩
  have := h4 (by rw [len_bytes]; exact g1) (by rw [len_bytes]; exact g2)
  exact ⟨fun h => this.1 (by rw [UInt8.lt_iff_toNat_lt]; show a[k].toNat < b[k].toNat; omega), fun h => this.2 (by rw [UInt8.lt_iff_toNat_lt]; show b[k].toNat < a[k].toNat; omega)⟩

end Go.Proofs.YtgdlkaoadlipmaaGreatDoor

/- The contracts of the document's own quotes and digits. -/
namespace Go.Proofs.YtgdlkaoadlipmaaGreatDoor
open Go.RowKit

theorem hxD_toNat (n : Nat) (h : n < 16) : ((hxD n).toNat : Int) = if n < 10 then 48 + (n : Int) else 87 + (n : Int) := by
  unfold hxD
  by_cases h1 : n < 10
  · rw [if_pos h1, if_pos h1, UInt8.toNat_ofNat_of_lt' (by simp only [UInt8.size]; omega)]; omega
  · rw [if_neg h1, if_neg h1, UInt8.toNat_ofNat_of_lt' (by simp only [UInt8.size]; omega)]; omega

theorem ret_u8 {x y : Int} (h : x = y) : Ending.returned (.int .u8 x) = .returned (.int .u8 y) := by rw [h]
theorem ref_digit (n : Int) (h0 : 0 ≤ n) (h1 : n < 16) (w : World) : Calls Tryz.prog 45 #[.int .u8 n] w fun e w' => e = .returned (.int .u8 ((hxD n.toNat).toNat : Int)) ∧ w = w' := by
  have H := Lib.hid (hxD_toNat n.toNat (by omega))
  by_cases h : n < 10
  · have H2 : Hid (((hxD n.toNat).toNat : Int) = 48 + n) := by
      show _ = _
      rw [H.out, if_pos (by omega)]; omega
    go_enter Tryz.func45, Tryz.ntmps45
    go_wp2
    go_ret
    exact ⟨by rw [H2.out]; rfl, rfl⟩
  · have H2 : Hid (((hxD n.toNat).toNat : Int) = 87 + n) := by
      show _ = _
      rw [H.out, if_neg (by omega)]; omega
    go_enter Tryz.func45, Tryz.ntmps45
    go_wp2
    go_ret
    exact ⟨ret_u8 (by rw [H2.out]; omega), rfl⟩
theorem hval_t (c : UInt8) : ((hval c true : Nat) : Int) = if 48 ≤ (c.toNat : Int) ∧ (c.toNat : Int) ≤ 57 then (c.toNat : Int) - 48 else if 97 ≤ (c.toNat : Int) ∧ (c.toNat : Int) ≤ 102 then (c.toNat : Int) - 87 else if 65 ≤ (c.toNat : Int) ∧ (c.toNat : Int) ≤ 70 then (c.toNat : Int) - 55 else 16 := by
  simp only [hval, true_and]
  repeat' split
  all_goals omega
theorem hval_f (c : UInt8) : ((hval c false : Nat) : Int) = if 48 ≤ (c.toNat : Int) ∧ (c.toNat : Int) ≤ 57 then (c.toNat : Int) - 48 else if 97 ≤ (c.toNat : Int) ∧ (c.toNat : Int) ≤ 102 then (c.toNat : Int) - 87 else 16 := by
  simp only [hval, Bool.false_eq_true, false_and, if_false]
  repeat' split
  all_goals omega
theorem esc_self {c : UInt8} (h : (c.toNat : Int) = 34 ∨ (c.toNat : Int) = 92 ∨ (c.toNat : Int) = 47) : escS c = some c := if_pos (by omega)
theorem esc_n {c : UInt8} (h : (c.toNat : Int) = 110) : escS c = some 10 := by unfold escS; rw [if_neg (by omega), if_pos (by omega)]
theorem esc_t {c : UInt8} (h : (c.toNat : Int) = 116) : escS c = some 9 := by unfold escS; rw [if_neg (by omega), if_neg (by omega), if_pos (by omega)]
theorem esc_r {c : UInt8} (h : (c.toNat : Int) = 114) : escS c = some 13 := by unfold escS; rw [if_neg (by omega), if_neg (by omega), if_neg (by omega), if_pos (by omega)]
theorem esc_none {c : UInt8} (h : ¬ ((c.toNat : Int) = 34 ∨ (c.toNat : Int) = 92 ∨ (c.toNat : Int) = 47) ∧ ¬ (c.toNat : Int) = 110 ∧ ¬ (c.toNat : Int) = 116 ∧ ¬ (c.toNat : Int) = 114) : escS c = none := by
  unfold escS; rw [if_neg (by omega), if_neg (by omega), if_neg (by omega), if_neg (by omega)]
/-- What a call that hands a list of bytes back ends in. -/
def GaveBuf (w : World) (l : List UInt8) (e : Ending) (w' : World) : Prop := ∃ v, e = .returned v ∧ Buf w.heap.size v l w' ∧ Below w.heap.size w w'
theorem one_mark {c : UInt8} (h : (c.toNat : Int) = 34 ∨ (c.toNat : Int) = 92) : oneS c = [92, c] := if_pos (by omega)
theorem one_10 {c : UInt8} (h : (c.toNat : Int) = 10) : oneS c = [92, 110] := by unfold oneS; rw [if_neg (by omega), if_pos (by omega)]
theorem one_9 {c : UInt8} (h : (c.toNat : Int) = 9) : oneS c = [92, 116] := by unfold oneS; rw [if_neg (by omega), if_neg (by omega), if_pos (by omega)]
theorem one_13 {c : UInt8} (h : (c.toNat : Int) = 13) : oneS c = [92, 114] := by unfold oneS; rw [if_neg (by omega), if_neg (by omega), if_neg (by omega), if_pos (by omega)]
theorem one_x {c : UInt8} (h : ¬ (c.toNat : Int) = 34 ∧ ¬ (c.toNat : Int) = 92 ∧ ¬ (c.toNat : Int) = 10 ∧ ¬ (c.toNat : Int) = 9 ∧ ¬ (c.toNat : Int) = 13 ∧ ((c.toNat : Int) < 32 ∨ 126 < (c.toNat : Int))) : oneS c = [92, 120, hxD (c.toNat / 16), hxD (c.toNat % 16)] := by
  unfold oneS; rw [if_neg (by omega), if_neg (by omega), if_neg (by omega), if_neg (by omega), if_pos (by omega)]
theorem one_c {c : UInt8} (h : ¬ (c.toNat : Int) = 34 ∧ ¬ (c.toNat : Int) = 92 ∧ ¬ (c.toNat : Int) = 10 ∧ ¬ (c.toNat : Int) = 9 ∧ ¬ (c.toNat : Int) = 13 ∧ ¬ ((c.toNat : Int) < 32 ∨ 126 < (c.toNat : Int))) : oneS c = [c] := by
  unfold oneS; rw [if_neg (by omega), if_neg (by omega), if_neg (by omega), if_neg (by omega), if_neg (by omega)]
set_option maxRecDepth 100000 in
set_option maxHeartbeats 2000000 in
theorem ref_one (c : UInt8) (w : World) : Calls Tryz.prog 35 #[.int .u8 (c.toNat : Int)] w (GaveBuf w (oneS c)) := by
  have hc : (c.toNat : Int) < 256 := by have := c.toNat_lt; omega
  by_cases h1 : (c.toNat : Int) = 34 ∨ (c.toNat : Int) = 92
  · rw [one_mark h1]
    obtain ⟨n, hn⟩ : ∃ n, (c.toNat : Int) = n := ⟨_, rfl⟩
    have HN := Lib.hid hn
    rw [hn] at h1 hc ⊢
    clear hn
    rcases h1 with rfl | rfl
    all_goals
      go_enter Tryz.func35, Tryz.ntmps35
      go_wp2
      go_ret
      exact ⟨_, rfl, Buf.lit (Nat.le_refl _) _ [92, c] (by simp [bv, HN.out]) (by simp), Below.newly _ _⟩
  · have h1' : ¬ (c.toNat : Int) = 34 ∧ ¬ (c.toNat : Int) = 92 := by omega
    by_cases h10 : (c.toNat : Int) = 10
    · rw [one_10 h10]
      obtain ⟨n, hn⟩ : ∃ n, (c.toNat : Int) = n := ⟨_, rfl⟩
      rw [hn] at h10 ⊢
      clear hn h1 hc
      subst h10
      go_enter Tryz.func35, Tryz.ntmps35
      go_wp2
      go_ret
      exact ⟨_, rfl, Buf.lit (Nat.le_refl _) _ [92, 110] rfl (by simp), Below.newly _ _⟩
    by_cases h9 : (c.toNat : Int) = 9
    · rw [one_9 h9]
      obtain ⟨n, hn⟩ : ∃ n, (c.toNat : Int) = n := ⟨_, rfl⟩
      rw [hn] at h9 ⊢
      clear hn h1 hc
      subst h9
      go_enter Tryz.func35, Tryz.ntmps35
      go_wp2
      go_ret
      exact ⟨_, rfl, Buf.lit (Nat.le_refl _) _ [92, 116] rfl (by simp), Below.newly _ _⟩
    by_cases h13 : (c.toNat : Int) = 13
    · rw [one_13 h13]
      obtain ⟨n, hn⟩ : ∃ n, (c.toNat : Int) = n := ⟨_, rfl⟩
      rw [hn] at h13 ⊢
      clear hn h1 hc
      subst h13
      go_enter Tryz.func35, Tryz.ntmps35
      go_wp2
      go_ret
      exact ⟨_, rfl, Buf.lit (Nat.le_refl _) _ [92, 114] rfl (by simp), Below.newly _ _⟩
    have b1 : ((c.toNat : Int) == 34) = false := beq_eq_false_iff_ne.2 h1'.1
    have b2 : ((c.toNat : Int) == 92) = false := beq_eq_false_iff_ne.2 h1'.2
    have b3 : ((c.toNat : Int) == 10) = false := beq_eq_false_iff_ne.2 h10
    have b4 : ((c.toNat : Int) == 9) = false := beq_eq_false_iff_ne.2 h9
    have b5 : ((c.toNat : Int) == 13) = false := beq_eq_false_iff_ne.2 h13
    by_cases hx : (c.toNat : Int) < 32 ∨ 126 < (c.toNat : Int)
    · rw [one_x ⟨h1'.1, h1'.2, h10, h9, h13, hx⟩]
      clear h1 h1' h10 h9 h13
      rcases hx with hx | hx
      all_goals
        go_enter Tryz.func35, Tryz.ntmps35
        go_wp2_with (go_at_call 45; refine (ref_digit _ (by omega) (by omega) _).mono ?_; rintro e w' ⟨rfl, rfl⟩)
        go_ret
        exact ⟨_, rfl, Buf.lit (Nat.le_refl _) _ [92, 120, hxD (c.toNat / 16), hxD (c.toNat % 16)] rfl (by simp), Below.newly _ _⟩
    · rw [one_c ⟨h1'.1, h1'.2, h10, h9, h13, hx⟩]
      have x1 : ¬ (c.toNat : Int) < 32 := by omega
      have x2 : ¬ 126 < (c.toNat : Int) := by omega
      clear h1 h1' h10 h9 h13 hx
      go_enter Tryz.func35, Tryz.ntmps35
      go_wp2
      go_ret
      exact ⟨_, rfl, Buf.lit (Nat.le_refl _) _ [c] rfl (by simp), Below.newly _ _⟩

theorem get_mem (s : ByteArray) (k : Nat) (h : k < s.size) : s.data.toList.drop k = s[k] :: s.data.toList.drop (k + 1) := by
  have h1 : k < s.data.toList.length := by rw [len_bytes]; exact h
  exact List.drop_eq_getElem_cons h1
theorem oneS_len (c : UInt8) : 1 ≤ (oneS c).length ∧ (oneS c).length ≤ 4 := by
  unfold oneS
  repeat' split
  all_goals simp
theorem flat_take (s : ByteArray) (f : UInt8 → List UInt8) (k : Nat) (h : k < s.size) : (s.data.toList.take (k + 1)).flatMap f = (s.data.toList.take k).flatMap f ++ f s[k] := by
  rw [take_bytes s k h, List.flatMap_append]; simp
theorem flat_len (f : UInt8 → List UInt8) (n : Nat) (hf : ∀ c, (f c).length ≤ n) (l : List UInt8) : (l.flatMap f).length ≤ n * l.length := by
  induction l with
  | nil => simp
  | cons c r ih =>
    have := hf c
    simp only [List.flatMap_cons, List.length_append, List.length_cons, Nat.mul_succ]
    omega
/-- A call that hands bytes back that may be appended. -/
def GaveRow (w : World) (l : List UInt8) (e : Ending) (w' : World) : Prop :=
  ∃ ad c, e = .returned (.slice (some ad) l.length c) ∧ (∀ j u, (bv l)[j]? = some u → w'.cell? (ad.add j) = some u) ∧ Below w.heap.size w w'
theorem GaveBuf.row {w w' : World} {l : List UInt8} {e : Ending} (h : GaveBuf w l e w') (hn : l ≠ []) : GaveRow w l e w' := by
  obtain ⟨v, rfl, hb, hl⟩ := h
  obtain ⟨ad, c, rfl, hc⟩ := hb.src hn
  exact ⟨ad, c, rfl, hc, hl⟩
theorem oneS_ne (c : UInt8) : oneS c ≠ [] := by have := oneS_len c; intro e; rw [e] at this; simp at this
theorem Below.go {B : Nat} {w w1 w2 : World} (h1 : Below B w w1) (hB : B ≤ w1.heap.size) (h2 : Below w1.heap.size w1 w2) : Below B w w2 := h1.trans (h2.mono hB)
set_option maxHeartbeats 2000000 in
theorem ref_Quote (s : ByteArray) (w : World) (hs : s.size ≤ 2000) : Calls Tryz.prog 20 #[.string s] w fun e w' => e = .returned (.string ⟨(quoteS s.data.toList).toArray⟩) ∧ Below w.heap.size w w' := by
  have HI : Hid (Buf w.heap.size (.slice (some ⟨w.heap.size, 0, none⟩) 1 1) [34] (w.alloc (.cells #[.int .u8 34] 5))) := Buf.lit (Nat.le_refl _) _ [34] rfl (by simp)
  have HL := Lib.hid (Below.newly w (.cells #[.int .u8 34] 5))
  go_enter Tryz.func20, Tryz.ntmps20
  go_wp2_with fail
  go_loopw [3, 8] (fun v i wr => ∃ k : Nat, k ≤ s.size ∧ i = .int .i64 k ∧ Buf w.heap.size v (34 :: (s.data.toList.take k).flatMap oneS) wr ∧ Below w.heap.size w wr) (fun _ i _ => s.size - (intOf i).toNat)
  case atStart => exact ⟨0, Nat.zero_le _, rfl, HI.out, HL.out⟩
  case round =>
    obtain ⟨k, hk, rfl, hbuf, hbw⟩ := hrel
    have HB := Lib.hid hbuf
    have HW := Lib.hid hbw
    clear hbuf hbw HI HL
    have HLEN : Hid ((34 :: (s.data.toList.take k).flatMap oneS).length ≤ 8001) := by
      have := flat_len oneS 4 (fun c => (oneS_len c).2) (s.data.toList.take k)
      rw [List.length_take] at this
      show _ ≤ _
      rw [List.length_cons]
      omega
    by_cases hlt : k < s.size
    · have HF := Lib.hid (flat_take s oneS k hlt)
      go_wp2_with (first
        | (go_at_call 35; refine (ref_one _ _).mono ?_; rintro e w1 hg; obtain ⟨ad, c, rfl, hc, hb⟩ := hg.row (oneS_ne _); have HC := Lib.hid hc; have H1 := Lib.hid hb; clear hc hb hg)
        | (at_builtin; go_loud (refine buf_append rfl (.tmp 11) (.tmp 15) rfl rfl (HB.out.later H1.out) (oneS s[k]) ad c rfl HC.out (by have := HLEN.out; have := oneS_len s[k]; omega) ?_); intro v2 w2 hb2 hl2; have HB2 := Lib.hid hb2; have HL2 := Lib.hid hl2; clear hb2 hl2))
      go_roundw
      case rel =>
        refine ⟨k + 1, by omega, by go_num, ?_, ?_⟩
        · rw [HF.out]; exact HB2.out
        · exact (Below.go HW.out HB.out.2 H1.out).trans HL2.out
      case measure => simp [intOf]; omega
    · have HF : Hid ((s.data.toList.take k).flatMap oneS = s.data.toList.flatMap oneS) := by
        show _ = _
        rw [List.take_of_length_le (by rw [len_bytes]; omega)]
      go_wp2_with (at_builtin; refine buf_append_new rfl (.tmp 18) (.tmp 19) rfl rfl HB.out [34] _ rfl 1 1 rfl rfl (by have := HLEN.out; have h1 : [(34 : UInt8)].length = 1 := rfl; omega) ?_; intro v2 w2 hb2 hl2; have hcv := hb2.str; have HL2 := Lib.hid hl2; clear hb2 hl2)
      go_ret
      exact ⟨by unfold quoteS; rw [← HF.out]; rfl, HW.out.trans HL2.out⟩
end Go.Proofs.YtgdlkaoadlipmaaGreatDoor

/- The contracts of the document's own hexadecimal digits. -/
namespace Go.Proofs.YtgdlkaoadlipmaaGreatDoor
open Go.RowKit

theorem unhxS_drop (s : ByteArray) (k : Nat) (h : k + 1 < s.size) (out : List UInt8) : unhxS (s.data.toList.drop k) out =
    if 15 < hval s[k] false ∨ 15 < hval s[k + 1] false then ([], 2) else unhxS (s.data.toList.drop (k + 2)) (out ++ [UInt8.ofNat (16 * hval s[k] false + hval s[k + 1] false)]) := by
  rw [get_mem s k (by omega), get_mem s (k + 1) h]
  simp only [unhxS]
theorem hval_le (c : UInt8) (g : Bool) : hval c g ≤ 16 := by
  unfold hval
  repeat' split
  all_goals omega
end Go.Proofs.YtgdlkaoadlipmaaGreatDoor
