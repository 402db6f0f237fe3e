/- The document's answer for lex: how tokens are printed. (written by tools/gen13/ref13p.py) -/
import Derived.Test.YtgdlkaoadlipmaaGreatDoorRef13S
import Derived.Test.YtgdlkaoadlipmaaGreatDoorPkE
import Derived.Test.YtgdlkaoadlipmaaGreatDoorPkF
import Derived.Lib.ItoaLen
import Derived.Deep.MidRow
namespace Go.Proofs.YtgdlkaoadlipmaaGreatDoor
open Go.RowKit
set_option maxRecDepth 1000000
set_option linter.unusedSimpArgs false

/-- A token of any places. -/
structure TokI where
  k : Int
  a : Int
  e : Int
  n : Int
  t : ByteArray
def tiC (x : TokI) : Array Value := #[.int .i64 x.k, .int .i64 x.a, .int .i64 x.e, .int .i64 x.n, .string x.t]
/-- v is a list that reads as these tokens, wherever it lies. -/
def TiL (w : World) (v : Value) (l : List TokI) : Prop := ∃ (a : Option Addr) (c b o : Nat), v = .slice a l.length c ∧ l.length ≤ maxLen ∧ (0 < l.length → a = some ⟨b, o, none⟩) ∧ ∀ j (h : j < l.length), w.rangeAt b (o + j * 5) (tiC l[j]).toList
theorem TiL.later {w w' : World} {v : Value} {l : List TokI} (h : TiL w v l) (hb : Below w.heap.size w w') : TiL w' v l := by
  obtain ⟨a, c, b, o, h1, h2, h3, h4⟩ := h
  exact ⟨a, c, b, o, h1, h2, h3, fun j hj => rangeAt_later (h4 j hj) hb⟩
def Tok.i (t : Tok) : TokI := ⟨t.k, t.a, t.e, t.n, ⟨t.t.toArray⟩⟩
theorem TkL.ti {T : TypeId} {w : World} {v : Value} {l : List Tok} (h : TkL T w v l) : TiL w v (l.map Tok.i) := by
  obtain ⟨a, c, h1, h2, h3⟩ := h
  rcases Nat.eq_zero_or_pos l.length with h0 | h0
  · refine ⟨a, c, 0, 0, by rw [List.length_map]; exact h1, by rw [List.length_map]; exact h2, fun h => by rw [List.length_map] at h; omega, fun j h => by rw [List.length_map] at h; omega⟩
  · obtain ⟨g, cs, fr, rfl, h5, h6⟩ := h3 h0
    refine ⟨_, c, g, 0, by rw [List.length_map]; exact h1, by rw [List.length_map]; exact h2, fun _ => rfl, fun j hj => ?_⟩
    rw [List.length_map] at hj
    intro k u hu
    rw [Nat.zero_add]
    refine cell_in h5 (h6 j hj k u ?_)
    rw [← hu, List.getElem_map, Array.getElem?_toList]
    rfl
def prnI (x : TokI) : List UInt8 := if x.k = 1 ∨ x.k = 2 then x.t.data.toList else if x.k = 3 then Lib.itoa x.n else if x.k = 4 then quoteS x.t.data.toList else []
def joinI : List TokI → List UInt8
  | [] => []
  | [x] => prnI x
  | x :: y :: l => prnI x ++ 32 :: joinI (y :: l)
theorem joinI_snoc : ∀ (l : List TokI) (x : TokI), joinI (l ++ [x]) = (if l = [] then [] else joinI l ++ [32]) ++ prnI x
  | [], x => rfl
  | [a], x => by simp [joinI]
  | a :: b :: l, x => by
    have h := joinI_snoc (b :: l) x
    rw [if_neg (by simp)] at h
    show prnI a ++ 32 :: joinI (b :: l ++ [x]) = _
    rw [h, if_neg (by simp)]
    simp [joinI]
theorem joinI_step (l : List TokI) {j : Nat} (h : j < l.length) : joinI (l.take (j + 1)) = (if j = 0 then [] else joinI (l.take j) ++ [32]) ++ prnI l[j] := by
  rw [List.take_succ_eq_append_getElem h, joinI_snoc]
  by_cases h0 : j = 0
  · subst h0; simp
  · rw [if_neg h0, if_neg (fun e => by have := congrArg List.length e; rw [List.length_take] at this; simp only [List.length_nil] at this; omega)]
theorem joinI_le (l : List TokI) : ∀ (d j : Nat), j + d = l.length → (joinI (l.take j)).length ≤ (joinI l).length
  | 0, j, h => by rw [List.take_of_length_le (by omega)]; exact Nat.le_refl _
  | d + 1, j, h => by
    have h1 := joinI_le l d (j + 1) (by omega)
    rw [joinI_step l (show j < l.length by omega)] at h1
    by_cases h0 : j = 0
    · subst h0; simp [joinI]
    · rw [if_neg h0] at h1
      simp only [List.length_append] at h1
      omega
/-- With the token at j the text so far has no more than all. -/
theorem joinI_room (l : List TokI) {j : Nat} (h : j < l.length) : (joinI (l.take j)).length + 1 + (prnI l[j]).length ≤ (joinI l).length + 1 := by
  have h1 := joinI_le l (l.length - (j + 1)) (j + 1) (by omega)
  rw [joinI_step l h] at h1
  by_cases h0 : j = 0
  · subst h0; simp [joinI] at h1 ⊢; omega
  · rw [if_neg h0] at h1
    simp only [List.length_append, List.length_cons, List.length_nil] at h1
    omega
theorem ld_tk {ops : Array Oper} {rest : List Oper} {o : Oper} {a : Act} {w : World} {Q : Exit → Act → World → Prop} (hwd : Region.wanted o (yielded ops a.tmps) = true) (y : Operand) (ho : o.op = .load 25 y)
    (b k : Nat) (hx : a.eval y = .pointer (some ⟨b, k, none⟩)) (cs : Array Value) (hR : w.rangeAt b k cs.toList) (hs : cs.size = 5)
    (h : wpList Tryz.prog ops Q rest (a.put o.dst (.agg cs)) w) : wpList Tryz.prog ops Q (o :: rest) a w :=
  wpList_step fun _ hK => by
    rw [if_pos hwd]
    exact wp_load_mid 25 y ho b k hx _ _ hR Tryz.underlying25 rfl (by rw [tok_size, Array.length_toList, hs]) (hK _ _ h)
theorem cat_l (a b : ByteArray) : (a ++ b).data.toList = a.data.toList ++ b.data.toList := by rw [ByteArray.data_append, Array.toList_append]

set_option maxHeartbeats 2000000 in
theorem rf_Print (w : World) (v : Value) (l : List TokI) (hv : TiL w v l) (hl : (joinI l).length ≤ 200000) (ht : ∀ x ∈ l, x.t.size ≤ 2000 ∧ InR x.n) :
    Calls Tryz.prog 11 #[v] w fun e w' => ∃ S : ByteArray, e = .returned (.string S) ∧ S.data.toList = joinI l ∧ Below w.heap.size w w' := by
  obtain ⟨ad, cap, b, oo, rfl, hmax, ha, hr⟩ := hv
  obtain ⟨N, hN⟩ : ∃ N, N = l.length := ⟨_, rfl⟩
  rw [← hN]
  have hn4 : (N : Int) ≤ 9223372036854775807 := by unfold maxLen at hmax; omega
  have HNL := Lib.hid hN
  have HA := Lib.hid ha
  have HRR := Lib.hid (fun W (hb : Below w.heap.size w W) j (hj : j < l.length) => rangeAt_later (hr j hj) hb)
  have HL := Lib.hid hl
  have HT := Lib.hid ht
  clear hN ha hr hmax hl ht
  go_enter Tryz.func11, Tryz.ntmps11
  go_wp2_with fail
  go_loopw [3, 8] (fun sv i W => ∃ (S : ByteArray) (j : Nat), j ≤ N ∧ i = .int .i64 (j : Int) ∧ sv = .string S ∧ S.data.toList = joinI (l.take j) ∧ Below w.heap.size w W) (fun _ i _ => N - (intOf i).toNat)
  case atStart => exact ⟨⟨#[]⟩, 0, Nat.zero_le _, rfl, rfl, by simp [joinI], Below.refl _ _⟩
  case round =>
    obtain ⟨S, j, hj, rfl, rfl, hS, hw⟩ := hrel
    have HW := Lib.hid hw
    have HS := Lib.hid hS
    clear hw hS
    by_cases hlt : j < N
    case neg =>
      obtain rfl : j = N := by omega
      go_wp2_with fail
      go_ret
      refine ⟨S, rfl, ?_, HW.out⟩
      rw [HS.out, List.take_of_length_le (by rw [← HNL.out]; exact Nat.le_refl _)]
    have hlt' : (j : Int) < (N : Int) := by omega
    have i0 : (0 : Int) ≤ (j : Int) := by omega
    have hjl : j < l.length := by rw [← HNL.out]; exact hlt
    obtain rfl := HA.out (by omega)
    have hroom := joinI_room l hjl
    have hr := HRR.out wr HW.out j hjl
    have hst := joinI_step l hjl
    have htx := HT.out _ (List.getElem_mem hjl)
    rw [← HS.out] at hroom hst
    obtain ⟨x, hx⟩ : ∃ x, x = l[j] := ⟨_, rfl⟩
    rw [← hx] at hroom hr hst htx
    obtain ⟨xk, xa, xe, xn, xt⟩ := x
    rw [len_bytes] at hroom
    have hsz : S.size ≤ 200000 := by have := HL.out; omega
    have HR := Lib.hid hr
    have HST := Lib.hid hst
    have HRM := Lib.hid hroom
    have HTX := Lib.hid htx
    have HSZ := Lib.hid (And.intro hsz HL.out)
    have HLT := Lib.hid hlt
    clear hr hst hroom hx htx hjl hlt hsz
    by_cases c1 : xk = 1
    case pos =>
      have hk1 : (xk == 1) = true := beq_iff_eq.2 c1
      have HPR : Hid (prnI ⟨xk, xa, xe, xn, xt⟩ = xt.data.toList) := if_pos (.inl c1)
      have hxz : xt.size ≤ 200000 := by have h1 := HRM.out; rw [HPR.out, len_bytes] at h1; have h2 := HSZ.out; omega
      have hsz := HSZ.out.1
      clear c1
      by_cases hj0 : (0 : Int) < (j : Int)
      case neg =>
        go_wp2_with (first
          | (refine ld_tk (by rfl) _ rfl b (oo + j * 5) rfl (tiC ⟨xk, xa, xe, xn, xt⟩) HR.out rfl ?_)
          | (refine st_agg rfl 25 _ _ rfl wr.heap.size (tiC ⟨xk, xa, xe, xn, xt⟩) rfl rfl 25 (tokC ⟨0, 0, 0, 0, []⟩) (heap_alloc_last _ _) tok_size rfl (by simp [Value.oneCell', tiC]) ?_; intro w8 h8 k8; have HW8 := Lib.hid (HW.out.trans (((Below.newly' _ _).trans (k8.below (Nat.le_refl _))).mono HW.out.size)); have c0 := cell_in h8 (j := 0) (v := .int .i64 xk) rfl; have c3 := cell_in h8 (j := 3) (v := .int .i64 xn) rfl; have c4 := cell_in h8 (j := 4) (v := .string xt) rfl; clear k8 h8))
        go_roundw
        case rel =>
          refine ⟨_, j + 1, by have := HLT.out; omega, by go_num, rfl, ?_, HW8.out⟩
          rw [HST.out, HPR.out]
          rw [if_pos (show j = 0 by omega)]
          (try simp only [cat_l])
          have hS0 : S.data.toList = [] := by rw [HS.out, show j = 0 by omega]; rfl
          (try simp [hS0])
        case measure => have := HLT.out; simp [intOf]; omega
      go_wp2_with (first
        | (refine ld_tk (by rfl) _ rfl b (oo + j * 5) rfl (tiC ⟨xk, xa, xe, xn, xt⟩) HR.out rfl ?_)
        | (refine st_agg rfl 25 _ _ rfl wr.heap.size (tiC ⟨xk, xa, xe, xn, xt⟩) rfl rfl 25 (tokC ⟨0, 0, 0, 0, []⟩) (heap_alloc_last _ _) tok_size rfl (by simp [Value.oneCell', tiC]) ?_; intro w8 h8 k8; have HW8 := Lib.hid (HW.out.trans (((Below.newly' _ _).trans (k8.below (Nat.le_refl _))).mono HW.out.size)); have c0 := cell_in h8 (j := 0) (v := .int .i64 xk) rfl; have c3 := cell_in h8 (j := 3) (v := .int .i64 xn) rfl; have c4 := cell_in h8 (j := 4) (v := .string xt) rfl; clear k8 h8))
      go_roundw
      case rel =>
        refine ⟨_, j + 1, by have := HLT.out; omega, by go_num, rfl, ?_, HW8.out⟩
        rw [HST.out, HPR.out]
        rw [if_neg (show ¬ j = 0 by omega)]
        (try simp only [cat_l])
        (try simp [])
      case measure => have := HLT.out; simp [intOf]; omega
    by_cases c2 : xk = 2
    case pos =>
      have hk1 : (xk == 1) = false := beq_eq_false_iff_ne.2 c1
      have hk2 : (xk == 2) = true := beq_iff_eq.2 c2
      have HPR : Hid (prnI ⟨xk, xa, xe, xn, xt⟩ = xt.data.toList) := if_pos (.inr c2)
      have hxz : xt.size ≤ 200000 := by have h1 := HRM.out; rw [HPR.out, len_bytes] at h1; have h2 := HSZ.out; omega
      have hsz := HSZ.out.1
      clear c1 c2
      by_cases hj0 : (0 : Int) < (j : Int)
      case neg =>
        go_wp2_with (first
          | (refine ld_tk (by rfl) _ rfl b (oo + j * 5) rfl (tiC ⟨xk, xa, xe, xn, xt⟩) HR.out rfl ?_)
          | (refine st_agg rfl 25 _ _ rfl wr.heap.size (tiC ⟨xk, xa, xe, xn, xt⟩) rfl rfl 25 (tokC ⟨0, 0, 0, 0, []⟩) (heap_alloc_last _ _) tok_size rfl (by simp [Value.oneCell', tiC]) ?_; intro w8 h8 k8; have HW8 := Lib.hid (HW.out.trans (((Below.newly' _ _).trans (k8.below (Nat.le_refl _))).mono HW.out.size)); have c0 := cell_in h8 (j := 0) (v := .int .i64 xk) rfl; have c3 := cell_in h8 (j := 3) (v := .int .i64 xn) rfl; have c4 := cell_in h8 (j := 4) (v := .string xt) rfl; clear k8 h8))
        go_roundw
        case rel =>
          refine ⟨_, j + 1, by have := HLT.out; omega, by go_num, rfl, ?_, HW8.out⟩
          rw [HST.out, HPR.out]
          rw [if_pos (show j = 0 by omega)]
          (try simp only [cat_l])
          have hS0 : S.data.toList = [] := by rw [HS.out, show j = 0 by omega]; rfl
          (try simp [hS0])
        case measure => have := HLT.out; simp [intOf]; omega
      go_wp2_with (first
        | (refine ld_tk (by rfl) _ rfl b (oo + j * 5) rfl (tiC ⟨xk, xa, xe, xn, xt⟩) HR.out rfl ?_)
        | (refine st_agg rfl 25 _ _ rfl wr.heap.size (tiC ⟨xk, xa, xe, xn, xt⟩) rfl rfl 25 (tokC ⟨0, 0, 0, 0, []⟩) (heap_alloc_last _ _) tok_size rfl (by simp [Value.oneCell', tiC]) ?_; intro w8 h8 k8; have HW8 := Lib.hid (HW.out.trans (((Below.newly' _ _).trans (k8.below (Nat.le_refl _))).mono HW.out.size)); have c0 := cell_in h8 (j := 0) (v := .int .i64 xk) rfl; have c3 := cell_in h8 (j := 3) (v := .int .i64 xn) rfl; have c4 := cell_in h8 (j := 4) (v := .string xt) rfl; clear k8 h8))
      go_roundw
      case rel =>
        refine ⟨_, j + 1, by have := HLT.out; omega, by go_num, rfl, ?_, HW8.out⟩
        rw [HST.out, HPR.out]
        rw [if_neg (show ¬ j = 0 by omega)]
        (try simp only [cat_l])
        (try simp [])
      case measure => have := HLT.out; simp [intOf]; omega
    by_cases c3 : xk = 3
    case pos =>
      have hk1 : (xk == 1) = false := beq_eq_false_iff_ne.2 c1
      have hk2 : (xk == 2) = false := beq_eq_false_iff_ne.2 c2
      have hk3 : (xk == 3) = true := beq_iff_eq.2 c3
      have HPR : Hid (prnI ⟨xk, xa, xe, xn, xt⟩ = Lib.itoa xn) := (if_neg (fun h => h.elim c1 c2)).trans (if_pos c3)
      have hxz : (Lib.itoa xn).length ≤ 200000 := by have h1 := HRM.out; rw [HPR.out] at h1; have h2 := HSZ.out; omega
      obtain ⟨D, hD⟩ : ∃ D : ByteArray, D = ⟨(Lib.itoa xn).toArray⟩ := ⟨_, rfl⟩
      have hDz : D.size ≤ 200000 := by rw [hD]; show (List.toArray _).size ≤ _; rw [List.size_toArray]; exact hxz
      have HDG : Hid (∀ W, Calls Tryz.prog 19 #[.int .i64 xn] W fun e w' => e = .returned (.string D) ∧ Below W.heap.size W w') := fun W => by rw [hD]; exact ref_Digits xn HTX.out.2 W
      have HDE : Hid (D.data.toList = Lib.itoa xn) := by show _ = _; rw [hD]
      clear hD hxz
      have hsz := HSZ.out.1
      clear c1 c2 c3
      by_cases hj0 : (0 : Int) < (j : Int)
      case neg =>
        go_wp2_with (first
          | (refine ld_tk (by rfl) _ rfl b (oo + j * 5) rfl (tiC ⟨xk, xa, xe, xn, xt⟩) HR.out rfl ?_)
          | (refine st_agg rfl 25 _ _ rfl wr.heap.size (tiC ⟨xk, xa, xe, xn, xt⟩) rfl rfl 25 (tokC ⟨0, 0, 0, 0, []⟩) (heap_alloc_last _ _) tok_size rfl (by simp [Value.oneCell', tiC]) ?_; intro w8 h8 k8; have HW8 := Lib.hid (HW.out.trans (((Below.newly' _ _).trans (k8.below (Nat.le_refl _))).mono HW.out.size)); have c0 := cell_in h8 (j := 0) (v := .int .i64 xk) rfl; have c3 := cell_in h8 (j := 3) (v := .int .i64 xn) rfl; have c4 := cell_in h8 (j := 4) (v := .string xt) rfl; clear k8 h8)
          | (go_at_call 19; refine (HDG.out _).mono ?_; rintro r V ⟨rfl, hb⟩; replace HW8 := Lib.hid (HW8.out.trans (hb.mono HW8.out.size)); clear hb))
        go_roundw
        case rel =>
          refine ⟨_, j + 1, by have := HLT.out; omega, by go_num, rfl, ?_, HW8.out⟩
          rw [HST.out, HPR.out]
          rw [if_pos (show j = 0 by omega)]
          (try simp only [cat_l])
          have hS0 : S.data.toList = [] := by rw [HS.out, show j = 0 by omega]; rfl
          (try simp [hS0, HDE.out])
        case measure => have := HLT.out; simp [intOf]; omega
      go_wp2_with (first
        | (refine ld_tk (by rfl) _ rfl b (oo + j * 5) rfl (tiC ⟨xk, xa, xe, xn, xt⟩) HR.out rfl ?_)
        | (refine st_agg rfl 25 _ _ rfl wr.heap.size (tiC ⟨xk, xa, xe, xn, xt⟩) rfl rfl 25 (tokC ⟨0, 0, 0, 0, []⟩) (heap_alloc_last _ _) tok_size rfl (by simp [Value.oneCell', tiC]) ?_; intro w8 h8 k8; have HW8 := Lib.hid (HW.out.trans (((Below.newly' _ _).trans (k8.below (Nat.le_refl _))).mono HW.out.size)); have c0 := cell_in h8 (j := 0) (v := .int .i64 xk) rfl; have c3 := cell_in h8 (j := 3) (v := .int .i64 xn) rfl; have c4 := cell_in h8 (j := 4) (v := .string xt) rfl; clear k8 h8)
        | (go_at_call 19; refine (HDG.out _).mono ?_; rintro r V ⟨rfl, hb⟩; replace HW8 := Lib.hid (HW8.out.trans (hb.mono HW8.out.size)); clear hb))
      go_roundw
      case rel =>
        refine ⟨_, j + 1, by have := HLT.out; omega, by go_num, rfl, ?_, HW8.out⟩
        rw [HST.out, HPR.out]
        rw [if_neg (show ¬ j = 0 by omega)]
        (try simp only [cat_l])
        (try simp [HDE.out])
      case measure => have := HLT.out; simp [intOf]; omega
    by_cases c4 : xk = 4
    case pos =>
      have hk1 : (xk == 1) = false := beq_eq_false_iff_ne.2 c1
      have hk2 : (xk == 2) = false := beq_eq_false_iff_ne.2 c2
      have hk3 : (xk == 3) = false := beq_eq_false_iff_ne.2 c3
      have hk4 : (xk == 4) = true := beq_iff_eq.2 c4
      have HPR : Hid (prnI ⟨xk, xa, xe, xn, xt⟩ = quoteS xt.data.toList) := (if_neg (fun h => h.elim c1 c2)).trans ((if_neg c3).trans (if_pos c4))
      have hxz : (quoteS xt.data.toList).length ≤ 200000 := by have h1 := HRM.out; rw [HPR.out] at h1; have h2 := HSZ.out; omega
      obtain ⟨D, hD⟩ : ∃ D : ByteArray, D = ⟨(quoteS xt.data.toList).toArray⟩ := ⟨_, rfl⟩
      have hDz : D.size ≤ 200000 := by rw [hD]; show (List.toArray _).size ≤ _; rw [List.size_toArray]; exact hxz
      have HQU : Hid (∀ W, Calls Tryz.prog 20 #[.string xt] W fun e w' => e = .returned (.string D) ∧ Below W.heap.size W w') := fun W => by rw [hD]; exact ref_Quote xt W HTX.out.1
      have HDE : Hid (D.data.toList = quoteS xt.data.toList) := by show _ = _; rw [hD]
      clear hD hxz
      have hsz := HSZ.out.1
      clear c1 c2 c3 c4
      by_cases hj0 : (0 : Int) < (j : Int)
      case neg =>
        go_wp2_with (first
          | (refine ld_tk (by rfl) _ rfl b (oo + j * 5) rfl (tiC ⟨xk, xa, xe, xn, xt⟩) HR.out rfl ?_)
          | (refine st_agg rfl 25 _ _ rfl wr.heap.size (tiC ⟨xk, xa, xe, xn, xt⟩) rfl rfl 25 (tokC ⟨0, 0, 0, 0, []⟩) (heap_alloc_last _ _) tok_size rfl (by simp [Value.oneCell', tiC]) ?_; intro w8 h8 k8; have HW8 := Lib.hid (HW.out.trans (((Below.newly' _ _).trans (k8.below (Nat.le_refl _))).mono HW.out.size)); have c0 := cell_in h8 (j := 0) (v := .int .i64 xk) rfl; have c3 := cell_in h8 (j := 3) (v := .int .i64 xn) rfl; have c4 := cell_in h8 (j := 4) (v := .string xt) rfl; clear k8 h8)
          | (go_at_call 20; refine (HQU.out _).mono ?_; rintro r V ⟨rfl, hb⟩; replace HW8 := Lib.hid (HW8.out.trans (hb.mono HW8.out.size)); clear hb))
        go_roundw
        case rel =>
          refine ⟨_, j + 1, by have := HLT.out; omega, by go_num, rfl, ?_, HW8.out⟩
          rw [HST.out, HPR.out]
          rw [if_pos (show j = 0 by omega)]
          (try simp only [cat_l])
          have hS0 : S.data.toList = [] := by rw [HS.out, show j = 0 by omega]; rfl
          (try simp [hS0, HDE.out])
        case measure => have := HLT.out; simp [intOf]; omega
      go_wp2_with (first
        | (refine ld_tk (by rfl) _ rfl b (oo + j * 5) rfl (tiC ⟨xk, xa, xe, xn, xt⟩) HR.out rfl ?_)
        | (refine st_agg rfl 25 _ _ rfl wr.heap.size (tiC ⟨xk, xa, xe, xn, xt⟩) rfl rfl 25 (tokC ⟨0, 0, 0, 0, []⟩) (heap_alloc_last _ _) tok_size rfl (by simp [Value.oneCell', tiC]) ?_; intro w8 h8 k8; have HW8 := Lib.hid (HW.out.trans (((Below.newly' _ _).trans (k8.below (Nat.le_refl _))).mono HW.out.size)); have c0 := cell_in h8 (j := 0) (v := .int .i64 xk) rfl; have c3 := cell_in h8 (j := 3) (v := .int .i64 xn) rfl; have c4 := cell_in h8 (j := 4) (v := .string xt) rfl; clear k8 h8)
        | (go_at_call 20; refine (HQU.out _).mono ?_; rintro r V ⟨rfl, hb⟩; replace HW8 := Lib.hid (HW8.out.trans (hb.mono HW8.out.size)); clear hb))
      go_roundw
      case rel =>
        refine ⟨_, j + 1, by have := HLT.out; omega, by go_num, rfl, ?_, HW8.out⟩
        rw [HST.out, HPR.out]
        rw [if_neg (show ¬ j = 0 by omega)]
        (try simp only [cat_l])
        (try simp [HDE.out])
      case measure => have := HLT.out; simp [intOf]; omega
    have hk1 : (xk == 1) = false := beq_eq_false_iff_ne.2 c1
    have hk2 : (xk == 2) = false := beq_eq_false_iff_ne.2 c2
    have hk3 : (xk == 3) = false := beq_eq_false_iff_ne.2 c3
    have hk4 : (xk == 4) = false := beq_eq_false_iff_ne.2 c4
    have HPR : Hid (prnI ⟨xk, xa, xe, xn, xt⟩ = []) := (if_neg (fun h => h.elim c1 c2)).trans ((if_neg c3).trans (if_neg c4))
    have hsz := HSZ.out.1
    clear c1 c2 c3 c4
    by_cases hj0 : (0 : Int) < (j : Int)
    case neg =>
      go_wp2_with (first
        | (refine ld_tk (by rfl) _ rfl b (oo + j * 5) rfl (tiC ⟨xk, xa, xe, xn, xt⟩) HR.out rfl ?_)
        | (refine st_agg rfl 25 _ _ rfl wr.heap.size (tiC ⟨xk, xa, xe, xn, xt⟩) rfl rfl 25 (tokC ⟨0, 0, 0, 0, []⟩) (heap_alloc_last _ _) tok_size rfl (by simp [Value.oneCell', tiC]) ?_; intro w8 h8 k8; have HW8 := Lib.hid (HW.out.trans (((Below.newly' _ _).trans (k8.below (Nat.le_refl _))).mono HW.out.size)); have c0 := cell_in h8 (j := 0) (v := .int .i64 xk) rfl; have c3 := cell_in h8 (j := 3) (v := .int .i64 xn) rfl; have c4 := cell_in h8 (j := 4) (v := .string xt) rfl; clear k8 h8))
      go_roundw
      case rel =>
        refine ⟨_, j + 1, by have := HLT.out; omega, by go_num, rfl, ?_, HW8.out⟩
        rw [HST.out, HPR.out]
        rw [if_pos (show j = 0 by omega)]
        (try simp only [cat_l])
        have hS0 : S.data.toList = [] := by rw [HS.out, show j = 0 by omega]; rfl
        (try simp [hS0])
      case measure => have := HLT.out; simp [intOf]; omega
    go_wp2_with (first
      | (refine ld_tk (by rfl) _ rfl b (oo + j * 5) rfl (tiC ⟨xk, xa, xe, xn, xt⟩) HR.out rfl ?_)
      | (refine st_agg rfl 25 _ _ rfl wr.heap.size (tiC ⟨xk, xa, xe, xn, xt⟩) rfl rfl 25 (tokC ⟨0, 0, 0, 0, []⟩) (heap_alloc_last _ _) tok_size rfl (by simp [Value.oneCell', tiC]) ?_; intro w8 h8 k8; have HW8 := Lib.hid (HW.out.trans (((Below.newly' _ _).trans (k8.below (Nat.le_refl _))).mono HW.out.size)); have c0 := cell_in h8 (j := 0) (v := .int .i64 xk) rfl; have c3 := cell_in h8 (j := 3) (v := .int .i64 xn) rfl; have c4 := cell_in h8 (j := 4) (v := .string xt) rfl; clear k8 h8))
    go_roundw
    case rel =>
      refine ⟨_, j + 1, by have := HLT.out; omega, by go_num, rfl, ?_, HW8.out⟩
      rw [HST.out, HPR.out]
      rw [if_neg (show ¬ j = 0 by omega)]
      (try simp only [cat_l])
      (try simp [])
    case measure => have := HLT.out; simp [intOf]; omega
end Go.Proofs.YtgdlkaoadlipmaaGreatDoor
