/- The document's answer for lex: all tokens of a text. (written by tools/gen13/ref13a.py) -/
import Derived.Test.YtgdlkaoadlipmaaDoorRef13N
namespace Go.Proofs.YtgdlkaoadlipmaaDoor
open Go.RowKit
set_option maxRecDepth 1000000
set_option linter.unusedSimpArgs false

/-- What was read till here and what comes of the rest. -/
def preT (ts : List Tok) (r : List Tok × Nat × Int) : List Tok × Nat × Int := (if r.2.2 = 0 then ts ++ r.1 else [], r.2)
theorem preT_step (l : List UInt8) (ts : List Tok) (p : Nat) (hp : p ≤ l.length) : preT ts (lexS l (l.length + 1) p) =
    if (nextS l p).2.2 ≠ 0 then ([], (nextS l p).2) else if (nextS l p).1.k = 0 then (ts, 0, 0) else preT (ts ++ [(nextS l p).1]) (lexS l (l.length + 1) (nextS l p).1.e) := by
  rw [lexS_step l p hp]
  unfold preT
  by_cases h1 : (nextS l p).2.2 = 0
  · by_cases h2 : (nextS l p).1.k = 0
    · simp [h1, h2]
    · by_cases h3 : (lexS l (l.length + 1) (nextS l p).1.e).2.2 = 0
      · simp [h1, h2, h3]
      · simp [h1, h2, h3]
  · simp [h1]
theorem preT_nil (r : List Tok × Nat × Int) (h : r.2.2 ≠ 0 → r.1 = []) : preT [] r = r := by
  obtain ⟨a, b, c⟩ := r
  unfold preT
  by_cases h0 : c = 0
  · simp [h0]
  · simpa [h0] using (h h0).symm
theorem lex_bad0 (l : List UInt8) : ∀ (f p : Nat), (lexS l f p).2.2 ≠ 0 → (lexS l f p).1 = []
  | 0, _, h => rfl
  | f + 1, p, h => by
    unfold lexS at h ⊢
    dsimp only at h ⊢
    by_cases h1 : (nextS l p).2.2 = 0
    · by_cases h2 : (nextS l p).1.k = 0
      · simp [h1, h2]
      · by_cases h3 : (lexS l f (nextS l p).1.e).2.2 = 0
        · simp [h1, h2, h3] at h
        · simp [h1, h2, h3]
    · simp [h1]
theorem all_pre (l : List UInt8) : allS l = preT [] (lexS l (l.length + 1) 0) := (preT_nil _ fun h => ((lex_bad0 l _ 0 h))).symm
theorem rows_nil13 {B : Nat} {e : TypeId} {w : World} (h : B ≤ w.heap.size) : RowsOwn B e 5 (.slice none 0 0) ((([] : List Tok)).map tokC) w := ⟨⟨rfl, .inl ⟨rfl, rfl⟩⟩, h, fun c hc => by cases hc⟩
theorem rows_new13 (w : World) (T : TypeId) : RowsOwn w.heap.size T 5 (.slice (some ⟨w.heap.size, 0, none⟩) 0 0) ((([] : List Tok)).map tokC) (w.alloc (.cells #[] T)) :=
  ⟨⟨rfl, .inr ⟨w.heap.size, 0, #[], (0, 0), rfl, Nat.le_refl _, heap_alloc_last _ _, Nat.le_refl _, Nat.le_refl _, by decide, rfl, rfl⟩⟩, (Below.newly' w _).size, fun c hc => by cases hc⟩
theorem rows_lt13 {B : Nat} {e : TypeId} {s : Nat} {v : Value} {cs : List (Array Value)} {w : World} (h : RowsOwn B e s v cs w) : ∀ X, v.ownBlock = some X → X < w.heap.size := fun X e => by
  obtain ⟨_, _, h1⟩ := h.typed' X e
  exact (Array.getElem?_eq_some_iff.1 h1).1
theorem tokC_one (t : Tok) : (tokC t).all (·.oneCell') = true := by simp [tokC, Value.oneCell']

set_option maxHeartbeats 2000000 in
theorem rf_All (s : ByteArray) (w : World) (hs : s.size ≤ 10000) : Calls Tryd.prog 13 #[.string s] w fun e w' => ∃ v, e = .returned (.tuple #[v, .int .i64 ((allS s.data.toList).2.1 : Int), .int .i64 (allS s.data.toList).2.2]) ∧ RowsOwn w.heap.size 24 5 v ((allS s.data.toList).1.map tokC) w' ∧ Below w.heap.size w w' := by
  have hll : s.data.toList.length = s.size := len_bytes s
  obtain ⟨L, hL⟩ : ∃ L, L = s.data.toList := ⟨_, rfl⟩
  rw [← hL] at hll ⊢
  have hn := fun p W hp => rf_Next s p W hp hs
  rw [← hL] at hn
  obtain ⟨G, hG⟩ : ∃ G, G = allS L := ⟨_, rfl⟩
  have hg0 := hG.trans (all_pre L)
  rw [← hG]
  clear hG hL
  obtain ⟨g1, g2, g3⟩ := G
  dsimp only
  have HN := Lib.hid hn
  have HLL := Lib.hid hll
  have HG0 := Lib.hid hg0
  have hs' : (s.size : Int) ≤ 10000 := by omega
  clear hn hll hg0
  go_enter Tryd.func13, Tryd.ntmps13
  go_wp2_with fail
  go_loopw [5, 6] (fun v i W => ∃ (ts : List Tok) (p : Nat), p ≤ L.length ∧ i = .int .i64 (p : Int) ∧ RowsOwn w.heap.size 24 5 v (ts.map tokC) W ∧ (g1, g2, g3) = preT ts (lexS L (L.length + 1) p) ∧ ts.length ≤ p ∧ Below w.heap.size w W) (fun _ i _ => L.length - (intOf i).toNat)
  case atStart => exact ⟨[], 0, Nat.zero_le _, rfl, rows_new13 w _, HG0.out, Nat.le_refl _, Below.newly' _ _⟩
  case round =>
    obtain ⟨ts, p, hp, rfl, hro, hg, hts, hw⟩ := hrel
    have HR := Lib.hid hro
    have HW := Lib.hid hw
    have hst := preT_step L ts p hp
    have hk := next_k L p hp
    have hnx := fun W => HN.out p W (by have := HLL.out; omega)
    obtain ⟨q, hq⟩ : ∃ q, q = nextS L p := ⟨_, rfl⟩
    rw [← hq] at hst hk hnx
    obtain ⟨⟨tk, ta, te, tn, tt⟩, qn, qe⟩ := q
    dsimp only at hst hk
    have HNX : Hid (∀ W, Calls Tryd.prog 10 #[.string s, .int .i64 (p : Int)] W fun e w' => e = .returned (.tuple #[.agg (tokC ⟨tk, ta, te, tn, tt⟩), .int .i64 (qn : Int), .int .i64 qe]) ∧ Below W.heap.size W w') := hnx
    have HST := Lib.hid (hg.trans hst)
    have HK := Lib.hid hk
    have HP := Lib.hid (And.intro hp hts)
    clear hro hw hst hk hnx hq hg hts hp HN
    by_cases c1 : qe = 0
    case neg =>
      have hen : (qe == 0) = false := beq_eq_false_iff_ne.2 c1
      have HE : Hid ((g1, g2, g3) = ([], qn, qe)) := HST.out.trans (if_pos c1)
      clear c1 HST HK
      go_wp2_with (first
        | (go_at_call 10; refine (HNX.out _).mono ?_; rintro r V ⟨rfl, hb⟩; have HR1 := Lib.hid (HR.out.later hb); have HW1 := Lib.hid (HW.out.trans (hb.mono HW.out.size)); clear hb)
        | (refine st_agg rfl 24 _ _ rfl V.heap.size (tokC ⟨tk, ta, te, tn, tt⟩) rfl rfl 24 (tokC ⟨0, 0, 0, 0, []⟩) (heap_alloc_last _ _) tok_size rfl (by simp [Value.oneCell', tokC]) ?_; intro w8 h8 k8; have hb8 : Below V.heap.size V w8 := (Below.newly' _ _).trans (k8.below (Nat.le_refl _)); have HR2 := Lib.hid (HR1.out.later hb8); have HW2 := Lib.hid (HW1.out.trans (hb8.mono HW1.out.size)); have H8 := Lib.hid h8; have c0 := cell_in h8 (j := 0) (v := .int .i64 tk) rfl; have c2 := cell_in h8 (j := 2) (v := .int .i64 (te : Int)) rfl; clear hb8 k8 h8))
      go_ret3
      have he := HE.out
      simp only [Prod.mk.injEq] at he
      obtain ⟨rfl, rfl, rfl⟩ := he
      exact ⟨_, rfl, rows_nil13 HW2.out.size, HW2.out⟩
    subst c1
    obtain ⟨k1, k2, k3, -, k5, k6⟩ := HK.out rfl
    by_cases c2 : tk = 0
    case pos =>
      have htk : (tk == 0) = true := beq_iff_eq.2 c2
      have HE : Hid ((g1, g2, g3) = (ts, 0, 0)) := HST.out.trans ((if_neg (fun h => h rfl)).trans (if_pos c2))
      clear HST HK k1 k2 k3 k5 k6 c2
      go_wp2_with (first
        | (go_at_call 10; refine (HNX.out _).mono ?_; rintro r V ⟨rfl, hb⟩; have HR1 := Lib.hid (HR.out.later hb); have HW1 := Lib.hid (HW.out.trans (hb.mono HW.out.size)); clear hb)
        | (refine st_agg rfl 24 _ _ rfl V.heap.size (tokC ⟨tk, ta, te, tn, tt⟩) rfl rfl 24 (tokC ⟨0, 0, 0, 0, []⟩) (heap_alloc_last _ _) tok_size rfl (by simp [Value.oneCell', tokC]) ?_; intro w8 h8 k8; have hb8 : Below V.heap.size V w8 := (Below.newly' _ _).trans (k8.below (Nat.le_refl _)); have HR2 := Lib.hid (HR1.out.later hb8); have HW2 := Lib.hid (HW1.out.trans (hb8.mono HW1.out.size)); have H8 := Lib.hid h8; have c0 := cell_in h8 (j := 0) (v := .int .i64 tk) rfl; have c2 := cell_in h8 (j := 2) (v := .int .i64 (te : Int)) rfl; clear hb8 k8 h8))
      go_ret3
      have he := HE.out
      simp only [Prod.mk.injEq] at he
      obtain ⟨rfl, rfl, rfl⟩ := he
      exact ⟨_, rfl, HR2.out, HW2.out⟩
    have htk : (tk == 0) = false := beq_eq_false_iff_ne.2 c2
    have HE : Hid ((g1, g2, g3) = preT (ts ++ [⟨tk, ta, te, tn, tt⟩]) (lexS L (L.length + 1) te)) := HST.out.trans ((if_neg (fun h => h rfl)).trans (if_neg c2))
    have HLEN : Hid ((ts.map tokC).length ≤ 100000) := by
      show _ ≤ _
      rw [List.length_map]
      have h1 := HP.out; have h2 := HLL.out; omega
    have HKE : Hid (p < te ∧ te ≤ L.length) := ⟨by have := k6 c2; omega, k3⟩
    clear HST HK k1 k2 k3 k5 k6 c2
    go_wp2_with (first
      | (go_at_call 10; refine (HNX.out _).mono ?_; rintro r V ⟨rfl, hb⟩; have HR1 := Lib.hid (HR.out.later hb); have HW1 := Lib.hid (HW.out.trans (hb.mono HW.out.size)); clear hb)
      | (refine st_agg rfl 24 _ _ rfl V.heap.size (tokC ⟨tk, ta, te, tn, tt⟩) rfl rfl 24 (tokC ⟨0, 0, 0, 0, []⟩) (heap_alloc_last _ _) tok_size rfl (by simp [Value.oneCell', tokC]) ?_; intro w8 h8 k8; have hb8 : Below V.heap.size V w8 := (Below.newly' _ _).trans (k8.below (Nat.le_refl _)); have HR2 := Lib.hid (HR1.out.later hb8); have HW2 := Lib.hid (HW1.out.trans (hb8.mono HW1.out.size)); have H8 := Lib.hid h8; have c0 := cell_in h8 (j := 0) (v := .int .i64 tk) rfl; have c2 := cell_in h8 (j := 2) (v := .int .i64 (te : Int)) rfl; clear hb8 k8 h8)
      | (refine ld_if rfl 24 _ rfl V.heap.size rfl 24 _ _ _ H8.out Tryd.underlying24 rfl tok_size ?_)
      | (refine bs_list rfl 34 24 _ rfl (tokC ⟨tk, ta, te, tn, tt⟩) 5 (.agg (tokC ⟨0, 0, 0, 0, []⟩)) rfl rfl (by decide) (by decide) Tryd.underlying34 rfl ?_; intro w6 h6 hb6 hs6; have HR6 := Lib.hid (HR2.out.later hb6); have HW6 := Lib.hid (HW2.out.trans (hb6.mono HW2.out.size)); have HG6 := Lib.hid h6; have H86 := Lib.hid ((hb6.block _ (Array.getElem?_eq_some_iff.1 H8.out).1).trans H8.out); clear h6 hb6 hs6)
      | (refine rows_list rfl (z := .agg (tokC ⟨0, 0, 0, 0, []⟩)) (by_ := 48) 34 24 _ _ rfl rfl HR6.out _ rfl HG6.out rfl (tokC_one _) Tryd.underlying34 rfl rfl (by decide) HLEN.out (by decide) ?_; intro v7 w7 hr7 hg7; have HW7 := Lib.hid (HW6.out.trans (HR6.out.below hg7 (Nat.le_refl _) HW6.out.size)); have HR7 := Lib.hid hr7; have c27 := cell_in ((hg7.block V.heap.size (Array.getElem?_eq_some_iff.1 H86.out).1 (fun e => Nat.lt_irrefl _ (rows_lt13 HR1.out _ e.symm))).trans H86.out) (j := 2) (v := .int .i64 (te : Int)) rfl; clear hr7 hg7))
    go_roundw
    case rel =>
      refine ⟨ts ++ [⟨tk, ta, te, tn, tt⟩], te, HKE.out.2, rfl, ?_, HE.out, by rw [List.length_append]; have h1 := HP.out; have h2 := HKE.out; simp only [List.length_cons, List.length_nil]; omega, HW7.out⟩
      rw [List.map_append]; exact HR7.out
    case measure => have h1 := HKE.out; simp [intOf]; omega
end Go.Proofs.YtgdlkaoadlipmaaDoor
