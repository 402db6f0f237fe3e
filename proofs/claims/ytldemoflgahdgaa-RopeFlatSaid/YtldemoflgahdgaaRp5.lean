/- Package rope: top. -/
import Derived.Test.YtldemoflgahdgaaRp4
namespace Go.Proofs.Ytldemoflgahdgaa
open Go.RowKit
set_option maxRecDepth 1000000
set_option linter.unusedSimpArgs false

/-- May these nodes be roots' kids, or one of them a root? -/
def Wide (h : Nat) (ks : List Kid) : Prop := ∀ p ∈ ks, (2 ≤ ks.length → 8 ≤ p.k) ∧ (ks.length = 1 → h = 0 ∨ 2 ≤ p.k)
theorem Fit.wide {h N : Nat} {ks : List Kid} (hf : Fit N ks) (hN : h = 0 ∨ 2 ≤ N) : Wide h ks := fun p hp => ⟨(hf.2 p hp).1, fun h1 => by rw [(hf.2 p hp).2 h1]; exact hN⟩
def lenV : Value → Nat
  | .slice _ n _ => n
  | _ => 0
theorem nodes_new {w w1 : World} {c : Array Value} {T : TypeId} (e : w.alloc (.cells c T) = w1) : Below w.heap.size w w1 ∧ w1.heap[w.heap.size]? = some (.cells c T (0, 0)) ∧ w1.heap.size = w.heap.size + 1 := by
  subst e
  exact ⟨Below.newly' _ _, heap_alloc_last _ _, by simp⟩
theorem nodes_first {W : World} {S : Nat → Prop} {h : Nat} {v : Value} {p : Kid} {ks : List Kid} (hn : NodesR S W h v (p :: ks)) : ∃ g o c, v = .slice (some ⟨g, o, none⟩) (ks.length + 1) c ∧ W.rangeAt g o (kidc h p) := by
  obtain ⟨g, o, c, rfl, _, _, _, hc⟩ := hn.1.pos (by simp)
  refine ⟨g, o, c, rfl, fun i v hv => hc i v ?_⟩
  have hi : i < 4 := by have := (List.getElem?_eq_some_iff.1 hv).1; exact this
  have := en_at (kidc_len h) (p :: ks) 0 i p rfl hi
  rw [Nat.zero_mul, Nat.zero_add] at this
  rw [this]; exact hv
set_option maxHeartbeats 4000000 in
theorem rp_top (w : World) {S : Nat → Prop} (h : Nat) (v : Value) (ks : List Kid) (hn : NodesR S w h v ks) (hw : Wide h ks) (hN : (catK ks).length ≤ 100000) :
    Calls Try.prog 30 #[v] w fun e w' => ∃ c, e = .returned (.agg c) ∧ RootR (fun g => S g ∨ w.heap.size ≤ g) w' c (catK ks) ∧ Below w.heap.size w w' := by
  obtain ⟨w1, hw1⟩ : ∃ w1, w.alloc (.cells #[.int .i64 0, .int .i64 0, .slice none 0 0, .slice none 0 0] 33) = w1 := ⟨_, rfl⟩
  obtain ⟨hb1, hx1, hs1⟩ := nodes_new hw1
  have HX1 := Lib.hid hx1
  have HB1 := Lib.hid hb1
  have HS1 := Lib.hid hs1
  have HNR := Lib.hid (hn.old.later hb1)
  have HW := Lib.hid hw
  have HN := Lib.hid hN
  obtain ⟨a, cap, rfl, _⟩ := hn.1.shape
  have hlen : ks.length ≤ 100000 := by
    have := cat_lower (c := 1) ks fun q hq => (hn.2 q hq).len0
    omega
  rcases Nat.eq_zero_or_pos ks.length with h0 | h0
  · obtain rfl := List.eq_nil_of_length_eq_zero h0
    clear hn hw hN hx1 hb1 hs1 hlen h0
    go_enter Try.func30, Try.ntmps30
    go_upto_region 1 with fail
    clear hw1
    go_wp2_with (refine st_agg rfl 33 _ _ rfl w.heap.size zeroR rfl rfl 33 _ HX1.out rnode_size rfl (by simp [zeroR, Value.oneCell']) ?_; intro w5 h5 k5)
    exact bodyPost_ret (results_cell_row rfl _ _ w.heap.size 33 _ (0, 0) _ rfl h5 Try.underlying33 rfl rnode_size) rfl ⟨_, rfl, .inl ⟨rfl, rfl⟩, HB1.out.trans (k5.below (Nat.le_refl _))⟩
  · have h0' : ((ks.length : Int) == 0) = false := beq_eq_false_iff_ne.2 (by omega)
    have h0i : ¬ ((ks.length : Int) = 0) := by omega
    have H0 := Lib.hid h0
    have hl5 : (ks.length : Int) ≤ 100000 := by omega
    clear hn hw hN hx1 hb1 hs1 hlen h0
    go_enter Try.func30, Try.ntmps30
    go_upto_region 1 with fail
    clear hw1
    go_wp2_with fail
    go_loopw [0] (fun v wr => ∃ (h' : Nat) (ks' : List Kid) (a : Option Addr) (cap : Nat), v = .slice a ks'.length cap ∧ Hid (1 ≤ ks'.length ∧ ks'.length ≤ 100000) ∧ Hid (NodesR (fun g => (S g ∧ g < w.heap.size) ∨ w1.heap.size ≤ g) wr h' (.slice a ks'.length cap) ks' ∧ Wide h' ks' ∧ catK ks' = catK ks) ∧ Hid (Below w1.heap.size w1 wr)) (fun v _ => lenV v)
    case atStart => exact ⟨h, ks, a, cap, rfl, (by have := H0.out; exact ⟨by omega, by omega⟩), ⟨HNR.out.weak fun g hg => .inl hg, HW.out, rfl⟩, Below.refl _ _⟩
    case round =>
      clear HNR HW H0 h0' h0i hl5
      obtain ⟨h', ks', a', cap', rfl, HL, HK, HB⟩ := hrel
      by_cases h1 : 1 < ks'.length
      · have h1' : (ks'.length : Int) > 1 := by omega
        have HIN : Hid (Calls Try.prog 45 #[.slice (some ⟨wr.heap.size, 0, none⟩) 1 1] (wr.alloc (.cells #[.slice a' ks'.length cap'] 30)) fun e w' => ∃ v, e = .returned v ∧ ∃ kn, NodesR (fun g => ((S g ∧ g < w.heap.size) ∨ w1.heap.size ≤ g) ∨ (wr.alloc (.cells #[.slice a' ks'.length cap'] 30)).heap.size ≤ g) w' (h' + 1) v kn ∧ catK kn = catK ks' ∧ Fit ks'.length kn ∧ Below (wr.alloc (.cells #[.slice a' ks'.length cap'] 30)).heap.size (wr.alloc (.cells #[.slice a' ks'.length cap'] 30)) w') :=
          rp_inners _ h' wr.heap.size [(.slice a' ks'.length cap', ks')] (fun k hk => by obtain rfl : k = 0 := by simpa using hk
                                                                                         exact cell_in (heap_alloc_last wr _) rfl)
            (fun p hp => by rw [List.mem_singleton] at hp; subst hp; exact HK.out.1.1.later (Below.newly' _ _)) ks' (by simp [catE]) (fun q hq => ⟨(HK.out.2.1 q hq).1 h1, (HK.out.1.2 q hq).later (Below.newly' _ _)⟩) (by rw [HK.out.2.2]; exact HN.out) (by simp)
        have hl5 : (ks'.length : Int) ≤ 100000 := by have := HL.out; omega
        have H1 := Lib.hid h1
        clear h1
        go_wp2_with (go_at_call 45; refine HIN.out.mono ?_; rintro e w3 ⟨v3, rfl, kn, hn3, hc3, hf3, hb3⟩; obtain ⟨a3, cap3, rfl, _⟩ := hn3.1.shape; have HN3 := Lib.hid hn3; have HC3 := Lib.hid hc3; have HF3 := Lib.hid hf3; have HB3 := Lib.hid hb3; clear hn3 hc3 hf3 hb3)
        go_roundw
        case rel =>
          have hb := HB.out.size
          have hb4 : Below wr.heap.size wr w3 := (Below.newly' wr _).trans (HB3.out.mono (by simp))
          have hf := HF3.out.1
          have h1 := H1.out
          have hl := HL.out
          refine ⟨h' + 1, kn, a3, cap3, rfl, ⟨by rw [hf]; unfold cntN; omega, by rw [hf]; unfold cntN; omega⟩, ⟨HN3.out.weak fun g hg => ?_, HF3.out.wide (.inr (by omega)), HC3.out.trans HK.out.2.2⟩, HB.out.trans (hb4.mono hb)⟩
          rcases hg with hg | hg
          · exact hg
          · simp at hg; exact .inr (by omega)
        case measure =>
          have h1 := H1.out
          simp only [lenV]
          rw [HF3.out.1]
          unfold cntN
          omega
      · have h1' : ¬ ((ks'.length : Int) > 1) := by omega
        have hl := HL.out
        obtain ⟨p, hp⟩ : ∃ p, ks' = [p] := by
          match ks', hl, h1 with
          | [p], _, _ => exact ⟨p, rfl⟩
          | [], hl, _ => simp at hl
          | _ :: _ :: _, _, h1 => simp at h1
        subst hp
        obtain ⟨g, o, c, e, hr⟩ := nodes_first HK.out.1
        simp only [List.length_nil, Nat.zero_add, Value.slice.injEq, List.length_singleton, true_and] at e
        obtain ⟨rfl, rfl⟩ := e
        have HR := Lib.hid hr
        have HX := Lib.hid ((HB.out.block _ (by have := HS1.out; omega)).trans HX1.out)
        have HONE : Hid ((kidc h' p).toArray.all (·.oneCell') = true) := by
          show _ = _
          rw [Array.all_eq_true_iff_forall_mem]
          intro u hu
          exact kidc_one h' p u (by simpa using hu)
        clear hr hl h1
        simp only [List.length_singleton] at *
        go_wp2_with (first
          | (refine wpList_load_mid rfl 33 _ rfl g o rfl (kidc h' p) _ HR.out Try.underlying33 rfl rnode_size ?_)
          | (refine st_agg rfl 33 _ _ rfl w.heap.size (kidc h' p).toArray rfl rfl 33 _ HX.out rnode_size rfl HONE.out ?_; intro w5 h5 k5))
        have hk := HK.out
        have hs1 := HS1.out
        refine bodyPost_ret (results_cell_row rfl _ _ w.heap.size 33 _ (0, 0) _ rfl h5 Try.underlying33 rfl rnode_size) rfl ⟨_, rfl, .inr ⟨h', p, rfl, by rw [← hk.2.2, catK_one], ?_, (hk.2.1 p (List.mem_singleton.2 rfl)).2 rfl⟩, (HB1.out.trans (HB.out.mono (by omega))).trans (k5.below (Nat.le_refl _))⟩
        refine ((hk.1.2 p (List.mem_singleton.2 rfl)).kept k5.by_ (fun X e => by cases e; rintro (h | h) <;> omega)).weak fun g hg => ?_
        rcases hg with hg | hg
        · exact .inl hg.1
        · exact .inr (by omega)
end Go.Proofs.Ytldemoflgahdgaa
