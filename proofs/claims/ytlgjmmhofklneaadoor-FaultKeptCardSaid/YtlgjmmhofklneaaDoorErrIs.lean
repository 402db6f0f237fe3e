/- errors.Is of an Errno: over a link, and over a chain itself. -/
import Derived.Test.YtlgjmmhofklneaaDoorErrChain
namespace Go.Proofs.YtlgjmmhofklneaaDoor
open Go.RowKit Go.Extern.Stop Go.Stop Go.Extern
set_option maxRecDepth 1000000

theorem comparable_c (w : World) : (callFunc 82 #[.agg #[.pointer (some ⟨4, 22, none⟩)]]).run Tryd.prog w = .ok (.value (.bool true)) w :=
  (@run_callFunc_extern Tryd.prog 82 _ (Extern.ReflectliteType.method fun t => do Extern.Rtype.noPackHeld "Comparable" t; pure (.bool (← typeInfo t).comparable)) Tryd.func82 (by kernel_rfl) (by kernel_rfl) (by kernel_rfl) (by kernel_rfl) _ w).trans (by kernel_rfl)
theorem comp_c : (Tryd.prog.info? 22).map (·.comparable) = some true := by kernel_rfl

/-- What errors.Is answers. -/
def IsPost (w : World) (c : Option Int) (d : Int) (e : Ending) (w' : World) : Prop := e = .returned (.bool (c == some d)) ∧ Below w.heap.size w w'

set_option maxHeartbeats 2000000 in
theorem is_link {B : Nat} (E : Value) (c : Option Int) (l : List Int) (d : Int) (w : World) (hch : Ch B w E c l) (hB : B ≤ w.heap.size) :
    Calls Tryd.prog 32 #[.iface 55 (.agg #[E]), .iface 22 (.int .i64 d), .bool true] w fun e w' => IsPost w c d e w' := by
  have g1 := fun (v : Value) (w : World) => run_eql_iface_types (P := Tryd.prog) 55 22 v (.int .i64 d) Tryd.underlying26 (by decide) w
  have f4 := is_l
  have f5 := met_Is_l
  have f6 := un_l
  have f7 := met_Unwrap_l
  have HC := Lib.hid hch
  have HB := Lib.hid hB
  clear hch hB
  go_enter Tryd.func32, Tryd.ntmps32
  go_wp2
  go_loopw [0] (fun v wl => ∃ E' l', v = .iface 55 (.agg #[E']) ∧ Ch B w E' c l' ∧ Below w.heap.size w wl) (fun v _ => lkLen B w v)
  case atStart => exact ⟨E, l, rfl, HC.out, Below.refl _ _⟩
  case round =>
    obtain ⟨E', l', rfl, hc', hb⟩ := hrel
    cases hc' with
    | code k hk =>
      by_cases hkd : k = d
      · subst hkd
        have h2 : (k == k) = true := beq_self_eq_true k
        go_wp2_with fail
        refine (lIs_c k k wr).mono ?_
        rintro e w1 ⟨rfl, rfl⟩
        go_wp2_with fail
        go_ret
        exact (⟨by rw [show ((some k : Option Int) == some k) = true from by simp], Below.more hb _⟩ : IsPost w (some k) k _ _)
      · have h2 : (k == d) = false := beq_eq_false_iff_ne.2 hkd
        go_wp2_with fail
        refine (lIs_c k d wr).mono ?_
        rintro e w1 ⟨rfl, rfl⟩
        go_wp2_with fail
        refine (lUnwrap_c k _).mono ?_
        rintro e w1 ⟨rfl, rfl⟩
        go_wp2_with fail
        go_ret
        exact (⟨by rw [show ((some k : Option Int) == some d) = (k == d) from rfl, h2], Below.more (Below.more hb _) _⟩ : IsPost w (some k) d _ _)
    | bare b n h1 h2 h3 h4 =>
      have hlt : b < w.heap.size := Nat.lt_of_lt_of_le h1 HB.out
      have h4' := cell_alloc_old ((hb.cell (p := ⟨b, 1, none⟩) hlt).trans h4) (.cells #[.iface 43 (.pointer (some ⟨b, 0, none⟩))] 55)
      have H4 := Lib.hid h4'
      clear h4' h3 h4
      go_wp2_with fail
      refine (lIs_p _ d wr).mono ?_
      rintro e w1 ⟨rfl, rfl⟩
      go_wp2_with fail
      refine (lUnwrap_p_nil b _ H4.out).mono ?_
      rintro e w1 ⟨rfl, rfl⟩
      go_wp2_with fail
      go_ret
      exact (⟨rfl, Below.more (Below.more hb _) _⟩ : IsPost w none d _ _)
    | put b n u x c l h1 h2 h3 h4 h5 =>
      have hlt : b < w.heap.size := Nat.lt_of_lt_of_le h1 HB.out
      have h4' := cell_alloc_old ((hb.cell (p := ⟨b, 1, none⟩) hlt).trans h4) (.cells #[.iface 43 (.pointer (some ⟨b, 0, none⟩))] 55)
      have H4 := Lib.hid h4'
      have H5 := Lib.hid h5
      have H6 := Lib.hid (Ch.put b n u x c l h1 h2 h3 h4 h5)
      clear h4' h3 h4 h5
      go_wp2_with fail
      refine (lIs_p _ d wr).mono ?_
      rintro e w1 ⟨rfl, rfl⟩
      go_wp2_with fail
      refine (lUnwrap_p b u x _ H4.out).mono ?_
      rintro e w1 ⟨rfl, rfl⟩
      go_wp2_with fail
      go_roundw
      case rel => exact ⟨_, l, rfl, H5.out, Below.more (Below.more hb _) _⟩
      case measure =>
        show chLen B w (.iface u x) < chLen B w (.iface 43 (.pointer (some ⟨b, 0, none⟩)))
        rw [chLen_eq H5.out, chLen_eq H6.out]
        simp

set_option maxHeartbeats 2000000 in
theorem is_chain {B : Nat} (E : Value) (c : Option Int) (l : List Int) (d : Int) (w : World) (hch : Ch B w E c l) :
    Calls Tryd.prog 32 #[E, .iface 22 (.int .i64 d), .bool true] w fun e w' => IsPost w c d e w' := by
  have g1 := fun (v : Value) (w : World) => run_eql_iface_types (P := Tryd.prog) 43 22 v (.int .i64 d) Tryd.underlying26 (by decide) w
  have g2 := fun (k : Int) (w : World) => Lib.run_eql_iface_int (P := Tryd.prog) (k := .i64) (q := .i64) w k d Tryd.underlying26 comp_c Tryd.underlying22
  have f3 := is_p
  have f4 := is_c
  have f5 := un_p
  have f6 := un_c
  have f7 := uns_c
  have f8 := met_Unwrap_p
  have HC := Lib.hid hch
  clear hch
  go_enter Tryd.func32, Tryd.ntmps32
  go_wp2
  go_loopw [0] (fun v wl => ∃ l', Ch B w v c l' ∧ wl = w) (fun v _ => chLen B w v)
  case atStart => exact ⟨l, HC.out, rfl⟩
  case round =>
    obtain ⟨l', hc', rfl⟩ := hrel
    cases hc' with
    | code k hk =>
      by_cases hkd : k = d
      · subst hkd
        have h2 : (k == k) = true := beq_self_eq_true k
        go_wp2_with fail
        go_ret
        exact (⟨by rw [show ((some k : Option Int) == some k) = true from by simp], Below.refl _ _⟩ : IsPost _ (some k) k _ _)
      · have h2 : (k == d) = false := beq_eq_false_iff_ne.2 hkd
        go_wp2_with fail
        go_ret
        exact (⟨by rw [show ((some k : Option Int) == some d) = (k == d) from rfl, h2], Below.refl _ _⟩ : IsPost _ (some k) d _ _)
    | bare b n h1 h2 h3 h4 =>
      have H4 := Lib.hid h4
      clear h3 h4
      go_wp2_with fail
      refine (fUnwrap b _ _ H4.out).mono ?_
      rintro e w1 ⟨rfl, rfl⟩
      go_wp2_with fail
      go_ret
      exact (⟨rfl, Below.refl _ _⟩ : IsPost _ none d _ _)
    | put b n u x c l h1 h2 h3 h4 h5 =>
      have H4 := Lib.hid h4
      have H5 := Lib.hid h5
      have H6 := Lib.hid (Ch.put b n u x c l h1 h2 h3 h4 h5)
      clear h3 h4 h5
      go_wp2_with fail
      refine (fUnwrap b _ _ H4.out).mono ?_
      rintro e w1 ⟨rfl, rfl⟩
      go_wp2_with fail
      go_roundw
      case rel => exact ⟨l, H5.out, trivial⟩
      case measure =>
        show chLen B _ (.iface u x) < chLen B _ (.iface 43 (.pointer (some ⟨b, 0, none⟩)))
        rw [chLen_eq H5.out, chLen_eq H6.out]
        simp

set_option maxHeartbeats 2000000 in
theorem Is_head {Q : Ending → World → Prop} (u : TypeId) (x : Value) (d : Int) (w : World)
    (h : Calls Tryd.prog 32 #[.iface u x, .iface 22 (.int .i64 d), .bool true] w fun e w' => (∃ b, e = .returned (.bool b)) ∧ Q e w') :
    Calls Tryd.prog 20 #[.iface u x, .iface 22 (.int .i64 d)] w Q := by
  have h31 := @run_callFunc_extern Tryd.prog 31 _ ReflectliteType.typeOf Tryd.func31 (by kernel_rfl) (by kernel_rfl) (by kernel_rfl) (by kernel_rfl)
  have f1 := typeOf_c
  have f2 := method_Comparable
  have f3 := comparable_c
  have H := Lib.hid h
  clear h
  go_enter Tryd.func20, Tryd.ntmps20
  go_wp2_with fail
  refine H.out.mono ?_
  rintro e w1 ⟨⟨b, rfl⟩, hq⟩
  go_wp2_with fail
  exact hq

/-- errors.Is of a link. -/
theorem Is_link {B : Nat} (E : Value) (c : Option Int) (l : List Int) (d : Int) (w : World) (hch : Ch B w E c l) (hB : B ≤ w.heap.size) :
    Calls Tryd.prog 20 #[.iface 55 (.agg #[E]), .iface 22 (.int .i64 d)] w fun e w' => IsPost w c d e w' :=
  Is_head _ _ d w ((is_link E c l d w hch hB).mono fun _ _ h => ⟨⟨_, h.1⟩, h⟩)
/-- errors.Is of a chain. -/
theorem Is_chain {B : Nat} (E : Value) (c : Option Int) (l : List Int) (d : Int) (w : World) (hch : Ch B w E c l) :
    Calls Tryd.prog 20 #[E, .iface 22 (.int .i64 d)] w fun e w' => IsPost w c d e w' := by
  obtain ⟨u, x, rfl⟩ := hch.iface
  exact Is_head u x d w ((is_chain _ c l d w hch).mono fun _ _ h => ⟨⟨_, h.1⟩, h⟩)
end Go.Proofs.YtlgjmmhofklneaaDoor
