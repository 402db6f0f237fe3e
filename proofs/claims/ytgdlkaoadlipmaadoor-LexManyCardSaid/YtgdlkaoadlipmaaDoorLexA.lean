/- Package lex: bytes, what is behind them, the tokens of a text, a number, a name, a sign. -/
import Derived.Test.YtgdlkaoadlipmaaDoorSg
import Derived.Test.YtgdlkaoadlipmaaDoorLaw13A
namespace Go.Proofs.YtgdlkaoadlipmaaDoor
open Go.RowKit
set_option maxRecDepth 1000000
set_option linter.unusedSimpArgs false

/-! codes -/
theorem unq_code : ∀ (n : Nat) (l : List UInt8) (k : Nat) (o : List UInt8), l.length ≤ n → (unqS l k o).2.2 = 0 ∨ (unqS l k o).2.2 = 2 ∨ (unqS l k o).2.2 = 10
  | 0, l, k, o, h => by
    obtain rfl : l = [] := List.eq_nil_of_length_eq_zero (by omega)
    rw [unq_end]; simp
  | n + 1, l, k, o, h => by
    rw [unqS.eq_def]
    split
    · simp
    · rename_i c r
      simp only [List.length_cons] at h ⊢
      split
      · simp
      · split
        · simp
        · split
          · exact unq_code n r (k + 1) (o ++ [c]) (by omega)
          · split
            · simp
            · rename_i d r
              simp only [List.length_cons] at h ⊢
              split
              · split
                · simp
                · rename_i x _
                  exact unq_code n r (k + 2) (o ++ [x]) (by omega)
              · split
                · simp
                · rename_i h1 r
                  simp only [List.length_cons] at h ⊢
                  split
                  · simp
                  · split
                    · simp
                    · rename_i h2 r
                      simp only [List.length_cons] at h ⊢
                      split
                      · simp
                      · exact unq_code n r (k + 4) _ (by omega)
theorem unquote_code (l : List UInt8) : (unquoteS l).2.2 = 0 ∨ (unquoteS l).2.2 = 2 ∨ (unquoteS l).2.2 = 10 := by
  unfold unquoteS
  split
  · simp
  · split
    · simp
    · exact unq_code _ _ 1 [] (Nat.le_refl _)
theorem parse_code (l : List UInt8) : (parseS l).2 = 0 ∨ (parseS l).2 = 2 ∨ (parseS l).2 = 4 := by
  have hs : ∀ r b, (signedS r b).2 = 0 ∨ (signedS r b).2 = 2 ∨ (signedS r b).2 = 4 := fun r b => by
    unfold signedS chk
    repeat' split
    all_goals simp
  unfold parseS
  repeat' split
  all_goals first
    | exact hs _ _
    | simp

/-! what a text, a name, a sign come to -/
def txtT (l : List UInt8) (b : Nat) : Tok × Nat × Int :=
  if (unquoteS (l.drop b)).2.2 = 0 then (⟨4, b, b + (unquoteS (l.drop b)).2.1, 0, (unquoteS (l.drop b)).1⟩, 0, 0) else (⟨0, 0, 0, 0, []⟩, b + (unquoteS (l.drop b)).2.1, (unquoteS (l.drop b)).2.2)
def sgnT (l : List UInt8) (b : Nat) : Tok × Nat × Int :=
  match signsS.find? fun x => x.isPrefixOf (l.drop b) with
    | some x => (⟨1, b, b + x.length, 0, x⟩, 0, 0)
    | none => (⟨0, 0, 0, 0, []⟩, b, 2)
theorem errV_ok (w : World) (n : Int) : ErrV w .nilIface 0 n := .inl ⟨rfl, rfl⟩

theorem lx_BlankQ (c : UInt8) (w : World) : Calls Tryd.prog 16 #[.int .u8 (c.toNat : Int)] w fun e w' => e = .returned (.bool (blkS c)) ∧ w = w' := by
  go_enter Tryd.func16, Tryd.ntmps16
  go_wp2
  all_goals
    go_ret
    refine ⟨ret_b13 ?_, rfl⟩
    unfold blkS
    simp only [beq_iff_eq, beq_eq_false_iff_ne, ne_eq] at *
    first
      | (rw [eq_comm, decide_eq_true_eq]; omega)
      | (rw [eq_comm, decide_eq_false_iff_not]; omega)
theorem lx_Blank (c : UInt8) (w : World) : Calls Tryd.prog 16 #[.int .u8 (c.toNat : Int)] w fun e w' => e = .returned (.bool (blkS c)) ∧ Below w.heap.size w w' := (lx_BlankQ c w).mono fun _ _ h => ⟨h.1, by rw [h.2]; exact Below.refl _ _⟩
theorem lx_isDigit (c : UInt8) (w : World) : Calls Tryd.prog 21 #[.int .u8 (c.toNat : Int)] w fun e w' => e = .returned (.bool (digS c)) ∧ w = w' := by
  go_enter Tryd.func21, Tryd.ntmps21
  go_wp2
  all_goals
    go_ret
    refine ⟨ret_b13 ?_, rfl⟩
    unfold digS
    first
      | (rw [eq_comm, decide_eq_true_eq]; omega)
      | (rw [eq_comm, decide_eq_false_iff_not]; omega)
      | (rw [decide_eq_decide]; omega)
theorem lx_beginsName (c : UInt8) (w : World) : Calls Tryd.prog 23 #[.int .u8 (c.toNat : Int)] w fun e w' => e = .returned (.bool (letS c)) ∧ w = w' := by
  go_enter Tryd.func23, Tryd.ntmps23
  go_wp2
  all_goals
    go_ret
    refine ⟨ret_b13 ?_, rfl⟩
    unfold letS
    first
      | (rw [eq_comm, decide_eq_true_eq]; omega)
      | (rw [eq_comm, decide_eq_false_iff_not]; omega)
      | (rw [decide_eq_decide]; omega)
      | (rw [Bool.eq_iff_iff]; simp only [Bool.or_eq_true, beq_iff_eq, decide_eq_true_eq]; omega)
theorem lx_inName (c : UInt8) (w : World) : Calls Tryd.prog 25 #[.int .u8 (c.toNat : Int)] w fun e w' => e = .returned (.bool (nbS c)) ∧ w = w' := by
  have HL := Lib.hid (fun W => lx_beginsName c W)
  have HD := Lib.hid (fun W => lx_isDigit c W)
  have HN : Hid (nbS c = (letS c || digS c)) := rfl
  generalize letS c = a at *
  generalize digS c = b at *
  cases a <;> cases b
  all_goals
    go_enter Tryd.func25, Tryd.ntmps25
    go_wp2_with (first
      | (go_at_call 23; refine (HL.out _).mono ?_; rintro r V ⟨rfl, rfl⟩)
      | (go_at_call 21; refine (HD.out _).mono ?_; rintro r V ⟨rfl, rfl⟩))
    go_ret
    exact ⟨ret_b13 (by rw [HN.out]; rfl), rfl⟩
/-- Where the first byte that is not so stands. -/
theorem lx_behind (f : Nat) (p : UInt8 → Bool) (hent : ∀ args w, (callFunc f args).run Tryd.prog w = .ok (.enter f args) w)
    (hf : ∀ (c : UInt8) (W : World), Calls Tryd.prog f #[.int .u8 (c.toNat : Int)] W fun e w' => e = .returned (.bool (p c)) ∧ W = w')
    (s : ByteArray) (a : Nat) (w : World) (ha : a ≤ s.size) (hs : s.size ≤ 2000000) :
    Calls Tryd.prog 19 #[.string s, .int .i64 (a : Int), .func (.func f) #[] #[]] w fun e w' => (∃ k : Nat, a ≤ k ∧ k ≤ s.size ∧ e = .returned (.int .i64 (k : Int)) ∧ (∀ j (h : j < s.size), a ≤ j → j < k → p s[j] = true) ∧ (k = s.size ∨ ∃ h : k < s.size, p s[k] = false)) ∧ w = w' := by
  have HF := Lib.hid hf
  have hs' : (s.size : Int) ≤ 2000000 := by omega
  clear hf
  go_enter Tryd.func19, Tryd.ntmps19
  go_wp2_with fail
  go_loopw [1] (fun i wr => ∃ k : Nat, a ≤ k ∧ k ≤ s.size ∧ i = .int .i64 (k : Int) ∧ (∀ j (h : j < s.size), a ≤ j → j < k → p s[j] = true) ∧ wr = w) (fun i _ => s.size - (intOf i).toNat)
  case atStart => exact ⟨a, Nat.le_refl _, ha, rfl, fun j _ h1 h2 => absurd h1 (by omega), rfl⟩
  case round =>
    obtain ⟨k, hk0, hk1, rfl, hd, rfl⟩ := hrel
    have HD := Lib.hid hd
    clear hd
    by_cases hlt : k < s.size
    · have hlt' : (k : Int) < s.size := by omega
      obtain ⟨b, hb⟩ : ∃ b, p s[k] = b := ⟨_, rfl⟩
      have HFK := HF.out s[k]
      rw [hb] at HFK
      have HFC := Lib.hid HFK
      have HB := Lib.hid hb
      clear HFK hb
      cases b with
      | true =>
        go_wp2_with fail
        refine (HFC.out _).mono ?_
        rintro r V ⟨rfl, rfl⟩
        go_wp2_with fail
        go_roundw
        case rel => exact ⟨k + 1, by omega, by omega, by go_num, fun j h1 h2 h3 => (by
          rcases Nat.lt_or_ge j k with h4 | h4
          · exact HD.out j h1 h2 h4
          · obtain rfl : j = k := by omega
            exact HB.out), trivial⟩
        case measure => simp [intOf]; omega
      | false =>
        go_wp2_with fail
        refine (HFC.out _).mono ?_
        rintro r V ⟨rfl, rfl⟩
        go_wp2_with fail
        go_ret
        exact ⟨⟨k, hk0, hk1, rfl, HD.out, .inr ⟨hlt, HB.out⟩⟩, rfl⟩
    · obtain rfl : k = s.size := by omega
      go_wp2_with fail
      go_ret
      exact ⟨⟨s.size, hk0, hk1, rfl, HD.out, .inl rfl⟩, rfl⟩
end Go.Proofs.YtgdlkaoadlipmaaDoor
