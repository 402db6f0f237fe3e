/- Layer 8's laws: ropes and their lists; lists of what is done; few. -/
import Derived.Test.YtldemoflgahdgaaRef08B
import Derived.Test.YtldemoflgahdgaaRef07B
import Derived.Test.YtldemoflgahdgaaRp19
namespace Go.Proofs.Ytldemoflgahdgaa
open Go.RowKit
set_option maxRecDepth 1000000
set_option linter.unusedSimpArgs false

/-- A rope of this list. -/
def RL (w : World) (c : Array Value) (l : List Int) : Prop := RootR (fun _ => True) w c l
theorem RL.later {w w' : World} {c : Array Value} {l : List Int} (h : RL w c l) (hb : Below w.heap.size w w') : RL w' c l := RootR.later h hb
theorem RL.but {w w' : World} {X : Nat} {c cs : Array Value} {l : List Int} {T : TypeId} {fr : Nat × Nat} (h : RL w c l) (k : Only X w w') (hX : w.heap[X]? = some (.cells cs T fr)) (h1 : T ≠ 3) (h2 : T ≠ 33) : RL w' c l := RootR.but h k hX h1 h2
theorem RL.size {w : World} {c : Array Value} {l : List Int} (h : RL w c l) : c.size = 4 := RootR.size h
theorem RL.one {w : World} {c : Array Value} {l : List Int} (h : RL w c l) : c.all (·.oneCell') = true := RootR.one h
theorem RL.zero (w : World) : RL w zeroR [] := .inl ⟨rfl, rfl⟩
theorem RootR.rl {S : Nat → Prop} {w : World} {c : Array Value} {l : List Int} (h : RootR S w c l) : RL w c l := RootR.weak h fun _ _ => trivial

/-- What is done: Do, I, J, X, K, N. -/
abbrev Op8 := Int × Int × Int × Int × Int × Int
abbrev op8C (o : Op8) : Array Value := #[.int .i64 o.1, .int .i64 o.2.1, .int .i64 o.2.2.1, .int .i64 o.2.2.2.1, .int .i64 o.2.2.2.2.1, .int .i64 o.2.2.2.2.2]
def Op8In (W : World) (b o : Nat) (x : Op8) : Prop := W.rangeAt b o (op8C x).toList
theorem Op8In.later {W W' : World} {b o : Nat} {x : Op8} (h : Op8In W b o x) (hb : Below W.heap.size W W') : Op8In W' b o x :=
  fun j v hv => (hb.cell (World.block_lt_of_cell? W _ (h j v hv))).trans (h j v hv)
/-- v is a list that reads as these. -/
def Ops8 (w : World) (v : Value) (l : List Op8) : Prop :=
  ∃ (a : Option Addr) (cap b o : Nat), v = .slice a l.length cap ∧ (0 < l.length → a = some ⟨b, o, none⟩) ∧ (∀ j (h : j < l.length), Op8In w b (o + j * 6) l[j]) ∧ l.length ≤ maxLen
theorem Ops8.later {w w' : World} {v : Value} {l : List Op8} (h : Ops8 w v l) (hb : Below w.heap.size w w') : Ops8 w' v l := by
  obtain ⟨a, cap, b, o, h1, h2, h3, h4⟩ := h
  exact ⟨a, cap, b, o, h1, h2, fun j hj => (h3 j hj).later hb, h4⟩
theorem op8_info : (Try.prog.info? 57).map (·.size) = some 6 := by kernel_rfl
theorem ld_op8 {ops : Array Oper} {rest : List Oper} {o : Oper} {a : Act} {w : World} {Q : Exit → Act → World → Prop} (hwd : Region.wanted o (yielded ops a.tmps) = true) (y : Operand) (ho : o.op = .load 57 y)
    (b k : Nat) (hx : a.eval y = .pointer (some ⟨b, k, none⟩)) (x : Op8) (hR : Op8In w b k x)
    (h : wpList Try.prog ops Q rest (a.put o.dst (.agg (op8C x))) w) : wpList Try.prog ops Q (o :: rest) a w :=
  wpList_step fun _ hK => by
    rw [if_pos hwd]
    exact wp_load_mid 57 y ho b k hx _ _ hR Try.underlying57 rfl op8_info (hK _ _ h)
/-- Are these few operations, of few things? -/
def few8B (l : List Op8) : Bool := decide ((∀ o ∈ l, o.2.2.2.2.2 ≤ 1000) ∧ l.length ≤ 40)
theorem few8_ops {s : List Op8} (h : few8B s = true) : (∀ o ∈ s, o.2.2.2.2.2 ≤ 1000) ∧ s.length ≤ 40 := by
  unfold few8B at h
  simpa using h
set_option maxHeartbeats 2000000 in
theorem few8 (v : Value) (l : List Op8) (w : World) (hl : Ops8 w v l) : Calls Try.prog 9 #[v] w fun e w' => e = .returned (.bool (few8B l)) ∧ Below w.heap.size w w' := by
  obtain ⟨ad, cap, bb, oo, rfl, h1, h2, hmax⟩ := hl
  have HLO := Lib.hid h1
  have HLC := Lib.hid h2
  have hm63 : (l.length : Int) ≤ 9223372036854775807 := by unfold maxLen at hmax; omega
  obtain ⟨B, hB⟩ : ∃ B, B = few8B l := ⟨_, rfl⟩
  rw [← hB]
  have HFB := Lib.hid hB
  clear h1 h2 hmax hB
  go_enter Try.func9, Try.ntmps9
  go_wp2_with fail
  go_loopw [7] (fun i wl => ∃ n : Nat, n ≤ l.length ∧ i = .int .i64 (n : Int) ∧ Hid (∀ o ∈ l.take n, o.2.2.2.2.2 ≤ 1000) ∧ Below w.heap.size w wl) (fun i _ => l.length - (intOf i).toNat)
  case atStart => exact ⟨0, Nat.zero_le _, rfl, (by simp : ∀ o ∈ l.take 0, o.2.2.2.2.2 ≤ 1000), Below.refl _ _⟩
  case round =>
    obtain ⟨n, hn, rfl, HT, hb⟩ := hrel
    have HB := Lib.hid hb
    by_cases hlt : n < l.length
    · have hlt' : (n : Int) < (l.length : Int) := by omega
      have i0 : (0 : Int) ≤ (n : Int) := by omega
      have had : ad = some ⟨bb, oo, none⟩ := HLO.out (by omega)
      subst had
      have HR := Lib.hid ((HLC.out n hlt).later hb)
      have HMEM := Lib.hid (List.getElem_mem hlt)
      have HTK := Lib.hid (List.take_succ_eq_append_getElem hlt)
      obtain ⟨x, hx⟩ : ∃ x, x = l[n] := ⟨_, rfl⟩
      rw [← hx] at HR HMEM HTK
      obtain ⟨x1, x2, x3, x4, x5, x6⟩ := x
      have HN := Lib.hid (fun (m : Nat) => (show Below w.heap.size w (wr.alloc (.cells (op8C (x1, x2, x3, x4, x5, x6)) 57)) from Below.alloc HB.out HB.out.size _))
      clear hx hb
      by_cases h15 : 1000 < x6
      · have hf : few8B l = false := by
          unfold few8B
          rw [decide_eq_false_iff_not]
          intro h
          have := h.1 _ HMEM.out
          simp only at this
          omega
        obtain rfl : B = false := by rw [HFB.out, hf]
        clear hf
        go_wp2_with (refine ld_op8 rfl _ rfl bb (oo + n * 6) rfl (x1, x2, x3, x4, x5, x6) HR.out ?_)
        go_ret
        exact ⟨rfl, HN.out 0⟩
      · go_wp2_with (refine ld_op8 rfl _ rfl bb (oo + n * 6) rfl (x1, x2, x3, x4, x5, x6) HR.out ?_)
        go_roundw
        case rel =>
          refine ⟨n + 1, by omega, by go_num, ?_, HN.out 0⟩
          show ∀ o ∈ l.take (n + 1), o.2.2.2.2.2 ≤ 1000
          intro o ho
          rw [HTK.out, List.mem_append, List.mem_singleton] at ho
          rcases ho with ho | rfl
          · exact HT.out o ho
          · show x6 ≤ 1000; omega
        case measure => simp [intOf]; omega
    · obtain rfl : n = l.length := by omega
      have HFE : Hid (few8B l = decide ((l.length : Int) ≤ 40)) := by
        show _ = _
        have h := HT.out
        rw [List.take_length] at h
        unfold few8B
        rw [decide_eq_decide]
        exact ⟨fun a => by omega, fun a => ⟨h, by omega⟩⟩
      obtain rfl : B = decide ((l.length : Int) ≤ 40) := by rw [HFB.out, HFE.out]
      go_wp2_with fail
      go_ret
      exact ⟨rfl, HB.out⟩
end Go.Proofs.Ytldemoflgahdgaa
