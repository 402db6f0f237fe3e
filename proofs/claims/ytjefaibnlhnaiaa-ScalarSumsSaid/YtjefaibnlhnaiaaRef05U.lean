/- Layer 5: what the document itself reads of bytes: Bare and Unkey. -/
import Derived.Test.YtjefaibnlhnaiaaRef05K
namespace Go.Proofs.Ytjefaibnlhnaiaa
open Go.RowKit
set_option maxRecDepth 1000000

/-- What was read, and what comes of the rest. -/
def preS (txt : List UInt8) (k : Nat) (x : List UInt8 × Nat × Int) : List UInt8 × Nat × Int := if x.2.2 = 0 then (txt ++ x.1, x.2.1 + k, 0) else ([], x.2.1 + k, x.2.2)
theorem pre_start (x : List UInt8 × Nat × Int) (h : x.2.2 = 0 ∨ x.1 = []) : preS [] 0 x = x := by
  obtain ⟨t, n, e⟩ := x
  unfold preS
  simp only at h ⊢
  by_cases h0 : e = 0
  · subst h0; simp
  · rw [if_neg h0]
    rcases h with h | h
    · exact absurd h h0
    · subst h; simp
theorem pre_put (txt : List UInt8) (k : Nat) (c : UInt8) (j : Nat) (x : List UInt8 × Nat × Int) : preS txt k (putS c j x) = preS (txt ++ [c]) (k + j) x := by
  obtain ⟨t, n, e⟩ := x
  unfold preS putS
  by_cases h0 : e = 0
  · subst h0; simp; omega
  · simp [h0]; omega
theorem bare_err : ∀ (m : Nat) (l : List UInt8), l.length ≤ m → (bareS l).2.2 = 0 ∨ (bareS l).1 = []
  | _, [], _ => .inr rfl
  | 0, _ :: _, h => by simp at h
  | m + 1, c :: r, h => by
    have put : ∀ (c : UInt8) (j : Nat) (x : List UInt8 × Nat × Int), (putS c j x).2.2 = 0 ∨ (putS c j x).1 = [] := fun c j x => by
      unfold putS; split
      · exact .inl rfl
      · exact .inr rfl
    by_cases hc : c ≠ 0
    · rw [bare_plain c r hc]; exact put _ _ _
    · have : c = 0 := by simpa using hc
      subst this
      cases r with
      | nil => rw [bare_one]; exact .inr rfl
      | cons d r =>
        rw [bare_two]
        split
        · exact .inl rfl
        split
        · exact put _ _ _
        · exact .inr rfl
theorem drop_get (s : ByteArray) (k : Nat) (h : k < s.size) : s.data.toList.drop k = s[k] :: s.data.toList.drop (k + 1) := by
  rw [List.drop_eq_getElem_cons (by rw [len_bytes]; exact h)]
  rfl

set_option maxHeartbeats 4000000 in
theorem ref_Bare (s : ByteArray) (w : World) (hs : s.size ≤ 1000000) :
    Calls Try.prog 36 #[.string s] w fun e w' => e = .returned (.tuple #[.string ⟨(bareS s.data.toList).1.toArray⟩, .int .i64 ((bareS s.data.toList).2.1 : Nat), .int .i64 (bareS s.data.toList).2.2]) ∧ w' = w := by
  have HX : Hid (bareS s.data.toList = preS [] 0 (bareS (s.data.toList.drop 0))) := by
    show _ = _
    rw [List.drop_zero, pre_start _ (bare_err _ _ (Nat.le_refl _))]
  go_enter Try.func36, Try.ntmps36
  go_wp2
  go_loopw [5, 6] (fun x n wl => ∃ (k : Nat) (txt : List UInt8), k ≤ s.size ∧ n = .int .i64 k ∧ x = .string ⟨txt.toArray⟩ ∧ txt.length ≤ k ∧ bareS s.data.toList = preS txt k (bareS (s.data.toList.drop k)) ∧ wl = w) (fun _ n _ => s.size - (intOf n).toNat)
  case atStart => exact ⟨0, [], Nat.zero_le _, rfl, rfl, Nat.le_refl _, HX.out, rfl⟩
  case round =>
    obtain ⟨k, txt, hk, rfl, rfl, htl, hx, rfl⟩ := hrel
    have HB := Lib.hid hx
    clear hx HX
    by_cases h1 : k < s.size
    · have hcut := cut_one s k h1
      rw [drop_get s k h1] at HB
      by_cases h0 : s[k] = 0
      · have h0' : (s[k].toNat : Int) = 0 := by rw [h0]; rfl
        rw [h0] at HB
        clear hcut
        by_cases h2 : k + 1 = s.size
        · rw [show s.data.toList.drop (k + 1) = [] by rw [List.drop_eq_nil_iff, len_bytes]; omega, bare_one] at HB
          have h2' : (k : Int) + 1 = (s.size : Int) := by omega
          have e : Hid (bareS s.data.toList = ([], s.size, 10)) := by
            show _ = _
            rw [HB.out]
            simp [preS]; omega
          go_wp2_with fail
          go_ret3
          exact ⟨by rw [e.out]; rfl, rfl⟩
        · have h3 : k + 1 < s.size := by omega
          rw [drop_get s (k + 1) h3, bare_two] at HB
          have h2' : ((k : Int) + 1 == (s.size : Int)) = false := by rw [beq_eq_false_iff_ne]; omega
          have h2'' : ¬ (k : Int) + 1 = (s.size : Int) := by omega
          by_cases d0 : s[k + 1] = 0
          · have d0' : (s[k + 1].toNat : Int) = 0 := by rw [d0]; rfl
            rw [if_pos d0] at HB
            have e : Hid (bareS s.data.toList = (txt, k + 2, 0)) := by
              show _ = _
              rw [HB.out]
              simp [preS]; omega
            go_wp2_with fail
            go_ret3
            exact ⟨by rw [e.out]; rfl, rfl⟩
          · have d0' : ¬ (s[k + 1].toNat : Int) = 0 := fun e => d0 (UInt8.toNat_inj.1 (by simpa using e))
            rw [if_neg d0] at HB
            by_cases d1 : s[k + 1] = 255
            · have d1' : (s[k + 1].toNat : Int) = 255 := by rw [d1]; rfl
              rw [if_pos d1, pre_put] at HB
              go_wp2_with fail
              go_roundw
              case rel => exact ⟨k + 2, txt ++ [0], by omega, by go_num, by rw [← cat_mk], by simp; omega, HB.out, trivial⟩
              case measure => simp [intOf]; omega
            · have d1' : ¬ (s[k + 1].toNat : Int) = 255 := fun e => d1 (UInt8.toNat_inj.1 (by show s[k + 1].toNat = 255; omega))
              rw [if_neg d1] at HB
              have e : Hid (bareS s.data.toList = ([], k + 1, 2)) := by
                show _ = _
                rw [HB.out]
                simp [preS]; omega
              go_wp2_with fail
              go_ret3
              exact ⟨by rw [e.out]; rfl, rfl⟩
      · have h0' : ¬ (s[k].toNat : Int) = 0 := fun e => h0 (UInt8.toNat_inj.1 (by simpa using e))
        rw [bare_plain _ _ h0, pre_put] at HB
        go_wp2_with fail
        go_roundw
        case rel => exact ⟨k + 1, txt ++ [s[k]], by omega, by go_num, by rw [← cat_mk], by simp; omega, HB.out, trivial⟩
        case measure => simp [intOf]; omega
    · rw [show s.data.toList.drop k = [] by rw [List.drop_eq_nil_iff, len_bytes]; omega] at HB
      have e : Hid (bareS s.data.toList = ([], s.size, 10)) := by
        show _ = _
        rw [HB.out]
        simp [preS, bareS]; omega
      go_wp2_with fail
      go_ret3
      exact ⟨by rw [e.out]; rfl, rfl⟩
/-- A struct's variable and two more as the results. -/
theorem results_cell_row2 {P : Program} {fn : Func} {p u v : Tmp} {ty : TypeId} (h : fn.results = #[.cell p ty, .tmp u, .tmp v]) (tmps : Array Value) (w : World) (g : Nat) (t : TypeId) (cs : Array Value) (fr : Nat × Nat) (d : TypeDesc)
    (hp : tmps.getD p undef = .pointer (some ⟨g, 0, none⟩)) (hg : w.heap[g]? = some (.cells cs t fr))
    (hu : P.underlying ty = some d) (hd : (match d with | .struct _ | .array _ _ => true | _ => false) = true) (hi : (P.info? ty).map (·.size) = some cs.size) :
    (results fn tmps).run P w = .ok (.tuple #[.agg cs, tmps.getD u undef, tmps.getD v undef]) w := by
  have hp' : tmps[p]?.getD undef = .pointer (some ⟨g, 0, none⟩) := by simpa using hp
  simp [results, h, hp', asAddr, run_loadVar_row w g t ty cs fr d hg hu hd hi]
/-- A scalar, the place, the error: as values. -/
abbrev unkV (x : Sc × Nat × Int) (t : ByteArray) : Value := .tuple #[scV x.1.1 x.1.2.1 t, .int .i64 (x.2.1 : Nat), .int .i64 x.2.2]
theorem head_bytes (s : ByteArray) (h : 0 < s.size) : s.data.toList = s[0] :: s.data.toList.drop 1 := by
  have := drop_get s 0 h
  simpa using this
theorem bare_le : ∀ (m : Nat) (l : List UInt8), l.length ≤ m → (bareS l).2.1 ≤ l.length
  | _, [], _ => by simp [bareS]
  | 0, _ :: _, h => by simp at h
  | m + 1, c :: r, h => by
    have put : ∀ (c : UInt8) (j : Nat) (x : List UInt8 × Nat × Int), (putS c j x).2.1 = x.2.1 + j := fun c j x => by unfold putS; split <;> rfl
    by_cases hc : c ≠ 0
    · rw [bare_plain c r hc, put]
      have := bare_le m r (by simpa using h)
      simp; omega
    · have : c = 0 := by simpa using hc
      subst this
      cases r with
      | nil => rw [bare_one]; simp
      | cons d r =>
        rw [bare_two]
        split
        · simp
        split
        · rw [put]
          have := bare_le m r (by simp at h; omega)
          simp; omega
        · simp
set_option maxHeartbeats 4000000 in
theorem ref_Unkey (s : ByteArray) (w : World) (hs : s.size ≤ 1000000) :
    Calls Try.prog 20 #[.string s] w fun e w' => e = .returned (unkV (unkSc s.data.toList) ⟨(unkSc s.data.toList).1.2.2.toArray⟩) ∧ Below w.heap.size w w' := by
  have HN := Lib.hid (fun c => Below.newly' w (.cells c 23))
  have te := toL_isEmpty s
  by_cases h0 : s.size = 0
  · have hl : s.data.toList = [] := by rw [List.eq_nil_iff_length_eq_zero, len_bytes]; exact h0
    rw [decide_eq_true hl] at te
    have e : Hid (unkSc s.data.toList = ((0, 0, []), 0, 10)) := by show _ = _; rw [hl]; rfl
    clear h0 hl
    go_enter Try.func20, Try.ntmps20
    go_wp2
    refine bodyPost_ret (results_cell_row2 rfl _ _ w.heap.size 23 _ (0, 0) _ rfl (heap_alloc_new w _) Try.underlying23 rfl (by kernel_rfl)) rfl ⟨?_, HN.out _⟩
    rw [e.out]; rfl
  have hpos : 0 < s.size := by omega
  have hne : ¬ s.data.toList = [] := fun h => h0 (by rw [← len_bytes, h]; rfl)
  rw [decide_eq_false hne] at te
  have HH := Lib.hid (head_bytes s hpos)
  clear hne h0
  by_cases c1 : s[0] = 1
  · have c1' : (s[0].toNat : Int) = 1 := by rw [c1]; rfl
    have e : Hid (unkSc s.data.toList = ((0, 0, []), 1, 0)) := by show _ = _; rw [HH.out, c1, unk_null]
    go_enter Try.func20, Try.ntmps20
    go_wp2
    refine bodyPost_ret (results_cell_row2 rfl _ _ w.heap.size 23 _ (0, 0) _ rfl (heap_alloc_new w _) Try.underlying23 rfl (by kernel_rfl)) rfl ⟨?_, HN.out _⟩
    rw [e.out]; rfl
  have c1' : ¬ (s[0].toNat : Int) = 1 := fun e => c1 (UInt8.toNat_inj.1 (by show s[0].toNat = 1; omega))
  by_cases c2 : s[0] = 2
  · have c2' : (s[0].toNat : Int) = 2 := by rw [c2]; rfl
    by_cases l1 : s.size = 1
    · have l1' : (s.size : Int) = 1 := by omega
      have e : Hid (unkSc s.data.toList = ((0, 0, []), 1, 10)) := by
        show _ = _
        rw [HH.out, c2, show s.data.toList.drop 1 = [] by rw [List.drop_eq_nil_iff, len_bytes]; omega]
        simp [unkSc]
      clear l1
      go_enter Try.func20, Try.ntmps20
      go_wp2
      refine bodyPost_ret (results_cell_row2 rfl _ _ w.heap.size 23 _ (0, 0) _ rfl (heap_alloc_new w _) Try.underlying23 rfl (by kernel_rfl)) rfl ⟨?_, HN.out _⟩
      rw [e.out]; rfl
    · have l2 : 1 < s.size := by omega
      have l1' : ¬ (s.size : Int) = 1 := by omega
      have e0 : Hid (unkSc s.data.toList = if 1 < s[1].toNat then (((0, 0, []), 1, 2) : Sc × Nat × Int) else ((1, (s[1].toNat : Int), []), 2, 0)) := by
        show _ = _
        rw [HH.out, c2, drop_get s 1 l2, unk_bool]
      by_cases b1 : 1 < s[1].toNat
      · rw [if_pos b1] at e0
        have b1' : (1 : Int) < (s[1].toNat : Int) := by omega
        go_enter Try.func20, Try.ntmps20
        go_wp2
        refine bodyPost_ret (results_cell_row2 rfl _ _ w.heap.size 23 _ (0, 0) _ rfl (heap_alloc_new w _) Try.underlying23 rfl (by kernel_rfl)) rfl ⟨?_, HN.out _⟩
        rw [e0.out]; rfl
      · rw [if_neg b1] at e0
        have b1' : ¬ (1 : Int) < (s[1].toNat : Int) := by omega
        go_enter Try.func20, Try.ntmps20
        go_wp2
        refine bodyPost_ret (results_cell_row2 rfl _ _ w.heap.size 23 _ (0, 0) _ rfl (heap_alloc_new w _) Try.underlying23 rfl (by kernel_rfl)) rfl ⟨?_, HN.out _⟩
        rw [e0.out]; rfl
  have c2' : ¬ (s[0].toNat : Int) = 2 := fun e => c2 (UInt8.toNat_inj.1 (by show s[0].toNat = 2; omega))
  by_cases c3 : s[0] = 3
  · have c3' : (s[0].toNat : Int) = 3 := by rw [c3]; rfl
    have hdl : (s.data.toList.drop 1).length = s.size - 1 := by rw [List.length_drop, len_bytes]
    by_cases l9 : s.size < 9
    · have l9' : (s.size : Int) < 9 := by omega
      have e : Hid (unkSc s.data.toList = ((0, 0, []), s.size, 10)) := by
        show _ = _
        rw [HH.out, c3, unk_int, if_pos (by omega), hdl, show s.size - 1 + 1 = s.size by omega]
      clear hdl
      go_enter Try.func20, Try.ntmps20
      go_wp2
      refine bodyPost_ret (results_cell_row2 rfl _ _ w.heap.size 23 _ (0, 0) _ rfl (heap_alloc_new w _) Try.underlying23 rfl (by kernel_rfl)) rfl ⟨?_, HN.out _⟩
      rw [e.out]; rfl
    · have l9' : ¬ (s.size : Int) < 9 := by omega
      have l9'' : 9 ≤ s.size := by omega
      have hx : (s.extract 1 9).data.toList = (s.data.toList.drop 1).take 8 := by simp [ByteArray.data_extract]
      have hu := ref_Unbytes (s.extract 1 9)
      rw [hx] at hu
      have HU := Lib.hid (fun W => hu W (by simp [maxLen]; omega))
      have e : Hid (unkSc s.data.toList = ((2, (unbytesS ((s.data.toList.drop 1).take 8)).1, []), 9, 0)) := by
        show _ = _
        rw [HH.out, c3, unk_int, if_neg (by omega)]
        rfl
      clear hdl hx hu l9
      obtain ⟨m, hm⟩ : ∃ m, m = unbytesS ((s.data.toList.drop 1).take 8) := ⟨_, rfl⟩
      rw [← hm] at HU e
      clear hm
      go_enter Try.func20, Try.ntmps20
      go_wp2_with fail
      refine (HU.out _).mono ?_
      rintro e1 w1 ⟨rfl, rfl⟩
      go_wp2_with fail
      refine bodyPost_ret (results_cell_row2 rfl _ _ w.heap.size 23 _ (0, 0) _ rfl (heap_alloc_new w _) Try.underlying23 rfl (by kernel_rfl)) rfl ⟨?_, HN.out _⟩
      rw [e.out]; rfl
  have c3' : ¬ (s[0].toNat : Int) = 3 := fun e => c3 (UInt8.toNat_inj.1 (by show s[0].toNat = 3; omega))
  by_cases c4 : s[0] = 4
  · have c4' : (s[0].toNat : Int) = 4 := by rw [c4]; rfl
    have hx : (s.extract 1 s.size).data.toList = s.data.toList.drop 1 := mixcut_drop s 1
    have hb := ref_Bare (s.extract 1 s.size)
    rw [hx] at hb
    have HB := Lib.hid (fun W => hb W (by simp; omega))
    have e0 : Hid (unkSc s.data.toList = if (bareS (s.data.toList.drop 1)).2.2 = 0 then (((3, 0, (bareS (s.data.toList.drop 1)).1), (bareS (s.data.toList.drop 1)).2.1 + 1, 0) : Sc × Nat × Int) else ((0, 0, []), (bareS (s.data.toList.drop 1)).2.1 + 1, (bareS (s.data.toList.drop 1)).2.2)) := by
      show _ = _
      rw [HH.out, c4, unk_text]
      rfl
    have hle : Hid ((bareS (s.data.toList.drop 1)).2.1 ≤ 1000000) := by
      show _ ≤ _
      have := bare_le (s.data.toList.drop 1).length (s.data.toList.drop 1) (Nat.le_refl _)
      rw [List.length_drop, len_bytes] at this
      omega
    clear hx hb
    obtain ⟨m, hm⟩ : ∃ m, m = bareS (s.data.toList.drop 1) := ⟨_, rfl⟩
    rw [← hm] at HB e0 hle
    clear hm
    obtain ⟨m1, m2, m3⟩ := m
    simp only at HB e0 hle
    have hle' := hle.out
    by_cases h3 : m3 = 0
    · subst h3
      rw [if_pos rfl] at e0
      go_enter Try.func20, Try.ntmps20
      go_wp2_with fail
      refine (HB.out _).mono ?_
      rintro e1 w1 ⟨rfl, rfl⟩
      go_wp2_with fail
      refine bodyPost_ret (results_cell_row2 rfl _ _ w.heap.size 23 _ (0, 0) _ rfl (heap_alloc_new w _) Try.underlying23 rfl (by kernel_rfl)) rfl ⟨?_, HN.out _⟩
      rw [e0.out]; rfl
    · rw [if_neg h3] at e0
      have h3' : (m3 != 0) = true := bne_iff_ne.2 h3
      go_enter Try.func20, Try.ntmps20
      go_wp2_with fail
      refine (HB.out _).mono ?_
      rintro e1 w1 ⟨rfl, rfl⟩
      go_wp2_with fail
      refine bodyPost_ret (results_cell_row2 rfl _ _ w.heap.size 23 _ (0, 0) _ rfl (heap_alloc_new w _) Try.underlying23 rfl (by kernel_rfl)) rfl ⟨?_, HN.out _⟩
      rw [e0.out]; rfl
  have c4' : ¬ (s[0].toNat : Int) = 4 := fun e => c4 (UInt8.toNat_inj.1 (by show s[0].toNat = 4; omega))
  have e : Hid (unkSc s.data.toList = ((0, 0, []), 0, 2)) := by
    show _ = _
    rw [HH.out]
    simp [unkSc, c1, c2, c3, c4]
  go_enter Try.func20, Try.ntmps20
  go_wp2
  refine bodyPost_ret (results_cell_row2 rfl _ _ w.heap.size 23 _ (0, 0) _ rfl (heap_alloc_new w _) Try.underlying23 rfl (by kernel_rfl)) rfl ⟨?_, HN.out _⟩
  rw [e.out]; rfl
end Go.Proofs.Ytjefaibnlhnaiaa
