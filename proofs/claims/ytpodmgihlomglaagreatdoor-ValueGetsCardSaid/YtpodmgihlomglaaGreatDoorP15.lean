import Derived.Test.YtpodmgihlomglaaGreatDoorP10
import Derived.Ground.SlsfProg
import Derived.Shelf.SlSortCmp.NoneTotal
namespace Go.Proofs.YtpodmgihlomglaaGreatDoor
open Go.RowKit
theorem mixlen_bytes (s : ByteArray) : s.data.toList.length = s.size := by simp
theorem mixget_bytes (s : ByteArray) (k : Nat) (h : k < s.size) : s.data.toList.getD k 0 = s[k] := by
 rw [List.getD_eq_getElem?_getD, List.getElem?_eq_getElem (by simpa using h)]; rfl
theorem mixcut_drop (s : ByteArray) (k : Nat) : (s.extract k s.size).data.toList = s.data.toList.drop k := by
 simp
 rw [List.take_of_length_le (by simp)]
theorem mixcut_size (s : ByteArray) (k : Nat) : (s.extract k s.size).size = s.size - k := by simp
theorem shl_nat (c : UInt8) (k : Nat) (hk : k ≤ 7) : IntKind.u64.wrap (IntKind.u64.wrap (c.toNat : Int) * 2 ^ (8 * (7 - k))) = ((c.toNat * 2 ^ (8 * (7 - k)) : Nat) : Int) := by
 have hc : c.toNat < 256 := c.toNat_lt
 have h := byte_lt c k hk
 rw [pow_nat, IntKind.wrap_u64, IntKind.wrap_u64, show ((c.toNat : Int) % 18446744073709551616) = (c.toNat : Int) by omega, ← Int.natCast_mul]
 omega
theorem wd_step (l : List UInt8) (k : Nat) (c : UInt8) (hk : k ≤ 7) (hc : l.getD k 0 = c) :
  bits .or .u64 (wd l k : Int) (IntKind.u64.wrap (IntKind.u64.wrap (c.toNat : Int) * 2 ^ (8 * (7 - k)))) = (wd l (k + 1) : Int) := by
 rw [shl_nat c k hk, bits_or_u64_nat _ _ (wd_lt l k (by omega)) (byte_lt c k hk), ← hc]; rfl
theorem mix_word (s : ByteArray) (hs : s.size ≤ maxLen) (w : World) :
  Calls Tryz.prog 161 #[.string s] w fun e w' => e = .returned (.int .u64 (wd s.data.toList (min s.size 8) : Nat)) ∧ w = w' := by
 unfold maxLen at hs
 go_enter Tryz.func161, Tryz.ntmps161
 go_wp2_with fail
 go_loop [3, 8] (fun v n => ∃ i : Nat, i ≤ s.size ∧ i ≤ 8 ∧ n = .int .i64 i ∧ v = .int .u64 (wd s.data.toList i : Nat)) (fun _ n => 8 - (intOf n).toNat)
 case atStart => exact ⟨0, Nat.zero_le _, Nat.zero_le _, rfl, rfl⟩
 case round =>
  obtain ⟨i, hi, h9, rfl, rfl⟩ := hrel
  by_cases h1 : i < 8 ∧ i < s.size
  ·obtain ⟨h1, h2⟩ := h1
   have HS := Lib.hid (wd_step s.data.toList i s[i] (by omega) (mixget_bytes s i h2))
   go_wp2
   go_round
   case rel => exact ⟨i + 1, by omega, by omega, by go_num, by rw [HS.out]⟩
   case measure => simp [intOf]; omega
  ·have e : Hid (i = min s.size 8) := by show _ = _; omega
   go_wp2
   go_ret
   exact ⟨ret_u64 (by rw [e.out]), rfl⟩
set_option maxHeartbeats 1000000 in
theorem mix_Text (seed : Nat) (s : ByteArray) (hseed : seed < 18446744073709551616) (hz : s.size ≤ 9223372036854775800) (w : World) :
  Calls Tryz.prog 141 #[.int .u64 (seed : Int), .string s] w fun e w' => e = .returned (.int .u64 (txtN seed s.data.toList : Nat)) ∧ w = w' := by
 have H0 := Lib.hid (fun w => mix_Step seed s.size hseed (by omega) w)
 have hc : IntKind.u64.wrap (s.size : Int) = (s.size : Int) := by rw [IntKind.wrap_u64]; omega
 clear hseed
 go_enter Tryz.func141, Tryz.ntmps141
 go_wp2_with fail
 refine (H0.out w).mono ?_
 rintro e w1 ⟨rfl, rfl⟩
 go_wp2_with fail
 go_loop [5, 6] (fun v n => ∃ a j : Nat, Hid (a = 8 * j) ∧ a ≤ s.size + 7 ∧ n = .int .i64 a ∧ v = .int .u64 (hs seed s.data.toList j : Nat)) (fun _ n => s.size + 7 - (intOf n).toNat)
 case atStart => exact ⟨0, 0, rfl, Nat.zero_le _, rfl, by rw [hs, mixlen_bytes]⟩
 case round =>
  obtain ⟨a, j, HJ, ha, rfl, rfl⟩ := hrel
  by_cases h1 : a < s.size
  ·have HW := Lib.hid (fun w => mix_word (s.extract a s.size) (by rw [mixcut_size]; unfold maxLen; omega) w)
   rw [mixcut_drop, mixcut_size] at HW
   obtain ⟨x, hx⟩ : ∃ x, x = wd (s.data.toList.drop a) (min (s.size - a) 8) := ⟨_, rfl⟩
   rw [← hx] at HW
   have HX : Hid (x = wd (s.data.toList.drop (8 * j)) (min (s.data.toList.length - 8 * j) 8)) := by show _ = _; rw [mixlen_bytes, ← HJ.out]; exact hx
   have HS := Lib.hid (fun w => mix_Step (hs seed s.data.toList j) x (hs_lt _ _ _) (hx ▸ wd_lt _ _ (by omega)) w)
   clear hx
   go_wp2_with fail
   refine (HW.out _).mono ?_
   rintro e w1 ⟨rfl, rfl⟩
   go_wp2_with fail
   refine (HS.out _).mono ?_
   rintro e w1 ⟨rfl, rfl⟩
   go_wp2_with fail
   go_round
   case rel => exact ⟨a + 8, j + 1, by show _ = _; have := HJ.out; omega, by omega, by go_num, by rw [HX.out]; rfl⟩
   case measure => simp [intOf]; omega
  ·have HE := Lib.hid (fun w => mix_End (hs seed s.data.toList j) (hs_lt _ _ _) w)
   have e : Hid (j = (s.data.toList.length + 7) / 8) := by show _ = _; rw [mixlen_bytes]; have := HJ.out; omega
   go_wp2_with fail
   refine (HE.out _).mono ?_
   rintro e w1 ⟨rfl, rfl⟩
   go_wp2_with fail
   go_ret
   exact ⟨ret_u64 (by rw [e.out]; rfl), rfl⟩
end Go.Proofs.YtpodmgihlomglaaGreatDoor
namespace Go.Proofs.YtpodmgihlomglaaGreatDoor
open Go.RowKit Go.Shelf
set_option maxRecDepth 1000000
set_option linter.unusedSimpArgs false
def IterN {α : Type} (P : Program) (gf : Nat) (lb : Array Value) (encs : α → Array Value) (RK IK : Nat → World → World → Prop) (S Pr : List α → Prop) (w0 : World) : Prop :=
 ∀ (l : Nat) (J : List α → World → Prop) (W : World), Below w0.heap.size w0 W → (∀ s A B, J s A → IK W.heap.size A B → J s B) →
  (∀ m pre x V, J pre V → W.heap.size ≤ V.heap.size → Pr (pre ++ [x]) → YieldAt Fence.wide m P l (encs x) V fun e V' => e = .returned (.bool true) ∧ J (pre ++ [x]) V' ∧ RK W.heap.size V V') →
  J [] W → ∀ m, CallsIn Fence.wide m P gf (#[.func (.yield l) #[] #[]] ++ lb) W fun e W' => (∃ v, e = .returned v) ∧ ∃ ys, S ys ∧ J ys W'
theorem IterR.n {α : Type} {P : Program} {gf : Nat} {lb : Array Value} {encs : α → Array Value} {RK IK : Nat → World → World → Prop} {S Sp Pr : List α → Prop} {w0 : World} (h : IterR P gf lb encs RK IK S Sp Pr w0) : IterN P gf lb encs RK IK S Pr w0 := fun l J W hW hA hY h0 m =>
 (h l J (fun _ _ => False) W hW hA (fun m pre x V a b c => (hY m pre x V a b c).mono fun _ _ h => .inl h) h0 m).mono fun _ _ ⟨h1, h2⟩ => ⟨h1, h2.elim id fun ⟨_, _, h⟩ => h.elim⟩
set_option maxHeartbeats 400000 in
theorem wpIn_rangeN {α : Type} {RK IK : Nat → World → World → Prop} {P : Program} {n n₀ : Nat} {g : Operand} {ps : Array Tmp} {assign body : Code} {Q : Exit → Act → World → Prop} {a : Act} {w : World} (hn₀ : n₀ ≤ w.heap.size) (hok : KeepsOk RK IK n₀)
  {gf : Nat} {lb : Array Value} (hg : a.eval g = .func (.func gf) #[] lb) (eg : ∀ args w, (callFunc gf args).run P w = .ok (.enter gf args) w)
  {encs : α → Array Value} {S : List α → Prop} {Pr : List α → Prop} (hseq : IterN P gf lb encs RK IK S Pr w) (hps : ∀ x, (encs x).size = ps.size)
  (I : List α → World → Prop) (hI : OwnFrom w.heap.size I)
  (hIS : ∀ s A B, I s A → IK (w.heap.size + 2) A B → I s B) (hIb : ∀ pre A B, I pre A → Below A.heap.size A B → I pre B) (h0 : I [] w) (St : α → Nat → World → Prop) (hSt : ∀ x b (A : World) l o o', A.heap[l]? = some o → o.isCells = false → St x b A → St x b (A.putObj l o')) (hnew : ∀ {Y : Nat} {A B : World}, Below A.heap.size A B → n₀ ≤ A.heap.size → RK Y A B) (a₁ : α → Nat → Act)
  (hassign : ∀ (l : Nat) (x : α) (W : World) (K : Act → World → Prop), (∀ b W', Below W.heap.size W W' → St x b W' → K (a₁ x b) W') →
   assign.wpIn (Fence.wide.inRound l) n P (Exit.then K (fun _ _ _ => False)) { tmps := (ps.zip (encs x)).foldl (fun t (p, v) => t.setIfInBounds p v) a.tmps, defers := [] } W)
  (hbody : ∀ (l : Nat) (pre : List α) (x : α) (b : Nat) (W : World), w.heap.size + 2 ≤ W.heap.size → I pre W → St x b W → Pr (pre ++ [x]) → body.wpIn (Fence.wide.inRound l) n P (ownPostG w.heap.size (RK (w.heap.size + 2)) I (fun _ _ _ => False) (pre ++ [x]) W) (a₁ x b) W)
  (hdone : ∀ (xs : List α) (W : World), S xs → I xs W → W.heap[w.heap.size]? = some (.deferred (some [])) → Q .normal { a with defers := { target := .collected w.heap.size, args := #[] } :: a.defers } W) :
  (Code.rangeFunc g ps assign body).wpIn Fence.wide n P Q a w := by
 refine wpIn_rangeFunc fun fn hfn => ?_
 rw [show Fence.wide.round = none from rfl]
 obtain ⟨rec, hrec⟩ : ∃ rec : LoopState → Option Code → Loop, rec = fun st pe => { state := st, pending := pe, fn, tmps := a.tmps, params := ps, assign, body, defers := w.heap.size } := ⟨_, rfl⟩
 obtain ⟨V0, hV0⟩ : ∃ V0, V0 = (w.alloc (.deferred (some []))).alloc (.loop (rec .ready none)) := ⟨_, rfl⟩
 have hsz : V0.heap.size = w.heap.size + 2 := by rw [hV0]; simp
 have hrow : V0.heap[w.heap.size + 1]? = some (.loop (rec .ready none)) := by
  have h := World.alloc_heap_new (w.alloc (.deferred (some []))) (.loop (rec .ready none))
  rwa [World.size_alloc, ← hV0] at h
 have hdef : V0.heap[w.heap.size]? = some (.deferred (some [])) := by
  rw [hV0]; exact (Below.heap_alloc _ _ _ (by simp)).trans (World.alloc_heap_new w _)
 have hbl : Below w.heap.size w V0 := by rw [hV0]; exact Below.more (Below.newly' _ _) _
 have hI0 : I [] V0 := by rw [hV0]; exact hI.alloc _ (hI.alloc _ h0)
 obtain ⟨bk, hbk⟩ : ∃ bk : Loop → World → Prop, bk = fun r V => V.heap[w.heap.size + 1]? = some (.loop r) ∧ V.heap[w.heap.size]? = some (.deferred (some [])) := ⟨_, rfl⟩
 have bk_block : ∀ {r : Loop} {A B : World}, bk r A → B.heap[w.heap.size + 1]? = A.heap[w.heap.size + 1]? → B.heap[w.heap.size]? = A.heap[w.heap.size]? → bk r B := fun h h1 h2 => by
  rw [hbk] at h ⊢
  exact ⟨h1.trans h.1, h2.trans h.2⟩
 have bk_lt : ∀ {r : Loop} {A : World}, bk r A → w.heap.size + 1 < A.heap.size := fun h => by
  rw [hbk] at h
  exact (Array.getElem?_eq_some_iff.1 h.1).1
 have bk_put : ∀ {r r' : Loop} {A : World}, bk r A → bk r' (A.putObj (w.heap.size + 1) (.loop r')) := fun h => by
  have hlt := bk_lt h
  rw [hbk] at h ⊢
  exact ⟨World.putObj_heap_same hlt, (World.putObj_heap_other (by omega)).trans h.2⟩
 have bk_keep : ∀ {r : Loop} {A B : World}, bk r A → KeepsFrom w.heap.size A B → bk r B := fun h k => by
  rw [hbk] at h ⊢
  exact ⟨k.same _ _ (by omega) h.1 rfl, k.same _ _ (Nat.le_refl _) h.2 rfl⟩
 have hrun : CallsIn Fence.wide (n - 1) P gf (#[.func (.yield (w.heap.size + 1)) #[] #[]] ++ lb) V0
   (rangePost Fence.wide n P (w.heap.size + 1) Q { a with defers := [{ target := .collected w.heap.size, args := #[] }] ++ a.defers }) := by
  refine (hseq (w.heap.size + 1) (fun pre V => I pre V ∧ bk (rec .ready none) V) V0 hbl
   (fun s A B h hb => by
    rw [hsz] at hb
    have hlt := bk_lt h.2
    exact ⟨hIS s A B h.1 hb, bk_block h.2 (hok.low hb (by omega) hlt) (hok.low hb (by omega) (by omega))⟩)
   ?_ ⟨hI0, by rw [hbk]; exact ⟨hrow, hdef⟩⟩ (n - 1)).mono ?_
  ·rintro m pre x V ⟨hi, hb⟩ hV hlen
   rw [hsz] at hV ⊢
   have hb1 := hb
   rw [hbk] at hb1
   have hy := run_yield (P := P) (args := encs x) hb1.1 (by rw [hrec]; exact hps x)
   have hround : YieldAt Fence.wide n P (w.heap.size + 1) (encs x) V fun e V' =>
     e = .returned (.bool true) ∧ (I (pre ++ [x]) V' ∧ bk (rec .ready none) V') ∧ RK (w.heap.size + 2) V V' := by
    rw [hrec] at hy
    refine ⟨fn, _, assign, body, hy, roundIn_of_wpIn hfn (hassign _ x V _ fun b W' hbW hst => ?_)⟩
    have hlt0 := bk_lt hb
    have hbW' : bk (rec .ready none) W' := bk_block hb (hbW.block _ hlt0) (hbW.block _ (by omega))
    have hb1W := hbW'
    rw [hbk] at hb1W
    refine ⟨_, run_beginRound hb1W.1 (by rw [hrec]), ?_⟩
    obtain ⟨Vb, hVb⟩ : ∃ Vb, Vb = W'.putObj (w.heap.size + 1) (.loop { rec .ready none with state := .busy }) := ⟨_, rfl⟩
    have hks : RK (w.heap.size + 2) V Vb := by rw [hVb]; exact hok.trans (hnew hbW (by omega)) (hok.put hb1W.1 rfl (by omega) (by omega))
    have hbb : bk { rec .ready none with state := .busy } Vb := by rw [hVb]; exact bk_put hbW'
    have hib : I pre Vb := by rw [hVb]; exact hI.putObj _ (hIb _ _ _ hi hbW) (by omega) hb1W.1 rfl
    have hstb : St x b Vb := by rw [hVb]; exact hSt _ _ _ _ _ _ hb1W.1 rfl hst
    have hszW := hbW.size
    rw [← hVb]
    refine wpIn_mono (hbody _ pre x b Vb (by rw [hVb]; simp; omega) hib hstb hlen) ?_
    have fin : ∀ (jump : Option Code) (V3 : World), KeepsFrom w.heap.size Vb V3 →
      (Instr.endRound (w.heap.size + 1) jump).run P V3 = .ok (.bool jump.isNone) (V3.putObj (w.heap.size + 1) (.loop (rec (if jump.isNone then .ready else .done) jump))) ∧ bk { rec .ready none with state := .busy } V3 := fun jump V3 hk => by
     have h3 := bk_keep hbb hk
     have h4 := h3
     rw [hbk] at h4
     have h5 := run_endRound (P := P) jump h4.1
     rw [hrec] at h5 ⊢
     exact ⟨h5, by rw [hrec] at h3; exact h3⟩
    rintro e a3 V3 hp
    cases e with
    | normal =>
     obtain ⟨hk, hkp, hi3⟩ := hp
     obtain ⟨hr, hb3⟩ := fin none V3 hk
     have hb4 := hb3
     rw [hbk] at hb4
     exact ⟨_, _, hr, ⟨rfl, ⟨hI.putObj _ hi3 (by omega) hb4.1 rfl, bk_put hb3⟩, hok.trans (hok.trans hks hkp) (hok.put hb4.1 rfl (by omega) (by omega))⟩⟩
    | ret => exact hp.2.elim
    | exit id => exact hp.2.elim
    | goto t => exact hp.2.elim
    | panic ch => exact hp.elim
    | outgrown => exact hp.elim
   exact yield_any hround
  ·rintro e V2 ⟨⟨v, rfl⟩, xs, hS, hi, hb⟩
   have hb1 := hb
   rw [hbk] at hb1
   refine ⟨none, _, by have h := run_endLoop (P := P) hb1.1 (by rw [hrec]; simp); rw [hrec] at h; exact h, hdone xs _ hS (hI.putObj _ hi (by omega) hb1.1 rfl) ((World.putObj_heap_other (by omega)).trans hb1.2)⟩
 have henter : (Instr.enterLoop fn a.tmps ps assign body none).run P w = .ok (w.heap.size + 1, [{ target := .collected w.heap.size, args := #[] }]) V0 := by
  rw [hV0, hrec]
  exact run_enterLoop_outer _ _ _ _ _
 refine ⟨w.heap.size + 1, [{ target := .collected w.heap.size, args := #[] }], V0, { target := .fn (.func gf) lb, args := #[.func (.yield (w.heap.size + 1)) #[] #[]] }, V0, gf, #[.func (.yield (w.heap.size + 1)) #[] #[]] ++ lb, V0, ?_, ?_, ?_, ?_, ?_, ?_⟩
 ·exact henter
 ·exact range_resolves hg _ _
 ·intro f' _; exact trivial
 ·exact range_enters eg _ _
 ·intro h; exact absurd h (by simp [Fence.wide])
 ·exact hrun
end Go.Proofs.YtpodmgihlomglaaGreatDoor
namespace Go.Proofs.YtpodmgihlomglaaGreatDoor
open Go.RowKit
def Quiet (w w' : World) : Prop := ∃ n, w' = w.drewN n
theorem Quiet.below {w w' : World} (h : Quiet w w') : Below w.heap.size w w' := by
 obtain ⟨n, rfl⟩ := h
 exact ⟨rfl, rfl, rfl, Nat.le_refl _, fun _ _ => rfl⟩
section
variable {P : Program} {md : Region.Mode} {ops : Array Oper} {Q : Exit → Act → World → Prop} {S : World → Prop} {U : List Nat}
def updV (val : Nat → Value) (i : Nat) (v : Value) (k : Nat) : Value := if k = i then v else val k
theorem updV_at (val : Nat → Value) (i : Nat) (v : Value) : updV val i v i = v := if_pos rfl
theorem updV_ne (val : Nat → Value) {i k : Nat} (v : Value) (h : k ≠ i) : updV val i v k = val k := if_neg h
structure Gr {α : Type} (R : World → Value → α → Prop) (T : TypeId) (z : Array Value) (vars : List Nat) (gots : List (Nat × α)) (Wb V : World) (m : List Nat) (val : Nat → Value) : Prop where
 bel : Below Wb.heap.size Wb V
 made : ∀ i ∈ vars, i ∈ m → ∃ x, val i = .pointer (some ⟨x, 0, none⟩) ∧ Wb.heap.size ≤ x ∧ V.heap[x]? = some (.cells z T (0, 0))
 got : ∀ g ∈ gots, g.1 ∈ m → R V (val g.1) g.2
 apart : ∀ i ∈ vars, ∀ j ∈ vars, i ∈ m → j ∈ m → i ≠ j → val i ≠ val j
section
variable {α : Type} {R : World → Value → α → Prop} {T : TypeId} {z : Array Value} {vars : List Nat} {gots : List (Nat × α)} {Wb V V' : World} {m : List Nat} {val : Nat → Value}
theorem Gr.call (hR : ∀ A B v x, R A v x → Below A.heap.size A B → R B v x) (h : Gr R T z vars gots Wb V m val) (hb : Below V.heap.size V V') {i : Nat} {v : Value} (hi : ∀ j ∈ vars, j ≠ i) (hg : ∀ g ∈ gots, g.1 = i → R V' v g.2) :
  Gr R T z vars gots Wb V' (i :: m) (updV val i v) := by
 refine ⟨tW h.bel hb, fun j hj hm => ?_, fun g hgg hm => ?_, fun j hj k hk hjm hkm hne => ?_⟩
 ·have hji := hi j hj
  obtain ⟨x, h1, h2, h3⟩ := h.made j hj ((List.mem_cons.1 hm).resolve_left hji)
  exact ⟨x, (updV_ne val v hji).trans h1, h2, kW hb h3⟩
 ·by_cases e : g.1 = i
  ·have h1 := hg g hgg e
   rw [e, updV_at]
   exact h1
  ·rw [updV_ne val v e]
   exact hR _ _ _ _ (h.got g hgg ((List.mem_cons.1 hm).resolve_left e)) hb
 ·rw [updV_ne val v (hi j hj), updV_ne val v (hi k hk)]
  exact h.apart j hj k hk ((List.mem_cons.1 hjm).resolve_left (hi j hj)) ((List.mem_cons.1 hkm).resolve_left (hi k hk)) hne
theorem Gr.alloc (hR : ∀ A B v x, R A v x → Below A.heap.size A B → R B v x) (h : Gr R T z vars gots Wb V m val) {i : Nat} (hg : ∀ g ∈ gots, g.1 ≠ i) :
  Gr R T z vars gots Wb (V.alloc (.cells z T)) (i :: m) (updV val i (.pointer (some ⟨V.heap.size, 0, none⟩))) := by
 have hb := Below.newly' V (.cells z T)
 have hlt : ∀ j ∈ vars, j ∈ m → val j ≠ .pointer (some ⟨V.heap.size, 0, none⟩) := fun j hj hm e => by
  obtain ⟨x, h1, _, h3⟩ := h.made j hj hm
  rw [h1] at e
  simp only [Value.pointer.injEq, Option.some.injEq, Addr.mk.injEq] at e
  have := (Array.getElem?_eq_some_iff.1 h3).1
  omega
 refine ⟨tW h.bel hb, fun j hj hm => ?_, fun g hgg hm => ?_, fun j hj k hk hjm hkm hne => ?_⟩
 ·by_cases e : j = i
  ·rw [e, updV_at]
   exact ⟨_, rfl, h.bel.size, heap_alloc_last _ _⟩
  ·rw [updV_ne val _ e]
   obtain ⟨x, h1, h2, h3⟩ := h.made j hj ((List.mem_cons.1 hm).resolve_left e)
   exact ⟨x, h1, h2, kW hb h3⟩
 ·rw [updV_ne val _ (hg g hgg)]
  exact hR _ _ _ _ (h.got g hgg ((List.mem_cons.1 hm).resolve_left (hg g hgg))) hb
 ·by_cases e : j = i
  ·have hk2 : k ≠ i := fun e' => hne (e.trans e'.symm)
   rw [e, updV_at, updV_ne val _ hk2]
   exact (hlt k hk ((List.mem_cons.1 hkm).resolve_left hk2)).symm
  ·by_cases e' : k = i
   ·rw [e', updV_at, updV_ne val _ e]
    exact hlt j hj ((List.mem_cons.1 hjm).resolve_left e)
   ·rw [updV_ne val _ e, updV_ne val _ e']
    exact h.apart j hj k hk ((List.mem_cons.1 hjm).resolve_left e) ((List.mem_cons.1 hkm).resolve_left e') hne
end
end
end Go.Proofs.YtpodmgihlomglaaGreatDoor
namespace Go.Proofs.YtpodmgihlomglaaGreatDoor
open Go.RowKit Go.Shelf
set_option maxRecDepth 1000000
set_option linter.unusedSimpArgs false
theorem rope_size : (Tryz.prog.info? 112).map (·.size) = some 4 := by kernel_rfl
set_option maxHeartbeats 1000000 in
theorem rp_Len {S : Nat → Prop} {c : Array Value} {l : List Cel} (w : World) (h : RootR S w c l) : Calls Tryz.prog 65 #[.agg c] w fun e w' => e = .returned (.int .i64 (l.length : Int)) ∧ w' = w.alloc (.cells c 112) := by
 obtain ⟨d, q1, n1, c1, q2, n2, c2, rfl, _⟩ := h.cells
 clear h
 go_enter Tryz.func65, Tryz.ntmps65
 go_wp2
 go_ret
 exact ⟨rfl, rfl⟩
end Go.Proofs.YtpodmgihlomglaaGreatDoor
namespace Go.Proofs
open Go.Shelf
def Tryz.sortL_ren : Go.Shelf.Ren := ⟨fun | 6 => 134 | 15 => 152 | 14 => 154 | 28 => 180 | 29 => 181 | 20 => 184 | 21 => 185 | 22 => 186 | 23 => 187 | 24 => 188 | 25 => 189 | 26 => 190 | 27 => 191 | 46 => 206 | 47 => 201 | 48 => 202 | 49 => 207 | 50 => 208 | 57 => 212 | n => n, fun | 22 => 117 | 24 => 166 | 25 => 186 | 3 => 3 | 39 => 183 | 0 => 0 | 53 => 113 | 55 => 22 | 4 => 4 | 46 => 226 | 45 => 225 | 50 => 76 | 5 => 5 | 9 => 9 | 66 => 245 | 70 => 249 | 76 => 255 | 77 => 146 | n => n, fun | n => n⟩
theorem Tryz.sortL : Go.Proofs.SlLaysF.n6 Tryz.prog Tryz.sortL_ren := {
 mixed := by kernel_rfl
 f6 := ⟨Tryz.f134.name, by decide, Tryz.func134.trans (congrArg some (by kernel_rfl))⟩
 f14 := ⟨Tryz.f154.name, by decide, Tryz.func154.trans (congrArg some (by kernel_rfl))⟩
 f15 := Tryz.func152.trans (congrArg some (by kernel_rfl))
 f20 := ⟨Tryz.f184.name, by decide, Tryz.func184.trans (congrArg some (by kernel_rfl))⟩
 f21 := ⟨Tryz.f185.name, by decide, Tryz.func185.trans (congrArg some (by kernel_rfl))⟩
 f22 := ⟨Tryz.f186.name, by decide, Tryz.func186.trans (congrArg some (by kernel_rfl))⟩
 f23 := ⟨Tryz.f187.name, by decide, Tryz.func187.trans (congrArg some (by kernel_rfl))⟩
 f24 := ⟨Tryz.f188.name, by decide, Tryz.func188.trans (congrArg some (by kernel_rfl))⟩
 f25 := ⟨Tryz.f189.name, by decide, Tryz.func189.trans (congrArg some (by kernel_rfl))⟩
 f26 := ⟨Tryz.f190.name, by decide, Tryz.func190.trans (congrArg some (by kernel_rfl))⟩
 f27 := ⟨Tryz.f191.name, by decide, Tryz.func191.trans (congrArg some (by kernel_rfl))⟩
 f28 := Tryz.func180.trans (congrArg some (by kernel_rfl))
 f29 := Tryz.func181.trans (congrArg some (by kernel_rfl))
 f46 := ⟨Tryz.f206.name, by decide, Tryz.func206.trans (congrArg some (by kernel_rfl))⟩
 f47 := Tryz.func201.trans (congrArg some (by kernel_rfl))
 f48 := Tryz.func202.trans (congrArg some (by kernel_rfl))
 f49 := ⟨Tryz.f207.name, by decide, Tryz.func207.trans (congrArg some (by kernel_rfl))⟩
 f50 := ⟨Tryz.f208.name, by decide, Tryz.func208.trans (congrArg some (by kernel_rfl))⟩
 f57 := ⟨Tryz.f212.name, by decide, Tryz.func212.trans (congrArg some (by kernel_rfl))⟩
 t0 := Tryz.underlying0
 a0 := Tryz.isAgg0
 z0 := Tryz.sizeOf0
 v0 := Tryz.zeroValue0
 t3 := Tryz.underlying3
 a3 := Tryz.isAgg3
 z3 := Tryz.sizeOf3
 v3 := Tryz.zeroValue3
 t4 := Tryz.underlying4
 a4 := Tryz.isAgg4
 z4 := Tryz.sizeOf4
 v4 := Tryz.zeroValue4
 t5 := Tryz.underlying5
 a5 := Tryz.isAgg5
 z5 := Tryz.sizeOf5
 v5 := Tryz.zeroValue5
 t9 := Tryz.underlying9
 a9 := Tryz.isAgg9
 z9 := Tryz.sizeOf9
 v9 := Tryz.zeroValue9
 t22 := Tryz.underlying117
 a22 := Tryz.isAgg117
 z22 := Tryz.sizeOf117
 v22 := Tryz.zeroValue117
 a24 := Tryz.isAgg166
 z24 := Tryz.sizeOf166
 t25 := Tryz.underlying186
 a25 := Tryz.isAgg186
 z25 := Tryz.sizeOf186
 v25 := Tryz.zeroValue186
 t39 := Tryz.underlying183
 a39 := Tryz.isAgg183
 z39 := Tryz.sizeOf183
 v39 := Tryz.zeroValue183
 t45 := Tryz.underlying225
 a45 := Tryz.isAgg225
 z45 := Tryz.sizeOf225
 v45 := Tryz.zeroValue225
 t46 := Tryz.underlying226
 a46 := Tryz.isAgg226
 z46 := Tryz.sizeOf226
 v46 := Tryz.zeroValue226
 t50 := Tryz.underlying76
 a50 := Tryz.isAgg76
 z50 := Tryz.sizeOf76
 v50 := Tryz.zeroValue76
 t53 := Tryz.underlying113
 a53 := Tryz.isAgg113
 z53 := Tryz.sizeOf113
 v53 := Tryz.zeroValue113
 t55 := Tryz.underlying22
 a55 := Tryz.isAgg22
 z55 := Tryz.sizeOf22
 v55 := Tryz.zeroValue22
 t66 := Tryz.underlying245
 a66 := Tryz.isAgg245
 z66 := Tryz.sizeOf245
 v66 := Tryz.zeroValue245
 t70 := Tryz.underlying249
 a70 := Tryz.isAgg249
 z70 := Tryz.sizeOf249
 v70 := Tryz.zeroValue249
 t76 := Tryz.underlying255
 a76 := Tryz.isAgg255
 z76 := Tryz.sizeOf255
 v76 := Tryz.zeroValue255
 t77 := Tryz.underlying146
 a77 := Tryz.isAgg146
 z77 := Tryz.sizeOf146
 v77 := Tryz.zeroValue146 }
end Go.Proofs
namespace Go.Proofs.YtpodmgihlomglaaGreatDoor
open Go.RowKit
set_option maxRecDepth 1000000
set_option linter.unusedSimpArgs false
def SpotAt (W : World) (v : Value) (f : Nat → Int) (n : Nat) : Prop := ∃ (a : Option Addr) (b o cap : Nat), v = .slice a n cap ∧ n ≤ cap ∧ (0 < n → a = some ⟨b, o, none⟩) ∧ ∀ j, j < n → W.cell? ⟨b, o + j, none⟩ = some (.int .i64 (f j))
theorem SpotAt.later {W W' : World} {v : Value} {f : Nat → Int} {n : Nat} (h : SpotAt W v f n) (hb : Below W.heap.size W W') : SpotAt W' v f n := by
 obtain ⟨a, b, o, cap, h1, h2, h3, h4⟩ := h
 exact ⟨a, b, o, cap, h1, h2, h3, fun j hj => (hb.cell (p := ⟨b, o + j, none⟩) (World.block_lt_of_cell? W _ (h4 j hj))).trans (h4 j hj)⟩
theorem SpotAt.congr {W : World} {v : Value} {f g : Nat → Int} {n : Nat} (h : SpotAt W v f n) (e : ∀ j, j < n → f j = g j) : SpotAt W v g n := by
 obtain ⟨a, b, o, cap, h1, h2, h3, h4⟩ := h
 exact ⟨a, b, o, cap, h1, h2, h3, fun j hj => by rw [← e j hj]; exact h4 j hj⟩
theorem SpotAt.places {W : World} {v : Value} {f : Nat → Int} {n : Nat} (h : SpotAt W v f n) : PlacesAt W 1 v (fi f) n := by
 obtain ⟨a, b, o, cap, rfl, h2, h3, h4⟩ := h
 exact ⟨a, cap, rfl, fun h0 => ⟨_, h3 h0, fun j hj => by rw [add_at]; exact h4 j (by omega)⟩⟩
end Go.Proofs.YtpodmgihlomglaaGreatDoor
