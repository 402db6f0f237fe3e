/- The law CodecMany of layer 14 holds for every input: it returns true, and each argument reads as it read before. The package variables of Go's library that its row lists start as the program's text lays them. -/
import Derived.Test.YthmfgidbcghnfaaGreatDoorQ49
import Derived.Test.YthmfgidbcghnfaaGreatDoorQ2
import Derived.Test.YthmfgidbcghnfaaGreatDoorQ41
import Derived.Test.YthmfgidbcghnfaaGreatDoorQ54
import Derived.Test.YthmfgidbcghnfaaGreatDoorCards
import Derived.Test.YthmfgidbcghnfaaGreatDoorTie
namespace Go.Proofs.YthmfgidbcghnfaaGreatDoor.codecMany
open Go.ChangeShapes Go.WideShapes Go.ChangeAt Go.RowKit
open Go.ChangeMaps (open_string)

set_option maxRecDepth 100000 in
theorem lifted (os : Os) (started : os.Started) (H : Type) (enc : TypeId × Value → H) :
    ReturnsInHanded {} Tryz.checked os 12 .any (fun w args => (Rows.codecManySpec.pre enc Tryz.prog Tryz.f12 [] false w args ∧ laidMetH Tryz.prog Rows.codecManyRow.laid w) ∧ sizedMet enc Tryz.prog Tryz.f12 (OpenSpec.ofChange Rows.codecManySpec) false w args)
      (Rows.codecManySpec.post enc Tryz.prog Tryz.f12 false true false false) := by
  refine returnsInHanded_of_change_and (C := Tryz.checked) (X := fun w _ => laidMetH Tryz.prog Rows.codecManyRow.laid w) (fun _ _ _ hh h => h.of_heap hh) own started (by kernel_rfl) Tryz.func12
    (ChangeSpec.witness_shaped (enc := enc) (C := Tryz.checked) (os := os) (X := fun w _ => laidMetH Tryz.prog Rows.codecManyRow.laid w) false (laidWH os) #[.agg #[.int .u64 0, .int .i64 0], .int .i64 0] 8 (laidWH_os os)
      (World.shaped_of_ZipB (by kernel_rfl) (by kernel_rfl)) (by kernel_rfl) (by kernel_rfl) (by kernel_rfl)
      (laidWH_met os _)) ?_
  intro W base args ds gs before hval0 hW _ _ hL _
  have hval : ∀ (j : Nat) t v, Tryz.f12.params[j]? = some t → args[j]? = some v → Value.okWide Tryz.prog W .any base t v := hval0
  have hW' := hW
  obtain ⟨p, q, hA0, hV, rfl, _, _⟩ := hW
  have hA : DataW.TrodAll enc Tryz.prog W 0 (fun _ => true) true Tryz.f12.params.toList args.toList ds p := hA0
  rw [Tryz.params12] at hA hval
  obtain ⟨v0, vs0, d0, ds0, p0, q0, hargs, rfl, rfl, h0, r0⟩ := trodAll_cons hA
  obtain ⟨v1, vs1, d1, ds1, p1, q1, rfl, rfl, rfl, h1, r1⟩ := trodAll_cons r0
  obtain ⟨rfl, rfl, rfl⟩ := trodAll_nil r1
  obtain rfl : args = #[v0, v1] := by cases args; simp_all
  obtain ⟨rfl, rfl⟩ := trodVars_none hV
  obtain ⟨a0, b0, rfl, w0⟩ := conf_open (hval 0 24 v0 rfl rfl) h0
  obtain ⟨a1, rfl, rfl, rfl, w1⟩ := open_int Tryz.underlying3 (hval 1 3 v1 rfl rfl) h1
  clear hA0 hval0
  refine (codecMany_walk a0 b0 a1 w0 w1 W  (t14_of_laid hL)).mono fun e W' ⟨he, hb⟩ => ?_
  subst he
  exact ⟨_, rfl, law_post (T := 4) laid_out (by kernel_rfl) rfl rfl (by kernel_rfl) Tryz.underlying4 hW' hb⟩

theorem j_in : (Rows.codecManyRow.inPlace == Tryz.prog.inPlace 12) = true := by kernel_rfl
theorem j_un : (Rows.codecManyRow.unfollowed == Tryz.prog.unfollowed 12) = true := by kernel_rfl
theorem j_re : (Rows.codecManyRow.recurses == Tryz.prog.recurses 12) = true := by kernel_rfl
theorem j_na : (Rows.codecManyRow.named == Tryz.prog.varsNamed 12) = true := by kernel_rfl
theorem j_go : false = Rows.codecManyRow.goesBy Tryz.prog := by kernel_rfl
theorem joined : joinedFacts Tryz.prog 12 Tryz.f12 Rows.codecManySpec Rows.codecManyRow = true := by
  unfold joinedFacts
  exact (and14 (and14 (and14 (and14 (and14 (and14 (and14 (and14 (and14 (and14 (and14 (and14 (and14 (and14 (and14 (and14 (and14 (and14 (and14 (and14 (and14 (and14 (and14 (and14 (and14 (and14 (and14 (and14 (and14 (and14 (and14 (by kernel_rfl) f14_laid) f14_rowed) (by kernel_rfl)) (by kernel_rfl)) (by kernel_rfl)) (by kernel_rfl)) (by kernel_rfl)) (by kernel_rfl)) j_in) j_un) j_re) j_na) (by kernel_rfl)) (by kernel_rfl)) (by kernel_rfl)) (by kernel_rfl)) (by kernel_rfl)) (by kernel_rfl)) (by kernel_rfl)) (by kernel_rfl)) (by kernel_rfl)) f14_plain) (by kernel_rfl)) f14_heard) f14_enter) f14_lifted) f14_make) (by kernel_rfl)) (by kernel_rfl)) (by kernel_rfl)) (by kernel_rfl))
theorem said : Rows.CodecManySaid :=
  OpenClaim.holds_of_wide 12 Tryz.f12 rfl rfl rfl rfl rfl rfl rfl ⟨rfl, rfl, rfl, rfl, rfl⟩ rfl rfl rfl rfl rfl (by kernel_rfl) Tryz.func12 joined
    (of_decide_eq_true (by kernel_rfl)) (by unfold Func.isWrapper; first | (rw [if_pos (by decide +kernel)]; kernel_rfl) | (rw [if_neg (by decide +kernel)]; exact ⟨rfl, rfl⟩))
    (fun os started H enc _ => lifted os started H enc)

theorem proved : Rows.CodecManyCardSaid :=
  Claim7.holds_tied_plain_at .later [] [.data, .data, .data, .handle, .data, .data] true _ true
    said (fun _ h => by cases h) (by kernel_rfl) (fun _ h => by cases h) codecMany_row_tie rfl ⟨rfl, rfl⟩ f14_main rfl
    (fun f fn hf hfn => by
      obtain rfl : f = 12 := Option.some.inj ((show Tryz.prog.funcNamed Rows.codecManyRow.func = some 12 by kernel_rfl).symm.trans hf) |>.symm
      obtain rfl : fn = Tryz.f12 := (Option.some.inj (Tryz.func12.symm.trans hfn)).symm
      exact ⟨f14_looks, fun j t ht => by
        rw [Tryz.params12] at ht
        have hm : t ∈ [24, 3] := by simpa using Array.mem_of_getElem? ht
        have hall : ([24, 3].all fun u => !Tryz.prog.wantsStandIn u) = true := by kernel_rfl
        exact (show Tryz.prog.wantsStandIn t = false by simpa using List.all_eq_true.1 hall t hm)⟩)
    j_go
end Go.Proofs.YthmfgidbcghnfaaGreatDoor.codecMany
