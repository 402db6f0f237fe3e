import Derived.Deep.MidRow
import Derived.Deep.RegionHeld
import Derived.Laws.Rows
import Derived.Laws.ShiftsVarLaws
import Derived.Lib.Hide
import Derived.Lib.MinMax
import Derived.Outline
import Derived.Test.YtengibnpebfblaaGreatDoorChecked
import Derived.WalkKit
import Derived.WalkSpells
import Derived.Below
import Derived.Deep.Cut
import Derived.Deep.Draws
import Derived.Deep.OwnRows
import Derived.Deep.WholeRow
import Derived.Laws.CopyOwn
import Derived.Laws.CopyRow
import Derived.Laws.OwnMore
import Derived.Laws.Tables
import Derived.Lib.FrozenHead2
import Derived.Lib.OthersKept
import Derived.OrdersIn
import Derived.OwnWalkIn
import Derived.RangeFuncBox
import Derived.RangeFuncCalls
import Derived.RangeFuncLeaves
import Derived.RangeFuncNested
import Derived.Great.BuildSlice
import Derived.Laws.IdiomCopy
import Derived.Laws.MakeOwn
import Derived.BigQuiet
import Derived.Deep.QuietTactic
import Derived.Ground.Names2Prog
import Derived.Ground.SlsfProg
import Derived.Ground.SlsgProg
import Derived.Handy
import Derived.KernelRfl
import Derived.Lib.AppendZerosOnto
import Derived.LoopIn
import Derived.LoopNIn
import Derived.RangeFuncBound
import Derived.Shelf.Abstract
import Derived.Shelf.RegionOpen
import Derived.Shelf.SlCmpFuncs.BinarySearchFunc
import Derived.Shelf.SlCmpFuncs.None
import Derived.Shelf.SlGeneric
import Derived.Shelf.SlSortCmp.Insertion
import Derived.Shelf.SlSortCmp.Insertion1
import Derived.Shelf.SlSortCmp.NoneTotal
import Derived.Shelf.Slices.Cells
import Derived.Shelf.Slices.Clone
import Derived.Shelf.Slices.CompactS
import Derived.Shelf.Slices.In.SortNone
import Derived.Shelf.Small.Bits
import Derived.Shelf.Small.Strs
import Derived.Shelf.Sort.Plain
import Derived.Shelf.Strconv.Itoa0
import Derived.TacticsInMore
import Derived.Test.YtengibnpebfblaaGreatDoorProg
import Derived.Laws.BitsLemmas
import Derived.Lib.EndianBits
import Derived.Lib.TrailingZeros
import Derived.LoopTactic
import Derived.WalkLawsBesides
import Derived.Deep.RegionWith
import Derived.Lib.ItoaLen
import Derived.Lib.Tables
import Derived.Deep.RegionHeld3
import Derived.Laws.StructEq
import Derived.Lib.ItoaNum
import Derived.Lib.OwnBridge
import Derived.Lib.RowBridge
import Derived.OwnWalk
import Derived.Sort.Grow
import Derived.Sort.OwnSorted
import Derived.ChangeSlices
import Derived.LaidMore
import Derived.Lay
import Derived.Lib.LaidTab
import Derived.OpenShut
import Derived.ProofKit
import Derived.SevenTiedAt
import Derived.Stop.Joined
import Derived.Stop.LaidErr
import Derived.Test.YtengibnpebfblaaGreatDoorRows
import Derived.WideKeyPair
import Derived.Deep.Slices
import Derived.Lib.SmallJoins
import Derived.Sort.LotA
set_option maxRecDepth 1000000
set_option maxHeartbeats 8000000
set_option linter.unusedSimpArgs false
namespace Go.Proofs
open Go.RowKit Go.Shelf Go.Lib Go.Sort Go.ChangeShapes Go.WideShapes Go.ChangeAt
theorem hO{p:Prop}(h:p:=by kernel_rfl):p:=h
theorem uAu{p:Prop}(h:p:=by omega):p:=h
theorem uAv{p:Prop}(h:p:=by decide):p:=h
theorem uAw{p:Prop}(h:p:=by exact HKS.out _ HW.out):p:=h
theorem uAx{p:Prop}(h:p:=by assumption):p:=h
theorem uAy{p:Prop}(h:p:=by simp[Value.oneCell']):p:=h
theorem uAz{p:Prop}(h:p:=by rfl):p:=h
theorem uBu{p:Prop}(h:p:=by simp):p:=h
theorem uBv{p:Prop}(h:p:=by have h1:=HBS.out;have h2:=HW.out.size;omega):p:=h
theorem uBw{p:Prop}(h:p:=by have:=HS2.out;omega):p:=h
theorem uBx{p:Prop}(h:p:=by have:=HS1.out;omega):p:=h
theorem uBy{p:Prop}(h:p:=by exact HW.out):p:=h
theorem uBz{p:Prop}(h:p:=by have:=HN0.out;have h2:=HW.out.size;omega):p:=h
theorem uCu{p:Prop}(h:p:=by exact⟨HCF.out _ HW.out,HD.out⟩):p:=h
theorem uCv{p:Prop}(h:p:=by first|exact⟨HXV.out,HVV.out⟩|exact⟨HX2.out,HV2.out⟩|exact⟨HX1.out,HV1.out⟩):p:=h
theorem uCw{p:Prop}(h:p:=by unfold maxLen;omega):p:=h
theorem uCx{p:Prop}(h:p:=by have:=HS3.out;have:=HXX.out;omega):p:=h
theorem uCy{p:Prop}(h:p:=by exact bO):p:=h
theorem uCz{p:Prop}(h:p:=by have:=HPN.out;simp;omega):p:=h
theorem uDu{p:Prop}(h:p:=by rw[hW3];exact(pY _ _ _ _ (by show Bs≠W.heap.size+1;have:=hW.size;omega)).trans hx2):p:=h
theorem uDv{p:Prop}(h:p:=by simp;omega):p:=h
theorem uDw{p:Prop}(h:p:=by simpa using h):p:=h
theorem uDx{p:Prop}(h:p:=by simpa using hj):p:=h
theorem uDy{p:Prop}(h:p:=by first|exact HK2.out|exact HK3.out|exact HK4.out|exact HK5.out):p:=h
theorem uDz{p:Prop}(h:p:=by first|exact HK3.out|exact HK4.out|exact HK5.out|exact HK6.out):p:=h
theorem uEu{p:Prop}(h:p:=by rw[h]at hr;cases hr):p:=h
theorem uEv{p:Prop}(h:p:=by show _<=_;have:=hb.size;have:=HS1.out;omega):p:=h
theorem uEw{p:Prop}(h:p:=by show Bs≠W.heap.size+1;have:=hW.size;omega):p:=h
theorem uEx{p:Prop}(h:p:=by show _=_;rw[hw6];exact((Below.newly' w3 _).block (W.heap.size+1) (by have:=HS3.out;omega)).trans HV3.out):p:=h
theorem uEy{p:Prop}(h:p:=by show _=_;rw[hw6];exact((Below.newly' w3 _).block (W.heap.size+2) (by have:=HS3.out;omega)).trans HY3.out):p:=h
theorem uEz{p:Prop}(h:p:=by rw[HS.out];exact eL):p:=h
theorem uFu{p:Prop}(h:p:=by have:=HSL.out;have:=HSL4.out;have:=HXX.out;omega):p:=h
theorem uFv{p:Prop}(h:p:=by show _=_;rw[hw6];exact((Below.newly' w3 _).block W.heap.size (by have:=HS3.out;omega)).trans HX3.out):p:=h
theorem uFw{p:Prop}(h:p:=by have:=HS3.out;omega):p:=h
theorem uFx{p:Prop}(h:p:=by first|exact HKS.out _ HW.out|exact⟨HX4.out,aK HX4.out rfl⟩):p:=h
theorem uFy{p:Prop}(h:p:=by exact HK9.out _ HW.out):p:=h
theorem uFz{p:Prop}(h:p:=by exact aR):p:=h
theorem uGu{p:Prop}(h:p:=by show Below _ _ _;rw[hw6];exact HB3.out.trans ((Below.newly' w3 _).mono HB3.out.size)):p:=h
theorem uGv{p:Prop}(h:p:=by rw[eY];omega):p:=h
theorem uGw{p:Prop}(h:p:=by show _<=_;have:=HS2.out;omega):p:=h
theorem uGx{p:Prop}(h:p:=by cases v.ownBlock<;>simp):p:=h
theorem uGy{p:Prop}(h:p:=by have h1:=HS2.out;have h2:=hb3.size;show _<=_;omega):p:=h
theorem uGz{p:Prop}(h:p:=by show _<=_;have:=HN0.out;have h2:=HW.out.size;omega):p:=h
theorem uHu{p:Prop}(h:p:=by have h1:=(gZ HX1.out);have h2:=HB2.out.size;omega):p:=h
theorem uHv{p:Prop}(h:p:=by have h1:=HBS.out;have h2:=HW.out.size;simp;omega):p:=h
theorem uHw{p:Prop}(h:p:=by cases d<;>simp_all[TypeDesc.isRow]):p:=h
theorem uHx{p:Prop}(h:p:=by have:=HSV.out;have:=HXX.out;omega):p:=h
theorem uHy{p:Prop}(h:p:=by rw[HT.out.2.1,<-HQ1.out];exact((HC1.out.later HBW.out).later hb3).all):p:=h
theorem uHz{p:Prop}(h:p:=by simp[Fence.wide]):p:=h
theorem uIu{p:Prop}(h:p:=by rw[aH];have:=HRN.out;have:=HN.out;have:=HNN.out;unfold kI at*;omega):p:=h
theorem uIv{p:Prop}(h:p:=by have:=HLN.out;omega):p:=h
theorem uIw{p:Prop}(h:p:=by have:=HYL.out;omega):p:=h
theorem uIx{p:Prop}(h:p:=by have:=HNL.out;omega):p:=h
theorem uIz{p:Prop}(h:p:=by exact HKS.out _ HW5.out):p:=h
theorem uJu{p:Prop}(h:p:=by exact HKT5.out _ HW.out):p:=h
theorem uJv{p:Prop}(h:p:=by rw[dL,h2];exact aDx (by omega) (by omega)):p:=h
theorem uJw{p:Prop}(h:p:=by show _=_;rw[HM1.out];exact h2):p:=h
theorem uJx{p:Prop}(h:p:=by have h:=HRL.out;intro e;have:=aN e;omega):p:=h
theorem uJy{p:Prop}(h:p:=by first|exact HK1.out|exact⟨aK HX6.out rfl,HG6.out,HL6.out.cell⟩):p:=h
theorem uJz{p:Prop}(h:p:=by simpa using hr):p:=h
theorem uKv{p:Prop}(h:p:=by exact eG):p:=h
theorem uKw{p:Prop}(h:p:=by have:=HBL.out;intro e;have:=aN e;omega):p:=h
theorem uKx{p:Prop}(h:p:=by rw[<-Array.getElem?_toList];exact hu):p:=h
theorem uKy{p:Prop}(h:p:=by have:=HLE.out;omega):p:=h
theorem uKz{p:Prop}(h:p:=by rw[h2];omega):p:=h
theorem uLu{p:Prop}(h:p:=by rw[hka];exact aG ha.kB (by decide)):p:=h
theorem uLv{p:Prop}(h:p:=by rw[List.getElem?_map,List.getElem?_eq_getElem hj];rfl):p:=h
theorem uLw{p:Prop}(h:p:=by have:=HLE.out;unfold maxLen;omega):p:=h
theorem uLx{p:Prop}(h:p:=by rw[eJ,eJ]at h;exact nA (mD.1 h)):p:=h
theorem uLy{p:Prop}(h:p:=by rw[HI.out.2.2.2];omega):p:=h
theorem uLz{p:Prop}(h:p:=by rw[HKL.out.2.2.2,HKL.out.1,<-HKL.out.2.2.1];omega):p:=h
theorem uMu{p:Prop}(h:p:=by exact eF):p:=h
theorem uMv{p:Prop}(h:p:=by rw[HZ.out.2];exact fV):p:=h
theorem uMw{p:Prop}(h:p:=by simp;intro e;rw[e]at h';exact absurd h' (mV _)):p:=h
theorem uMz{p:Prop}(h:p:=by have:=HSW.out;omega):p:=h
theorem uNu{p:Prop}(h:p:=by rw[HS.out];exact dY):p:=h
theorem uNv{p:Prop}(h:p:=by have:=HSV.out;omega):p:=h
theorem uNw{p:Prop}(h:p:=by have:=HNX.out;omega):p:=h
theorem uNx{p:Prop}(h:p:=by simpa using h0):p:=h
theorem uNy{p:Prop}(h:p:=by simpa using hu):p:=h
theorem uNz{p:Prop}(h:p:=by simpa using hl):p:=h
theorem uOu{p:Prop}(h:p:=by have:=HS3.out;show _<=_;rw[hw6];simp;omega):p:=h
theorem uOv{p:Prop}(h:p:=by simp only[fH];simp[HT.out]):p:=h
theorem uOx{p:Prop}(h:p:=by have h1:=HBS.out;have h2:=hbz.size;omega):p:=h
theorem uOy{p:Prop}(h:p:=by rw[<-HKL.out.2.2.1];omega):p:=h
theorem uPw{p:Prop}(h:p:=by have:0<p:=(by rw[hp];exact mW j);omega):p:=h
theorem uPx{p:Prop}(h:p:=by first|exact(hVd▸HXv.out)|exact HX6.out):p:=h
theorem uPy{p:Prop}(h:p:=by have:=HLN.out;simp at this ⊢;try omega):p:=h
theorem uPz{p:Prop}(h:p:=by rw[aH];omega):p:=h
theorem uQu{p:Prop}(h:p:=by cases h):p:=h
theorem uQw{p:Prop}(h:p:=by have:=(gZ HD.out);omega):p:=h
theorem uRu{p:Prop}(h:p:=by simp[hk]):p:=h
theorem uRx{p:Prop}(h:p:=by simpa using h3):p:=h
theorem uRz{p:Prop}(h:p:=by simpa using h2):p:=h
theorem uSu{p:Prop}(h:p:=by simpa using hp):p:=h
theorem uSv{p:Prop}(h:p:=by rw[<-hl];omega):p:=h
theorem uSz{p:Prop}(h:p:=by have:=HXX.out;omega):p:=h
theorem uTv{p:Prop}(h:p:=by have:=HN.out;omega):p:=h
theorem uTz{p:Prop}(h:p:=by rintro⟨h,_⟩;omega):p:=h
theorem uUu{p:Prop}(h:p:=by exact iI):p:=h
abbrev aA:=@List.setIfInBounds_toArray
abbrev aB:=@List.set_cons_zero
abbrev aC:=@List.set_cons_succ
abbrev aD:=@List.length_append
abbrev aE:=@Nat.le_refl
abbrev aF:=@heap_alloc_last
abbrev aG:=@Nat.le_trans
abbrev aH:=@List.length_map
abbrev aJ:=@Lib.hid
abbrev aL:=@List.length_cons
abbrev aM:=@World.block_lt_of_cell?
abbrev aN:=@Option.some.inj
abbrev aO:=@List.getElem_mem
abbrev aQ:=@Nat.zero_le
abbrev aS:=@List.take_succ_eq_append_getElem
abbrev aT:=@List.eq_nil_of_length_eq_zero
abbrev aU:=@List.mem_cons_of_mem
abbrev aV:=@List.length_take
abbrev aW:=@List.mem_cons_self
abbrev aY:=@Below.refl
abbrev aZ:=@List.take_of_length_le
abbrev bA:=@List.mem_cons
abbrev bB:=@Array.length_toList
abbrev bC:=@List.cons_append
abbrev bD:=@List.nil_append
abbrev bF:=@bodyPost_ret
abbrev bG:=@List.length_nil
abbrev bH:=@congrArg
abbrev bI:=@Bool.and_eq_true_iff
abbrev bJ:=@beq_eq_false_iff_ne
abbrev bM:=@List.length_singleton
abbrev bN:=@List.append_assoc
abbrev bQ:=@List.map_append
abbrev bS:=@List.length_drop
abbrev bW:=@Array.replicate_zero
abbrev bY:=@Array.replicate_succ
abbrev cA:=@List.size_toArray
abbrev cB:=@List.mem_singleton
abbrev cC:=@Option.some.injEq
abbrev cD:=@List.append_toArray
abbrev cE:=@results_cell_row
abbrev cF:=@World.putObj_heap_other
abbrev cG:=@List.map_cons
abbrev cH:=@List.mem_map
abbrev cM:=@List.push_toArray
abbrev cN:=@List.flatMap_cons
abbrev cO:=@Array.all_eq_true_iff_forall_mem
abbrev cP:=@List.mem_append
abbrev cQ:=@Nat.lt_of_lt_of_le
abbrev cR:=@List.pairwise_cons
abbrev cS:=@Result.andThen_ok
abbrev cW:=@wpList_plain
abbrev cY:=@callsIn_wide
abbrev cZ:=@Nat.lt_or_ge
abbrev dA:=@wpList_load_mid
abbrev dD:=@Nat.not_lt_zero
abbrev dE:=@Nat.mul_le_mul_right
abbrev dH:=@List.getElem_append_right
abbrev dI:=@List.mem_of_mem_take
abbrev dK:=@List.getElem_append_left
abbrev dL:=@Nat.zero_add
abbrev dN:=@List.length_zip
abbrev dQ:=@List.filter_cons_of_neg
abbrev dR:=@Value.slice.injEq
abbrev dU:=@Obj.cells.injEq
abbrev dV:=@info_parts
abbrev dZ:=@List.drop_eq_getElem_cons
abbrev eB:=@List.take_zero
abbrev eD:=@List.drop_of_length_le
abbrev eE:=@grownBy_setCell'
abbrev eH:=@List.cons.injEq
abbrev eI:=@List.filter_cons_of_pos
abbrev eJ:=@ByteArray.toList_eq
abbrev eK:=@List.pairwise_iff_getElem
abbrev eM:=@grownBy_putObj'
abbrev eN:=@List.take_length
abbrev eW:=@callsIn_of_wp_marks
abbrev eX:=@List.takeWhile_cons
abbrev fA:=@decide_eq_false
abbrev fB:=@Bool.and_eq_true
abbrev fE:=@Decidable.byContradiction
abbrev fF:=@Sem.run_bind
abbrev fK:=@Oper.semAt_some
abbrev fL:=@List.mem_range
abbrev fO:=@List.all_eq_true
abbrev fP:=@List.take_succ_cons
abbrev fR:=@Sem.run_pure
abbrev fY:=@List.mem_of_getElem?
abbrev gA:=@Nat.min_eq_left
abbrev gD:=@Option.map_eq_some_iff
abbrev gE:=@IntKind.wrap_i64
abbrev gF:=@List.flatMap_append
abbrev gH:=@wpIn_wide
abbrev gK:=@Array.mk.injEq
abbrev gN:=@List.foldl_cons
abbrev gP:=@Nat.eq_zero_or_pos
abbrev gW:=@Nat.add_mul
abbrev gX:=@List.not_mem_nil
abbrev gY:=@List.mem_of_mem_drop
abbrev iA:=@List.map_toArray
abbrev iB:=@IntKind.wrap_u64
abbrev iF:=@callsIn_of_wp
abbrev iG:=@List.lt_trans
abbrev iJ:=@decide_eq_true_eq
abbrev iK:=@List.pairwise_map
abbrev iL:=@List.map_nil
abbrev iM:=@Bool.eq_false_iff
abbrev iN:=@Act.put_comm
abbrev iT:=@List.mem_filter
abbrev jB:=@List.take_append_drop
abbrev jC:=@run_takeDeferred
abbrev jD:=@Nat.lt_of_le_of_lt
abbrev jJ:=@Prod.mk.injEq
abbrev jS:=@decide_eq_false_iff_not
abbrev jT:=@ready_mono
abbrev jX:=@List.map_congr_left
abbrev jZ:=@Nat.le_of_eq
abbrev kA:=@Nat.add_zero
abbrev kC:=@List.map_map
abbrev kL:=@beq_iff_eq
abbrev kM:=@World.ownsRowF_nil
abbrev kQ:=@List.filterMap_append
abbrev kR:=@List.cons_lt_cons_iff
abbrev kZ:=@run_storeCells_at
abbrev lA:=@Region.noSelect_spec
abbrev lB:=@List.mem_iff_getElem
abbrev lC:=@Int.toNat_natCast
abbrev lE:=@List.cons.inj
abbrev lF:=@Bool.true_and
abbrev lV:=@List.filterMap_cons
abbrev lW:=@Calls.quiet_of_same
abbrev lX:=@enters_of
abbrev lY:=@decide_eq_true
abbrev lZ:=@Nat.zero_lt_succ
abbrev mA:=@Nat.add_sub_cancel_left
abbrev mB:=@List.take_left
abbrev mC:=@List.perm_middle
abbrev mD:=@Array.toList_inj
abbrev mK:=@setRow_heap
abbrev mL:=@List.take_append_of_le_length
abbrev mO:=@decide_eq_true_iff
abbrev mP:=@Nat.mod_lt
abbrev mQ:=@Nat.le_of_lt
abbrev mR:=@List.filter_eq_nil_iff
abbrev mV:=@UInt8.lt_irrefl
abbrev mW:=@Nat.two_pow_pos
abbrev mX:=@List.append_nil
abbrev mZ:=@Value.agg.inj
abbrev nA:=@ByteArray.ext
abbrev nB:=@Addr.mk.injEq
abbrev nM:=@World.ownsRowF_of
abbrev nN:=@List.getElem_drop
abbrev nO:=@List.foldl_append
abbrev nP:=@List.Pairwise.imp
abbrev nS:=@size_madeCells
abbrev nT:=@Nat.mul_one
abbrev nU:=@List.mem_append_left
abbrev oM:=@Region.free_spec
abbrev oN:=@Nat.succ_lt_succ
abbrev pJ:=@Option.isSome_iff_exists
abbrev pK:=@List.map_drop
abbrev pL:=@Array.setIfInBounds_comm
abbrev pR:=@Bool.or_eq_true
abbrev pY:=@heap_setCell_other
abbrev pZ:=@bne_iff_ne
abbrev qA:=@List.zip_cons_cons
abbrev qB:=@List.map_singleton
abbrev qU:=@getD_set_ne
abbrev rF:=@run_underlying
abbrev rG:=@run_convert_bytes_back
abbrev rH:=@results_none
abbrev rI:=@World.ownsRow_nil
abbrev rJ:=@Nat.lt_of_succ_lt_succ
abbrev rK:=@List.getElem_take
abbrev rL:=@List.flatten_cons
abbrev rM:=@List.drop_zero
abbrev rN:=@DataW.trod_int
abbrev rS:=@List.takeWhile_append_dropWhile
abbrev sY:=@UInt8.lt_iff_toNat_lt
abbrev sZ:=@mem_ready
abbrev tA:=@beq_self_eq_true
abbrev tB:=@Option.getD_some
abbrev tC:=@List.take_prefix
abbrev tD:=@List.getElem_map
abbrev tE:=@List.filter_cons
abbrev tZ:=@Nat.add_assoc
abbrev uA:=@List.map_take
abbrev uC:=@Nat.pow_lt_pow_right
abbrev uD:=@Nat.pow_le_pow_right
abbrev uE:=@UInt8.toNat_inj
abbrev uF:=@Nat.div_le_self
abbrev uG:=@List.prefix_append_right_inj
abbrev uH:=@List.of_mem_zip
abbrev vE:=@List.toList_toArray
abbrev vF:=@List.dropWhile_cons
abbrev vX:=@Nat.two_pow_add_eq_or_of_lt
abbrev vY:=@Nat.testBit_two_pow_sub_one
abbrev vZ:=@Decidable.em
abbrev wV:=@or_false
abbrev wW:=@Nat.mul_le_mul
abbrev wX:=@List.nodup_nil
abbrev wY:=@List.drop_left
abbrev xX:=@List.getLastD_eq_getLast?
abbrev xY:=@Lib.run_append_grow_zeros
abbrev zQ:=@Prod.mk.inj
abbrev zR:=@Nat.le_succ
abbrev zS:=@Array.size_setIfInBounds
abbrev aAz:=@true_and
abbrev aAA:=@and_true
abbrev aAB:=@Option.bind_some
abbrev aAC:=@Nat.testBit_mul_two_pow
abbrev aAD:=@List.length_eq_zero_iff
abbrev aAE:=@List.getLast_eq_getElem
abbrev aAF:=@List.getElem_zip
abbrev aAG:=@List.ext_getElem
abbrev aAH:=@List.drop_length
abbrev aAI:=@List.drop_append
abbrev aB0:=@Nat.sub_self
abbrev aB1:=@Nat.pow_succ
abbrev aB2:=@Nat.add_comm
abbrev aB3:=@List.getElem_cons_succ
abbrev aCj:=@run_append_ownF
abbrev aCk:=@Oper.semAt_none
abbrev aCl:=@Nat.testBit_and
abbrev aCm:=@List.range_succ
abbrev aCn:=@List.singleton_append
abbrev aDu:=@wp_loop_rounds
abbrev aDv:=@wpListIn_plain
abbrev aDw:=@size_zeroCells
abbrev aDx:=@growslice_fits
abbrev aDy:=@Array.getElem_toList
abbrev aED:=@boxed_own
abbrev aEE:=@run_firstCells_none
abbrev aEF:=@Nat.testBit_two_pow
abbrev aEG:=@Nat.mul_le_mul_left
abbrev aEH:=@List.mem_map_of_mem
abbrev aEI:=@List.filter_eq_self
abbrev aGm:=@run_loadCells_list
abbrev aGn:=@grownCap_le_maxLen
abbrev aGo:=@execOp_put
abbrev aGp:=@List.map_filterMap
abbrev aGq:=@List.filter_filter
abbrev aGr:=@List.filter_append
abbrev aGs:=@Go.Deep.open_slice
abbrev aIc:=@World.ownsRow_lit
abbrev aId:=@List.length_filter_eq_length_iff
abbrev aIe:=@DataW.trod_string
abbrev aIf:=@Array.getElem_mem
abbrev aIg:=@Array.any_eq_true
abbrev aJA:=@List.replicate_append_replicate
abbrev aJB:=@wpOp_step
abbrev aJC:=@wpOp_mono
abbrev aJD:=@decide_eq_decide
abbrev aJE:=@List.mem_flatMap
abbrev aJF:=@List.le_antisymm
abbrev aJG:=@IntKind.wrap_u32
abbrev aJH:=@Int.natCast_ediv
theorem Aa0{p:Prop}(h:p:=by
 have hk2:=HK2.out;have HCK1:=iH (HCK.out _ hb0);go_upto_region 5 with(first
  |(refine cW rfl fun _ hK=>jN 25 9 _ _ rfl (by_:=16) (z:=.string ⟨#[]⟩) rfl HER0.out rfl HCK1.out HP1.out aD3 Tryz.underlying25 uK rfl uAv uCz uAv ?_;intro v1 w2 hr hg;refine hK _ _ ?_;have HKR1:=iH hr;have HW2:=iH (hb0.trans (HER0.out.below' hg (aE _) uHv));clear hr hg hK)
  |(refine cW rfl fun _ hK=>jN 25 9 _ _ rfl (by_:=16) (z:=.string ⟨#[]⟩) rfl (HKR1.out.later (Below.newly' w2 (.cells #[.string k] 9))) rfl (aG2 (aF w2 (.cells #[.string k] 9))) aHF aFq Tryz.underlying25 uK rfl uAv uCz uAv ?_;intro v2 w3 hr hg;refine hK _ _ ?_;have HKR:=iH hr;have HW3:Hid (Below (w.heap.size+1) w1 w3):=(HW2.out.trans ((Below.newly' w2 (.cells #[.string k] 9)).mono (by have h1:=HBS.out;have h2:=HW2.out.size;omega))).trans ((HKR1.out.later (Below.newly' w2 (.cells #[.string k] 9))).below' hg (aE _) (by have h1:=HBS.out;have h2:=HW2.out.size;simp;omega));clear hr hg hK))
 clear hk2 hb0;replace HW:=HW3;clear HW3 HW2 HKR1 HCK1 HER0;obtain⟨wg,hwg⟩:∃wg,wg=w3.drew:=⟨_,rfl⟩;have hdr:Below w3.heap.size w3 wg:=by rw[hwg];exact bE w3
 replace HKR:=iH (HKR.out.later hdr);replace HW:=iH (HW.out.trans (hdr.mono uBv));have HWG:=iH hwg;clear hdr hwg;have hsl2:=HI2.out;apply aNB (Q:=fun(W:World) (v4:Value) (lx:Nat) (v7:Value) (_:Nat)=>dC (w.heap.size+1) 28 5 v7 (([]++css.take p)++[(trC xk xn xt (.slice xa xl xq) (.slice xd xm xe))]) W/\dC (w.heap.size+1) 9 1 v2 (([]++(K.take p).map fun y=>(#[.string y]:Array Value))++[#[.string k]]) W/\Below (w.heap.size+1) w1 W)
 case main=>
  intro REST;refine bL (S:=(fun V=>V.heap[w.heap.size]? =some (.cells (trC xk xn xt (.slice xa xl xq) (.slice xd xm xe)) 28 (0,0)))) [7,8] hO (by rw[<-HWG.out];exact HKS.out _ HW.out) (fun hHeld=> ?_);rw[<-HWG.out]at hHeld ⊢;refine tkL 1 37 (h:=?_);refine tkL 2 38 (h:=?_);(try simp only[pq]);refine tkL 3 39 (h:=?_);refine tyL 5 41 (hy:=aP uAz 28 _ rfl w.heap.size rfl (trC xk xn xt (.slice xa xl xq) (.slice xd xm xe)) 28 (0,0) _ (fun w hw=>hw) Tryz.underlying28 rfl uMu) (h:=?_);(try simp only[pq]);refine kN (rs:=[0,6]) hO uBu (mY.cons (o:=⟨some 36,_,_,_,_,_⟩) rfl (fun K hK=> ?_) (mY.cons (o:=⟨some 42,_,_,_,_,_⟩) rfl (fun K hK=> ?_) mY.nil))
  ·go_simp
   have hbz:=Below.newly' wg (.cells #[] 28);have hz9:=aF wg (.cells #[] 28);have hw9:=HW.out.size;obtain⟨E,hE⟩:∃E,E=wg.heap.size:=⟨_,rfl⟩
   obtain⟨w0,hw0⟩:∃w0,w0=wg.alloc (.cells #[] 28):=⟨_,rfl⟩
   rw[<-hw0,<-hE]at hz9;rw[<-hw0]at hbz ⊢;have HER:Hid (dC (w.heap.size+1) 28 5 (.slice (some ⟨E,0,none⟩) 0 0) [] w0):=lK (by have:=HBS.out;omega) uOx hz9;replace HKR:=iH (HKR.out.later hbz);have HEL:Hid (E<w0.heap.size):=(gZ hz9)
   replace HW:=iH (HW.out.trans (hbz.mono uBv));rw[<-hE];clear hbz hz9 hw9 hw0 hE;refine hK.out _ _ uAw (fun hHeld=> ?_);clear hK K;(try simp only[pq]);refine kN (rs:=[4,6]) hO uBu (mY.cons (o:=⟨some 40,_,_,_,_,_⟩) rfl (fun K hK=> ?_) (mY.cons (o:=⟨some 42,_,_,_,_,_⟩) rfl (fun K hK=> ?_) mY.nil))
   refine jN 26 28 _ _ rfl (by_:=80) (z:=.agg (trC 0 0 ⟨#[]⟩ (.slice none 0 0) (.slice none 0 0))) rfl HER.out rfl (HCI.out _ HW.out) HC5.out (aBx HC1.out) Tryz.underlying26 gQ rfl uAv uCz uAv ?_
   intro v4 w4 hr hg;have HTR4:=iH hr;replace HKR:=iH (HKR.out.apart3 HER.out hg uAv);replace HW:=iH (HW.out.trans (HER.out.below' hg (aE _) uBv));clear hr hg;refine hK.out _ _ uAw (fun hHeld=> ?_);clear hK K;(try simp only[pq]);refine tkO 6 (some 42) (h:=fun K hK=> ?_);refine sR 26 28 _ rfl (trC xk xn xt (.slice xa xl xq) (.slice xd xm xe)) 5 (.agg (trC 0 0 ⟨#[]⟩ (.slice none 0 0) (.slice none 0 0))) rfl rfl uAv uAv Tryz.underlying26 lH ?_;intro wl hl hbl hzl;obtain⟨lx,hlx⟩:∃lx,lx=w4.heap.size:=⟨_,rfl⟩
   rw[<-hlx]at hl ⊢;have HLX:=iH hl;replace HKR:=iH (HKR.out.later hbl);replace HTR4:=iH (HTR4.out.later hbl);replace HW:=iH (HW.out.trans (hbl.mono uBv));clear hl hbl hzl hlx
   rotate_left
   refine sR 26 28 _ rfl (trC xk xn xt (.slice xa xl xq) (.slice xd xm xe)) 5 (.agg (trC 0 0 ⟨#[]⟩ (.slice none 0 0) (.slice none 0 0))) rfl rfl uAv uAv Tryz.underlying26 lH ?_
   intro wl hl hbl hzl;obtain⟨lx,hlx⟩:∃lx,lx=w0.heap.size:=⟨_,rfl⟩
   rw[<-hlx]at hl ⊢;have HLX:=iH hl;replace HKR:=iH (HKR.out.later hbl);replace HER:=iH (HER.out.later hbl);have HLE:Hid (lx≠E):=by have:=HEL.out;show _≠_;omega
   replace HW:=iH (HW.out.trans (hbl.mono uBv));clear hl hbl hzl hlx;refine hK.out _ _ uAw (fun hHeld=> ?_);clear hK K;(try simp only[pq]);refine tkO 4 (some 40) (h:=fun K hK=> ?_);refine jN 26 28 _ _ rfl (by_:=80) (z:=.agg (trC 0 0 ⟨#[]⟩ (.slice none 0 0) (.slice none 0 0))) rfl HER.out rfl (HCI.out _ HW.out) HC5.out (aBx HC1.out) Tryz.underlying26 gQ rfl uAv uCz uAv ?_;intro v4 w4 hr hg;have HTR4:=iH hr;replace HLX:=iH ((hg.block _ (gZ HLX.out) (fun e=>HLE.out (aN e))).trans HLX.out);replace HKR:=iH (HKR.out.apart3 HER.out hg uAv);replace HW:=iH (HW.out.trans (HER.out.below' hg (aE _) uBv));clear hr hg
   all_goals
    refine hK.out _ _ uAw (fun hHeld=> ?_);clear hK K;(try simp only[pq]);refine tkU 7 (some 43) (h:=fun K hK=> ?_);refine jN 26 28 _ _ rfl (by_:=80) (z:=.agg (trC 0 0 ⟨#[]⟩ (.slice none 0 0) (.slice none 0 0))) rfl HTR4.out rfl (aC2 HLX.out rfl) (aBw rfl) (aBx fun c hc=>by rw[cB.1 hc];simp[Value.oneCell']) Tryz.underlying26 gQ rfl uAv uCz uAv ?_;intro v7 w7 hr hg;have HTR7:=iH hr;replace HKR:=iH (HKR.out.apart3 HTR4.out hg uAv);replace HW:=iH (HW.out.trans (HTR4.out.below' hg (aE _) uBv));clear hr hg;refine hK.out _ _ ?_;clear hK K;(try simp only[pq]);refine tkU 8 (some 12) (h:=fun K hK=> ?_);go_simp;refine hK.out _ _ ?_;clear hK K;(try simp only[pq]);refine bK hO ?_ _;clear hHeld;exact REST w7 v4 lx v7 E ⟨HTR7.out,HKR.out,HW.out⟩
  ·refine sR 26 28 _ rfl (trC xk xn xt (.slice xa xl xq) (.slice xd xm xe)) 5 (.agg (trC 0 0 ⟨#[]⟩ (.slice none 0 0) (.slice none 0 0))) rfl rfl uAv uAv Tryz.underlying26 lH ?_
   intro wl hl hbl hzl;obtain⟨lx,hlx⟩:∃lx,lx=wg.heap.size:=⟨_,rfl⟩
   rw[<-hlx]at hl ⊢;have HLX:=iH hl;replace HKR:=iH (HKR.out.later hbl);replace HW:=iH (HW.out.trans (hbl.mono uBv));clear hl hbl hzl hlx;refine hK.out _ _ uAw (fun hHeld=> ?_);clear hK K;(try simp only[pq]);refine tkO 0 (some 36) (h:=fun K hK=> ?_);go_simp;have hbz:=Below.newly' wl (.cells #[] 28);have hz9:=aF wl (.cells #[] 28);have hw9:=HW.out.size;obtain⟨E,hE⟩:∃E,E=wl.heap.size:=⟨_,rfl⟩
   obtain⟨w0,hw0⟩:∃w0,w0=wl.alloc (.cells #[] 28):=⟨_,rfl⟩
   rw[<-hw0,<-hE]at hz9;rw[<-hw0]at hbz ⊢;have HER:Hid (dC (w.heap.size+1) 28 5 (.slice (some ⟨E,0,none⟩) 0 0) [] w0):=lK (by have:=HBS.out;omega) uOx hz9;replace HKR:=iH (HKR.out.later hbz);have HLE:Hid (lx≠E):=by have h1:=(gZ HLX.out);show _≠_;omega
   replace HLX:=iH (kW hbz HLX.out);replace HW:=iH (HW.out.trans (hbz.mono uBv));rw[<-hE];clear hbz hz9 hw9 hw0 hE;refine hK.out _ _ uAw (fun hHeld=> ?_);clear hK K;(try simp only[pq]);refine tkO 4 (some 40) (h:=fun K hK=> ?_);refine jN 26 28 _ _ rfl (by_:=80) (z:=.agg (trC 0 0 ⟨#[]⟩ (.slice none 0 0) (.slice none 0 0))) rfl HER.out rfl (HCI.out _ HW.out) HC5.out (aBx HC1.out) Tryz.underlying26 gQ rfl uAv uCz uAv ?_;intro v4 w4 hr hg;have HTR4:=iH hr;replace HLX:=iH ((hg.block _ (gZ HLX.out) (fun e=>HLE.out (aN e))).trans HLX.out);replace HKR:=iH (HKR.out.apart3 HER.out hg uAv);replace HW:=iH (HW.out.trans (HER.out.below' hg (aE _) uBv));clear hr hg;refine hK.out _ _ uAw (fun hHeld=> ?_);clear hK K;(try simp only[pq]);refine tkU 7 (some 43) (h:=fun K hK=> ?_);refine jN 26 28 _ _ rfl (by_:=80) (z:=.agg (trC 0 0 ⟨#[]⟩ (.slice none 0 0) (.slice none 0 0))) rfl HTR4.out rfl (aC2 HLX.out rfl) (aBw rfl) (aBx fun c hc=>by rw[cB.1 hc];simp[Value.oneCell']) Tryz.underlying26 gQ rfl uAv uCz uAv ?_;intro v7 w7 hr hg;have HTR7:=iH hr;replace HKR:=iH (HKR.out.apart3 HTR4.out hg uAv);replace HW:=iH (HW.out.trans (HTR4.out.below' hg (aE _) uBv));clear hr hg;refine hK.out _ _ ?_;clear hK K;(try simp only[pq]);refine tkU 8 (some 12) (h:=fun K hK=> ?_);go_simp;refine hK.out _ _ ?_;clear hK K;(try simp only[pq]);refine bK hO ?_ _;clear hHeld;exact REST w7 v4 lx v7 E ⟨HTR7.out,HKR.out,HW.out⟩
 rintro w5 v4 lx v7 E ⟨ht7,hk7,hb7⟩;clear hsl2;have hsl3:=HK3.out;have hsl4:=HI3.out;have hdr:Below w5.heap.size w5 w5.drew:=bE w5;have HTR7:=iH (ht7.later hdr);clear HKR HW HWG;have HKR:=iH (hk7.later hdr);have HW:=iH (hb7.trans (hdr.mono (by have h1:=HBS.out;have h2:=hb7.size;omega)));clear ht7 hk7 hb7 hdr;go_upto_region 6 with fail;refine bL (S:=(fun V=>True)) [] hO (by exact trivial) (fun hHeld=> ?_);refine tkL 0 44 (h:=?_);refine tkL 1 45 (h:=?_);(try simp only[pq]);refine tkL 2 46 (h:=?_);refine tkL 3 47 (h:=?_);(try simp only[pq]);refine tkL 5 49 (h:=?_);refine tkL 6 50 (h:=?_);(try simp only[pq]);refine tkL 7 51 (h:=?_);refine tkL 8 52 (h:=?_);(try simp only[pq]);refine tkO 4 (some 48) (h:=fun K hK=> ?_);refine jN 25 9 _ _ rfl (by_:=16) (z:=.string ⟨#[]⟩) rfl HKR.out rfl (HCK2.out _ HW.out) HP2.out aD3 Tryz.underlying25 uK rfl uAv uCz uAv ?_;intro v8 w8 hr hg;have HKR8:=iH hr;replace HTR7:=iH (HTR7.out.apart3 HKR.out hg uAv);replace HW:=iH (HW.out.trans (HKR.out.below' hg (aE _) uBv));clear hr hg;refine hK.out _ _ (by exact trivial) (fun hHeld=> ?_);clear hK K;(try simp only[pq]);refine tkO 9 (some 53) (h:=fun K hK=> ?_);refine jN 26 28 _ _ rfl (by_:=80) (z:=.agg (trC 0 0 ⟨#[]⟩ (.slice none 0 0) (.slice none 0 0))) rfl HTR7.out rfl (HCI2.out _ HW.out) HC5b.out (aBx HC1b.out) Tryz.underlying26 gQ rfl uAv uCz uAv ?_;intro v9 w9 hr hg;have HTR9:=iH hr;replace HKR8:=iH (HKR8.out.apart3 HTR7.out hg uAv);replace HW:=iH (HW.out.trans (HTR7.out.below' hg (aE _) uBv));clear hr hg;refine hK.out _ _ (by exact trivial) (fun hHeld=> ?_);clear hK K;(try simp only[pq]);refine tkL 10 8 (h:=?_);refine tkL 11 9 (h:=?_);(try simp only[pq]);refine bK hO ?_ _;clear hHeld;have HFK:=HKR8;have HFT:=HTR9;have HFB:=HW;clear HKR8 HTR9 HKR HTR7 HW hsl3 hsl4;go_wp2_with fail;go_ret2;have hfin:=HOUT.out _ _ _ HFK.out HFT.out HFB.out;first
  |exact⟨v8,v9,rfl,hfin⟩
  |exact⟨v8,v9,_,rfl,rfl,hfin⟩):p:=h
theorem Aa1{p:Prop}(h:p:=by
 rintro ys V rfl ⟨⟨⟨kv,hKV,hfV⟩,hkwV⟩,hbV⟩ hD;have hys:(fZ a la).length=a.xs.length:=by unfold fZ;rw[dN,rV ha.1.1,hll];exact Nat.min_self _
 have hks:a.ks.take a.xs.length=a.ks:=aZ (by
   rcases(gO.1 ha.1.1).2 with h|⟨_,_,h|h|h⟩
   ·rw[h.2.2.2.2.1];exact aQ _
   ·rw[h.2];exact aQ _
   ·exact jZ h.2.1
   ·rw[h.2.1];exact aQ _)
 rw[hys,hks,eN]at hfV;obtain⟨L,hL⟩:∃L,L=l++bt8 (a.k+1)::eP a.k a.ks a.xs:=⟨_,rfl⟩;rw[<-hL]at hfV;have hLL:L.length+1<=140737488355328:=by
   rw[hL];simp only[aD,aL,bM]at hlen ⊢;omega
 have hout:l++bt8 (a.k+1)::(eP a.k a.ks a.xs++[0])=L++[0]:=by rw[hL];simp
 have HOUT:=iH hout;obtain⟨a6,c6,rfl⟩:=hfV.len;have cK:=hKV.cell;have HFV:=iH hfV;have HKW:=iH hkwV;have HD:=iH hD;have HQW:=iH (And.intro hQw (And.intro hbw hs5));clear hfV hKV hkwV hbV hD hseq hla hll hx5 hs5 hK5 hf5 hkw5 hT5 hQw hbf hv ha hT hlen hkt hys hks hL hout ih;go_wp2_with (first
   |(at_builtin;go_loud (refine zL rfl (.tmp 52) (.tmp 53) rfl rfl HFV.out [0] _ rfl 1 1 rfl rfl (by exact hLL) ?_)
     intro v9 V9 h9 hg9;obtain⟨a9,c9,rfl⟩:=h9.len;have HF9:=iH h9;have HG9:=iH hg9;clear h9 hg9))
 have hqw:=HQW.out;have hnw:=Below.newly' V (.cells #[.int .u8 0] 5);have hD1:(V.alloc (.cells #[.int .u8 0] 5)).heap[w5.heap.size]? =some (.deferred (some [])):=kW hnw HD.out;have hkw9:=(KW.below hnw (by have:=HKW.out.2.1;omega)).trans ((HFV.out.later hnw).kw (Ts:=U8) (Y:=0) HG9.out (aE _) rfl);have hD9:V9.heap[w5.heap.size]? =some (.deferred (some [])):=hkw9.2.2.2 _ _ (aQ _) HD.out rfl;have hgp:=eM V9 w5.heap.size (.deferred none);have hkwF:KW U8 B 0 w (V9.putObj w5.heap.size (.deferred none)):=(HKW.out.trans hkw9).new hgp uAu uAu;have hfF:Buf B (.slice a9 (L++[0]).length c9) (L++[0]) (V9.putObj w5.heap.size (.deferred none)):=HF9.out.grown hgp (by
   rcases HF9.out.own with h1|⟨g,cur,fz,h1,h2,h3⟩
   ·exact .inl h1
   ·exact .inr fun e=>by rw[h1]at e;obtain rfl:=aN e;rw[hD9]at h3;cases h3)
 rw[aD]at hfF;rw[<-HOUT.out]at hfF;exact⟨by simp[Act.put],.inl ⟨_,_,rfl,jC hD9,_,by simp[results,Tryz.f71,go_sem],_,rfl,hfF,hkwF⟩⟩):p:=h
theorem Aa2{p:Prop}(h:p:=by
 have hk2:=HK2.out;go_upto_region 9 with(refine cW rfl ?_;intro _ hK;refine jN 26 28 _ _ rfl (by_:=80) (z:=.agg (trC 0 0 ⟨#[]⟩ (.slice none 0 0) (.slice none 0 0))) rfl HE0.out rfl (HCKb.out _ HB0.out) HP1.out (aBx HO1.out) Tryz.underlying26 gQ rfl uAv uCz uAv ?_;intro v1 wa hr hg;refine hK _ _ ?_;have Hv1:=aJ hr;have HBv1:Hid (Below w8.heap.size w8 wa):=HB0.out.trans (HE0.out.below' hg (aE _) HB0.out.size);clear hr hg hK);clear hk2;have HX9:Hid (wa.heap[wo.heap.size]? =some (.cells (trC xk xn xt (.slice xa xl xc) (.slice xd xm xe)) 28 (0,0))):=HXK.out _ HBv1.out;go_upto_region 10 with(first
   |(refine bR uAz 28 _ rfl wo.heap.size rfl 28 _ _ _ HX9.out Tryz.underlying28 rfl bO ?_)
   |(refine nK rfl 26 28 _ rfl (trC xk xn xt (.slice xa xl xc) (.slice xd xm xe)) 5 (.agg (trC 0 0 ⟨#[]⟩ (.slice none 0 0) (.slice none 0 0))) rfl rfl uAv uAv Tryz.underlying26 lH ?_;intro wl hl hbl hzl;have HL:=aJ hl;have H1:=aJ (Hv1.out.later hbl);have HB1:Hid (Below w8.heap.size w8 wl):=HBv1.out.trans (hbl.mono HBv1.out.size);clear hl hbl hzl)
   |(refine cW rfl ?_;intro _ hK;refine jN 26 28 _ _ rfl (by_:=80) (ds:=[(trC xk xn xt (.slice xa xl xc) (.slice xd xm xe))]) (z:=.agg (trC 0 0 ⟨#[]⟩ (.slice none 0 0) (.slice none 0 0))) rfl H1.out rfl (aC2 HL.out rfl) (aBw rfl) (aBx fun c hc=>by rw[cB.1 hc];simp[Value.oneCell']) Tryz.underlying26 gQ rfl uAv uCz uAv ?_;intro v2 wb hr hg;refine hK _ _ ?_;have Hv2:=aJ hr;have HBv2:Hid (Below w8.heap.size w8 wb):=HB1.out.trans (H1.out.below' hg (aE _) HB1.out.size);clear hr hg hK))
 have hk3:=HK3.out;go_upto_region 11 with(refine cW rfl ?_;intro _ hK;refine jN 26 28 _ _ rfl (by_:=80) (z:=.agg (trC 0 0 ⟨#[]⟩ (.slice none 0 0) (.slice none 0 0))) rfl Hv2.out rfl (HCK2b.out _ HBv2.out) HP2.out (aBx HO2.out) Tryz.underlying26 gQ rfl uAv uCz uAv ?_;intro v3 wc hr hg;refine hK _ _ ?_;have Hv3:=aJ hr;have HBv3:Hid (Below w8.heap.size w8 wc):=HBv2.out.trans (Hv2.out.below' hg (aE _) HBv2.out.size);clear hr hg hK);clear hk3;have hfin:=HFINb.out v3 wc Hv3.out HBv3.out;have HJN2:=aJ hltN;go_wp2_with fail;go_roundw
 case rel=>exact⟨j+1,_,_,by omega,by go_num,rfl,hfin.1,hfin.2.1,hfin.2.2⟩
 case measure=>simp[intOf];omega):p:=h
theorem Aa3{p:Prop}(h:p:=by
 clear hv hv0 hfew htxt hnod hrb hT hne h1 h2 k1 k2 hx1 hr1 hb1 hs1 hrng hrl hn3 ih HCK HPL;go_enter Tryz.func66,Tryz.ntmps66;go_upto_region 1 with fail;clear hw1;go_wp2_with (first
  |(refine qZ rfl 3 _ _ rfl rb 2 _ rfl rfl rfl 125 _ HRB1.out vR (show 2<3 by omega) ?_;intro w2 h2 k2;have HX2:=iH (k2.other HX1.out (fun e=>by have h:=HRL.out;omega));have HR2:=iH (k2.other HR1.out (fun e=>by have h:=HRL.out;omega));have HRB2:Hid (w2.heap[rb]? =some (.cells #[.int .u64 (s:Int),.int .i64 bb,.int .i64 ((m+1:Nat):Int)] 125 (0,0))):=uJw;have HG2:=iH (cJ (dO HB1.out (some rb)) k2.by_);have HS2:Hid (w2.heap.size=w.heap.size+2):=k2.size.trans HS1.out;have crb:=aK HRB2.out (j:=2) (v:=.int .i64 ((m+1:Nat):Int)) rfl;clear h2 k2)
  |(refine bV rfl 35 _ _ rfl (w.heap.size+1) #[.int .i64 0,.int .i64 0,.string ⟨#[]⟩,.pointer none] rfl rfl 35 _ HR2.out aR rfl uAy ?_;intro w9 h9 k9))
 have hrl:=HRL.out;exact bF (bU rfl _ _ (w.heap.size+1) 35 _ (0,0) _ rfl h9 Tryz.underlying35 rfl aR) rfl ⟨gT,rfl,mI _ _,k9.other HRB2.out uAu,lS HG2.out k9 uAu⟩):p:=h
theorem Aa4{p:Prop}(h:p:=by
 have hc:=HC.out k hlt;obtain⟨a,cap,ha,_⟩:=HS.out _ (aO hlt);have hle:=tV (ls:=ls) (k+1) hlt (aE _);have hle':((eZ ls (k+1)).length:Int)<=100000:=by have:=HN.out;omega
 have hs:=oB hlt;have hsl:((eZ ls (k+1)).length:Int)=(eZ ls k).length+ls[k].2.length:=by rw[hs,aD];omega
 rw[hsl]at hle';have HSL:=iH hsl;rw[ha]at hc;have hp0:¬(((eZ ls k).length:Int)+(ls[k].2.length:Int)<0):=by omega
 clear hs hsl hle;go_wp2_with fail;go_roundw
 case rel=>exact⟨k+1,by omega,by simp,by rw[HSL.out],trivial⟩
 case measure=>simp[intOf];omega):p:=h
theorem Aa5{p:Prop}(h:p:=by
 clear hv0;go_enter Tryz.func80,Tryz.ntmps80;go_upto_region 1 with fail;clear hw1;go_wp2_with (fail);have hb:=HW.out;go_ret;exact⟨by rw[HOW.out];rfl,hb⟩):p:=h
theorem Aa6{p:Prop}(h:p:=by
 subst h0;go_wp2_with fail;go_ret;refine⟨_,rfl,done,?_,by have:=HR.out.2.2.2.2;rw[<-HNN.out];simpa[iY]using this,HB.out⟩;rcases gP done.length with hd|hd
 ·obtain rfl:=aT hd
  obtain⟨_,h2⟩:=HP.out.1;rcases h2 with⟨e,_⟩|⟨g,cap,cur,fz,e,_⟩
  ·exact⟨none,0,0,e,fun h=>absurd h uBu,fun k hk=>absurd hk uBu,fun p h=>by cases h⟩
  ·exact⟨some ⟨g,0,none⟩,g,cap,e,fun _=>rfl,fun k hk=>absurd hk uBu,fun p h=>by cases h⟩
 ·obtain⟨g,cap,cur,fz,e,_⟩:=HP.out.at_ (by intro e;rw[List.map_eq_nil_iff]at e;rw[e]at hd;simp at hd)
  rw[aH]at e;refine⟨some ⟨g,0,none⟩,g,cap,e,fun _=>rfl,fun k hk=> ?_,fun p hp=>(HD.out p hp).weak fun g hg=>aG HB1'.out hg⟩;have hr:=HP.out.read e (i:=k) (c:=#[done[k].1]) (by rw[List.getElem?_map,List.getElem?_eq_getElem hk];rfl);have:=hr 0 done[k].1 rfl;rwa[nT,kA]at this):p:=h
theorem Aa7{p:Prop}(h:p:=by
 refine zV 98 _ _ rfl b 4 c' rfl rfl 103 _ ((HW.out.block _ (by exact(gZ HB3.out))).trans HB3.out) (by rw[eQ.size HR.out];exact fV) (by rw[nW HZ.out.1 HZ.out.2,eQ.size HR.out];decide) (eQ.one HR.out) _ (aMU HZ.out.1 HZ.out.2 (eQ.size HR.out) _ _) ?_;intro w5 h5 k5;refine hK.out _ _ ?_;clear hK K;(try simp only[pq]);refine bK hO ?_ _;clear hHeld;go_wp2_with fail;go_roundw
 case rel=>
   have hbl:=HBL.out;have hg3:=HG.out.size;have h1s:=HB1.out.size;have h3s:=HB3'.out.size;refine⟨j+1,c',by omega,by go_num,⟨_,rfl⟩,⟨_,rfl⟩,h5,?_,?_⟩
   ·show eQ _ _ _ _ _ _
    rw[HTK.out];exact((HR.out.weak fun g h=>by have h0:=HSR.out;rcases h with h|h<;>omega).imp (Kq.only k5 (fun(h:w.heap.size<=b)=>by omega)).kp fun g h _=>h)
   ·show w1.grownBy _ _
    exact cJ (cJ HG.out (dO (tW HB3'.out HW.out) _)) k5.by_
 case measure=>simp[intOf];omega):p:=h
theorem Aa8{p:Prop}(h:p:=by
 intro j e' V K hK;gi_wp2;exact hK _ _ ((Below.newly' _ _).trans ((Below.newly' _ _).mono uBu)) ⟨(((Below.newly' (V.alloc _) _).block V.heap.size uBu)).trans (aF _ _),by have h:=aF (V.alloc (.cells (rP e'.1) 67)) (.cells (aX e'.2) 35);simpa using h⟩):p:=h
theorem Aa9{p:Prop}(h:p:=by
 dsimp only[aH9,rP,mkM]at hy;have cy:=hyb.cell;have ck:=hkb.cell;have HKBB:=iH hkb;clear hkb;have HST:=iH hst;have HYB:=iH hyb;have HVS:Hid (Q+3<=V.heap.size):=by show _<=_;omega
 have HQW:=iH hQW;have HQ5:=iH hsz5;clear hst hpl hpp hJV hVs hyb hkb5 hyb5 hJ5 hA5 hr5 hY hA h0;gi_wp2_with (first
  |(refine aFF rfl 35 _ rfl b' rfl 35 _ _ _ HST.out Tryz.underlying35 rfl aR ?_))
 refine RoundIn.mono (F:=Fence.wide.inRound k) hR ?_;rintro e V2 ⟨rfl,hJ2,hkw⟩;have HJ2:=iH hJ2;have HKW:=iH hkw;clear hJ2 hkw hy hR cy ck;gi_wp2;have hq:=HQW.out;have hq5:=HQ5.out;have hkw:=HKW.out;refine⟨⟨hkw.2.1,fun g o hg ho hc=>hkw.2.2.2 g o uAu ho hc⟩,hkw.up uAu,?_,hkw.2.2.1 _ _ _ _ HYB.out hTs.out,hkw.2.2.1 _ _ _ _ HKBB.out hTs.int⟩;rw[bQ];exact HJ2.out):p:=h
theorem Ab0{p:Prop}(h:p:=by
 by_cases n0:n=0
 ·subst n0
  go_enter Tryz.func116,Tryz.ntmps116;go_wp2
  go_ret;exact⟨kO uOv,HN.out⟩
 ·have hn':(n !=0)=true:=pZ.2 n0
  go_enter Tryz.func116,Tryz.ntmps116;go_wp2
  go_ret;exact⟨kO (by simp only[fH];simp[HT.out,n0]),HN.out⟩):p:=h
theorem Ab1{p:Prop}(h:p:=by
 have hu:=rF (w:=w) Tryz.underlying84;have hm:Op.maxDepth=(Op.maxDepth-1)+1:=by decide
 unfold binOp;simp only[];unfold Op.equal;rw[hm];unfold Op.equalIn;simp[fF,hu,Result.andThen]):p:=h
theorem Ab2{p:Prop}(h:p:=by
 clear ih hv hv' k1 k2 h1 h2 k1' k2' h1' h2' hn hneq hR;go_enter Tryz.func18,Tryz.ntmps18;go_wp2_with fail;go_ret;exact⟨rfl,aIr w _ _ _ _⟩):p:=h
theorem Ab3{p:Prop}(h:p:=by
 have qy:(y.toList==z.toList)=false:=bJ.2 fun h=>e uLx;have HZN:Hid (z≠y):=fun h=>e h.symm;clear e;go_wp2_with (go_quiet (fail));go_roundw
 case rel=>
  refine⟨q+1,by omega,by go_num,⟨_,rfl⟩,?_,HB.out.trans ((Below.drewMany (aY _ _) _).mono HB.out.size)⟩;intro q' h h2;rcases cZ q' q with h3|h3
  ·exact HNE.out q' h3 h2
  ·obtain rfl:q'=q:=by omega
   rw[<-HZE.out];exact HZN.out
 case measure=>simp[intOf];omega):p:=h
theorem Ab4{p:Prop}(h:p:=by
 have hfree':∀k ok,ops[k]? =some ok->k≠i->(listed.setIfInBounds j true).getD k true=false->
   (∀e∈ok.after,Region.binds md e=true->e.on≠i)->oi.apart ops ok=true:=fun k ok hk hki hun hno=>by
  refine hfree k ok hk hki ?_ hno;by_cases hjk:j=k
  ·subst hjk;exact hjun
  ·rw[qU true hjk]at hun;exact hun
 refine aJC (fun a' w' h3=>⟨fun hc=>h3.2.1 hc,ih (listed.setIfInBounds j true) a' w' hfree' (xS hcl hj) (jT hr (Ne.symm hji)) h3.1 (h3.2.1 hnU) ?_⟩) h2;rw[pL _ _ hji];exact h3.2.2):p:=h
theorem Ab5{p:Prop}(h:p:=by
 have h0:=(sZ.1 hr).1;rcases cZ i listed.size with h'|h'
 ·simp[h']at h0 ⊢;exact h0
 ·simp[Array.getElem?_eq_none h']):p:=h
theorem Ab6{p:Prop}(h:p:=by
 refine⟨kI N,xs,a1,c1,[],by rw[HCNT.out],by rw[HNN.out],⟨fun h=> ?_,?_,by rw[HNN.out];exact aE _,by simp,by simp⟩,?_,?_,iH (fun p h=>by cases h),HB1⟩
 ·refine aT ?_
  rw[<-HNN.out];unfold kI at h;omega
 ·rw[<-HNN.out]
  unfold kI;omega
 ·have h:=HC1.out.old.weak (S':=fun g=>g<w1.heap.size) (fun g hg=>hg.2)
  rw[HNN.out]at h;exact h
 ·exact⟨kM _ _ _ _,aE _,fun c h=>by cases h⟩):p:=h
theorem Ab7{p:Prop}(h:p:=by
 go_enter Tryz.func93,Tryz.ntmps93;go_wp2_with fail;go_ret;exact⟨rfl,HB0.out⟩):p:=h
theorem Ab8{p:Prop}(h:p:=by
 clear hY h2 hb2 k2;go_wp2_with (first
  |(refine bR rfl 28 _ rfl Y rfl 28 _ _ _ HY2.out Tryz.underlying28 rfl eF ?_)
  |(go_at_call 38;(with_reducible refine(HCL.out _ HW.out).mono ?_);rintro e w4 ⟨rfl,hb⟩;replace HW:=iH (tW HW.out hb);clear hb))
 go_roundw
 case rel=>
  refine⟨j+1,by omega,by go_num,?_,⟨_,rfl⟩,⟨_,rfl⟩,HWC.out _ HW.out⟩;rw[HNX.out];rw[<-qL]
 case measure=>simp[intOf];omega):p:=h
theorem Ab9{p:Prop}(h:p:=by
 go_enter Tryz.func116,Tryz.ntmps116;go_wp2;go_ret;exact⟨kO uOv,HN.out⟩):p:=h
theorem Ac0{p:Prop}(h:p:=by
 have h1:=hpl.length_le;rw[aD,<-hq]at h1;unfold fZ at h1;rw[dN,rV ha.1.1]at h1;simp at h1;omega):p:=h
theorem Ac1{p:Prop}(h:p:=by
 have hn':(n !=0)=true:=pZ.2 hn;go_enter Tryz.func97,Tryz.ntmps97;go_wp2;go_ret;exact⟨kO (by simp[fH,hn]),HN.out⟩):p:=h
theorem Ac2{p:Prop}(h:p:=by
 clear e1 e2;go_enter Tryz.func39,Tryz.ntmps39;go_wp2_with fail;refine HC.out.mono ?_;rintro e w1 ⟨rfl,hd⟩;have HD:=iH hd;clear hd;go_wp2_with fail;go_ret;exact⟨by rw[H.out];rfl,HD.out⟩):p:=h
theorem Ac3{p:Prop}(h:p:=by
 obtain⟨y,hy1,hy2⟩:=aB8 hla hs2';rw[List.getElem?_eq_getElem hqn]at hy1;rw[aN hy1];exact hy2.low hbV):p:=h
theorem Ac4{p:Prop}(h:p:=by
 (try simp only[pq]);refine bK hO ?_ _;clear hHeld;have HBF:=iH (HW.out.trans (HW5.out.mono uBz));go_wp2_with fail;go_roundw
 case rel=>exact⟨j+1,_,_,by omega,by go_num,rfl,rfl,⟨_,rfl⟩,⟨_,rfl⟩,⟨_,rfl⟩,HFI.out,HBF.out⟩
 case measure=>simp[intOf];omega):p:=h
theorem Ac5{p:Prop}(h:p:=by
 obtain⟨⟨h1,h2⟩,h3⟩:=h;refine⟨⟨h1,?_⟩,by omega⟩;rcases h2 with h2|⟨g,cap,cur,a1,a2,a3⟩
 ·exact .inl h2
 ·exact .inr ⟨g,cap,cur,a1,by omega,a3⟩):p:=h
theorem Ac6{p:Prop}(h:p:=by
 (try simp only[Act.put,aA,aB,aC]);refine bK hO ?_ _;clear hHeld;go_wp2_with fail;go_roundw
 case rel=>exact⟨k+1,HK1.out,by go_num,HV.out.trans (HW.out.mono HV.out.size)⟩
 case measure=>have:=HK1.out;simp[intOf];omega):p:=h
theorem Ac7{p:Prop}(h:p:=by
 clear ih hv k1 k2 h1 h2;go_enter Tryz.func65,Tryz.ntmps65;go_wp2_with fail;go_ret2;exact⟨rfl,HB0.out⟩):p:=h
theorem Ac8{p:Prop}(h:p:=by
 go_wp2_with (refine pG rfl _ _ _ _ rfl rfl rfl HRUN.out ?_);go_ret;refine⟨_,rfl,World.ownsRow_made w.drew _ G (aE _) HG2.out ?_,Below.more (bE w) _⟩;have:=HG1.out;rw[Array.size_append,aDw,aDw];show n*4+(G-n)*4=G*4;omega):p:=h
theorem Ac9{p:Prop}(h:p:=by
 dsimp only;refine hK.out _ _ uAw (fun hHeld=> ?_);clear hK K;(try simp only[pq]);refine tkL 5 4 (h:=?_);(try simp only[pq]);refine bK hO ?_ _;clear hHeld;go_wp2_with fail;have hb:=tW HB1.out HW.out;go_ret;exact⟨rfl,hb⟩):p:=h
theorem Ad0{p:Prop}(h:p:=by
 go_roundw
 case rel=>exact⟨k+1,by omega,by simp,by rw[HS2.out,aD,aC0];exact HO2,HB2⟩
 case measure=>simp[intOf];omega):p:=h
theorem Ad1{p:Prop}(h:p:=by
 rw[kR];exact⟨fun h=>by rcases h with h|h;exact absurd h (mV _);exact h.2,fun h=>.inr ⟨rfl,h⟩⟩):p:=h
theorem Ad2{p:Prop}(h:p:=by
 show List.Nodup _;rw[aS hjk,List.nodup_append];refine⟨HND.out,by simp,fun u hu z hz=> ?_⟩;rw[cB.1 hz,<-HYE.out];obtain⟨i,hi,rfl⟩:=List.mem_take_iff_getElem.1 hu;exact HNE.out i uAu uAu):p:=h
theorem Ad3{p:Prop}(h:p:=by
 obtain⟨⟨_,h2⟩,_⟩:=h;rcases h2 with⟨rfl,h2⟩|⟨g,cap,cur,rfl,_⟩
 ·exact⟨none,0,by rw[h2]⟩
 ·exact⟨_,_,rfl⟩):p:=h
theorem Ad4{p:Prop}(h:p:=by
 rw[hdl];exact(HC3.out.later hb5).kept HG6.out (fun X e=>by
  rcases hp5.own with h|⟨g,_,_,h,h2,_⟩
  ·have e':u4.ownBlock=some X:=e
   rw[h]at e';cases e'
  ·have e':u4.ownBlock=some X:=e
   rw[h]at e';obtain rfl:=aN e';omega)):p:=h
theorem Ad5{p:Prop}(h:p:=by
 rcases h.own with h1|⟨g,cur,fz,h1,h2,h3⟩
 ·exact .inl h1
 ·refine .inr fun h'=> ?_
  rw[h1]at h';obtain rfl:=aN h';rw[show w.heap[g]? =_ from hb]at h3;simp only[cC,dU]at h3;exact hT h3.2.1.symm):p:=h
theorem Ad6{p:Prop}(h:p:=by
 show _<=_;rw[hL];simp only[aD,aL,bM,bG]at hle hlen ⊢;omega):p:=h
theorem Ad7{p:Prop}(h:p:=by
 rcases cP.1 hp with hp|hp
 ·exact((HD.out p hp).later hb5).keptT HG6.out hT
 ·rw[cB]at hp
  subst hp;rw[htl];exact((aIT henc hw1 hm.2.2 hm.2.1 HG4.out).later (Below.newly' _ _)).keptT HG6.out hT):p:=h
theorem Ad8{p:Prop}(h:p:=by
 obtain⟨hr,_⟩:=h;have hr':=hr;obtain⟨h1,h2⟩:=hr;rcases h2 with⟨_,h2⟩|⟨g,cap,cur,fz,a1,a2,a3,a4⟩
 ·exact absurd (aT h2) hn
 ·subst a1
  exact⟨⟨g,0,none⟩,cap,rfl,hr'.cells rfl⟩):p:=h
theorem Ad9{p:Prop}(h:p:=by
 refine(hg.block Y (gZ ho) ?_).trans ho;rcases h.own with h1|⟨g,_,_,h1,_,h3⟩
 ·rw[h1];simp
 ·rw[h1]
  intro x;obtain rfl:=aN x;rw[h3]at ho;simp only[cC,dU]at ho;exact hT ho.2.1):p:=h
theorem Ae0{p:Prop}(h:p:=by
 have hs4:=HB4.out.size;refine(HR7.out.kept k5.by_ (fun X e=>by cases e;rintro((⟨_,h⟩|h)|h)<;>omega)).weak fun g hg=> ?_;rcases hg with(hg|hg)|hg
 ·exact .inl hg.1
 ·exact .inr uAu
 ·exact .inr uAu):p:=h
theorem Ae1{p:Prop}(h:p:=by
 go_enter Tryz.func93,Tryz.ntmps93;go_wp2_with (go_at_call 117;(with_reducible refine(HTW.out _ HB0.out).mono ?_);rintro e w2 ⟨rfl,hb2⟩;have HB2:=iH (tW HB0.out hb2);clear hb2);go_ret;exact⟨rfl,HB2.out⟩):p:=h
theorem Ae2{p:Prop}(h:p:=by
 obtain rfl:j=l.length:=by omega
 go_wp2_with fail;have hm:=HMW.out;rw[aZ (by rw[dN];omega)]at hm;go_end0;exact⟨rfl,mc,hm,HBW.out,cJ (dO HB1.out _) HG.out⟩):p:=h
theorem Ae3{p:Prop}(h:p:=by
 exact((HN5.out.kp (Kp.only HK6.out (fun h=>by omega))).kp (Kp.only k7 (fun h=>by omega))).weak fun g hg=>by
  rcases hg with(hg|hg)|hg
  ·exact .inl hg.1
  ·exact .inr uAu
  ·exact .inr uAu):p:=h
theorem Ae4{p:Prop}(h:p:=by
 have e:(d.toList.map Subtype.val)[j]? =qs[j]? :=bH (fun l=>l[j]?) hdl;refine e.symm.trans ?_;rw[List.getElem?_map,Array.getElem?_toList,Array.getElem?_eq_getElem hj,getElem!_pos d j hj];rfl):p:=h
theorem Ae5{p:Prop}(h:p:=by
 exact h.mono fun e w' h=>by
  obtain⟨y,h1,h2,h3⟩:=h;exact⟨y,h1,h2.weak fun _ _=>trivial,h3⟩):p:=h
theorem Ae6{p:Prop}(h:p:=by
 go_wp2_with fail;refine(HS.out _).mono ?_;rintro e w1 ⟨rfl,rfl⟩;go_wp2_with fail;go_round
 case rel=>exact⟨i+1,_,0,by omega,by go_num,rfl,rfl,HF⟩
 case measure=>simp[intOf];omega):p:=h
theorem Ae7{p:Prop}(h:p:=by
 intro e;obtain⟨⟨_,h2⟩,_⟩:=h;rcases h2 with⟨rfl,_⟩|⟨g,cap,cur,rfl,_,hg,_⟩
 ·cases e
 ·obtain rfl:g=L:=by simpa[Value.ownBlock]using e
  rw[hb]at hg;cases hg
  exact hT rfl):p:=h
theorem Ae8{p:Prop}(h:p:=by
 have h:=ha.key;rw[dG,if_neg uAv,aL,aD]at h;simpa using h):p:=h
theorem Ae9{p:Prop}(h:p:=by
 go_enter Tryz.func97,Tryz.ntmps97;go_wp2;go_ret;exact⟨kO (by rw[HT.out];rfl),HN.out⟩):p:=h
theorem Af0{p:Prop}(h:p:=by
 obtain⟨⟨h1,h2⟩,h3⟩:=h;refine⟨⟨h1,?_⟩,by omega⟩;rcases h2 with h2|⟨g,cap,cur,fz,a1,a2,a3⟩
 ·exact .inl h2
 ·exact .inr ⟨g,cap,cur,fz,a1,by omega,a3⟩):p:=h
theorem Af1{p:Prop}(h:p:=by
 cases hc:U.contains j with
 |false=>rfl
 |true=>exact(aAj hw hcl hifalse hc hj).elim):p:=h
theorem Af2{p:Prop}(h:p:=by
 have:=hspot uNx;obtain⟨b,off,spot⟩:=a;simp only at this;subst this;rfl):p:=h
theorem Af3{p:Prop}(h:p:=by
 clear hdef;go_enter Tryz.func46,Tryz.ntmps46;go_upto_region 1 with fail;clear hw1;go_wp2_with fail;have hb:=tW HB0.out HW.out;go_ret2;exact⟨by rw[HLT.out];simp,hb⟩):p:=h
theorem Af4{p:Prop}(h:p:=by
 cases hq:Tryz.prog.info? ty with
 |none=>simp[hq]at hi
 |some i=>
  have hs:c'.size=i.size:=by simp[hq]at hi;omega
  simp[storeVar,sizeOf,typeInfo,hq,Value.cells,hs,this]):p:=h
theorem Af5{p:Prop}(h:p:=by
 rw[hsn]at hle;rw[hl];simp only[aD,aL]at hle htot ⊢;omega):p:=h
theorem Af6{p:Prop}(h:p:=by
 rcases hg with hg|hg
 ·exact .inl hg.1
 ·exact .inr uAu):p:=h
theorem Af7{p:Prop}(h:p:=by
 go_wp2_with fail;refine(HC.out _).mono ?_;rintro e w1 ⟨rfl,hb⟩;have H1:=iH (tW HN.out hb);clear hb;go_wp2_with fail;go_ret;exact⟨by rw[HK.out];rfl,H1.out⟩):p:=h
theorem Af8{p:Prop}(h:p:=by
 go_wp2;go_quiet (fail);go_wp2;go_ret;exact⟨kO (by rw[HF.out]),HD.out.more _⟩):p:=h
theorem Af9{p:Prop}(h:p:=by
 gi_wp2;exact hK _ _ (Below.newly' _ _) (aF _ _)):p:=h
theorem Ag0{p:Prop}(h:p:=by
 go_wp2_with fail;go_roundw
 case rel=>exact⟨q+1,by omega,by go_num,⟨_,rfl⟩,⟨_,rfl⟩,⟨_,rfl⟩,HN2.out,HB.out⟩
 case measure=>simp[intOf];omega):p:=h
theorem Ag1{p:Prop}(h:p:=by
 refine jX fun i hi=> ?_;rw[fL]at hi;rw[List.getD_eq_getElem?_getD,List.getD_eq_getElem?_getD,List.getElem?_append_left hi]):p:=h
theorem Ag2{p:Prop}(h:p:=by
 intro j u hu;refine aK h ?_;match j,hu with
 |0,hu=>exact hu
 |1,hu=>exact hu
 |2,hu=>exact hu
 |3,hu=>exact hu
 |4,hu=>exact hu
 |k+5,hu=>simp at hu):p:=h
theorem Ag3{p:Prop}(h:p:=by
 intro l;induction l with
 |nil=>simp
 |cons a t ih=>
  rw[cN,aD,aL,gW];have:=HMN.out a.1.1;omega):p:=h
theorem Ag4{p:Prop}(h:p:=by
 clear hl;go_wp2_with fail;go_ret;exact⟨by rw[HFIN.out,<-qL];rfl,HB.out⟩):p:=h
theorem Ag5{p:Prop}(h:p:=by
 obtain⟨css,h1,h2,h3⟩:=h;exact⟨css,h1.imp (.inl rfl) (KT.later hb) fun _ h _=>h,h2.imp (.inr rfl) (KT.later hb) fun _ h _=>h,h3.later hb⟩):p:=h
theorem Ag6{p:Prop}(h:p:=by
 simp only[BitVec.getLsbD_and,aE5 hk,lP,aEF,hk,decide_true,lF];by_cases e:j=k
 ·subst e;simp[h]
 ·simp[e]):p:=h
theorem Ag7{p:Prop}(h:p:=by
 rcases hp3.own with h|⟨g',_,_,h,h2,_⟩
 ·have e':=h.symm.trans e;cases e'
 ·have e':=h.symm.trans e;obtain rfl:=aN e';exact h2):p:=h
theorem Ag8{p:Prop}(h:p:=by
 obtain⟨k1,k2,k3⟩:=mN.1 HOK.out.2.2.2.1;exact aBl x _ W (HTV.out.later (HB.out.trans (hb.mono uAu))) k1 k2 k3 HOK.out.2.1):p:=h
theorem Ag9{p:Prop}(h:p:=by
 go_upto_region 1 with fail;clear hw1;go_wp2;go_ret;exact⟨rfl,HB1.out⟩):p:=h
theorem Ah0{p:Prop}(h:p:=by
 go_wp2;go_ret;exact⟨_,rfl,rI _ _ _ _,aY _ _⟩):p:=h
theorem Ah1{p:Prop}(h:p:=by
 obtain⟨⟨_,h2⟩,_⟩:=h;rcases h2 with⟨rfl,h2⟩|⟨g,cap,cur,fz,rfl,_⟩
 ·exact⟨none,0,by rw[h2]⟩
 ·exact⟨_,_,rfl⟩):p:=h
theorem Ah2{p:Prop}(h:p:=by
 exact(tW HB.out hb5).trans (hp5.below HG6.out (aG HB1'.out (aE _)) (by have:=hb5.size;have:=HB.out.size;omega))):p:=h
theorem Ah3{p:Prop}(h:p:=by
 have e:(⟨g,0,none⟩:Addr).add j=⟨g,j,none⟩:=by unfold Addr.add;split<;>simp_all
 rw[e];exact aK hg uDx):p:=h
theorem Ah4{p:Prop}(h:p:=by
 clear HXE HQ HJ;go_ret2;refine⟨?_,HB1.out.trans ((HW.out.trans (HW0.out.mono HW.out.size)).mono HB1.out.size)⟩;rw[HF.out];rfl):p:=h
theorem Ah5{p:Prop}(h:p:=by
 obtain rfl:k=ls.length:=by omega
 go_wp2_with fail;go_ret;exact⟨_,rfl,by rw[HNN.out];exact oT HO.out,HB.out⟩):p:=h
theorem Ah6{p:Prop}(h:p:=by
 rcases h2 with⟨rfl,_⟩|⟨g,cap,cur,fz,rfl,a2,a3,_⟩
 ·exact .inl rfl
 ·exact .inr ⟨g,cur,fz,rfl,a2,a3⟩):p:=h
theorem Ah7{p:Prop}(h:p:=by
 show _<=_;have:=bH List.length HK.out.2;rw[aH,aH,aV]at this;omega):p:=h
theorem Ah8{p:Prop}(h:p:=by
 clear hk;go_enter Tryz.func132,Tryz.ntmps132;go_wp2_with fail;go_ret;exact⟨aHC (by rw[H.out];rfl),rfl⟩):p:=h
theorem Ah9{p:Prop}(h:p:=by
 rcases h.1.2 with⟨rfl,h2⟩|⟨g,cap,cur,fz,rfl,_⟩
 ·exact⟨none,0,by rw[h2]⟩
 ·exact⟨_,cap,rfl⟩):p:=h
theorem Ai0{p:Prop}(h:p:=by
 go_wp2_with fail;go_rounds 9;go_wp2_with fail;go_ret;exact⟨by unfold lN;rw[<-hw.out];rfl,hb.out _⟩):p:=h
theorem Ai1{p:Prop}(h:p:=by
 have h2:=h q (aW ..);rw[aAd,aD,aL,gW];omega):p:=h
theorem Ai2{p:Prop}(h:p:=by
 subst hn;go_enter Tryz.func97,Tryz.ntmps97;go_wp2;go_ret;exact⟨kO (by rw[zJ]),HN.out⟩):p:=h
theorem Ai3{p:Prop}(h:p:=by
 rw[e,hg]at hx;simp only[cC,dU]at hx;exact absurd hx.2.1 uAv):p:=h
theorem Ai4{p:Prop}(h:p:=by
 rw[bQ,HK.out.2,aS hlt,bQ,<-HQ.out];rfl):p:=h
theorem Ai5{p:Prop}(h:p:=by
 have:=HE6.out.only k7 HL6.out uAv;rw[bQ,<-bN];exact this):p:=h
theorem Ai6{p:Prop}(h:p:=by
 rcases cP.1 hx with hx|hx
 ·exact hb.2.2 x hx
 ·simp at hx;subst hx;exact hc):p:=h
theorem Ai7{p:Prop}(h:p:=by
 rintro⟨g,cap,cur,fz,a1,a2,a3,a4⟩;exact⟨g,cap,cur,fz,a1,a2,k.2.2 _ _ _ _ a3 he,a4⟩):p:=h
theorem Ai8{p:Prop}(h:p:=by
 rw[cO];intro u hu;exact yW h p u uNy):p:=h
theorem Ai9{p:Prop}(h:p:=by
 refine aDu 1 ?_;rw[rounds_succ];go_wp2_with fail;go_end0;exact⟨rfl,rfl⟩):p:=h
theorem Aj0{p:Prop}(h:p:=by
 obtain⟨o,ho,hne⟩:=hT g e.symm;rw[h4]at ho;exact hne _ _ (aN ho).symm):p:=h
theorem Aj1{p:Prop}(h:p:=by
 have:(cs.length+ds.length)*by_<=1000000*1000000:=wW uAu hby;omega):p:=h
theorem Aj2{p:Prop}(h:p:=by
 have h2:=HLQ.out;refine⟨?_,?_,?_⟩
 ·simp
  omega
 ·simp
  omega
 ·simp
  try omega):p:=h
theorem Aj3{p:Prop}(h:p:=by
 induction l with
 |nil=>rfl
 |cons a l ih=>rw[cG,cN,ih]
 rfl):p:=h
theorem Aj4{p:Prop}(h:p:=by
 conv=>lhs;rw[<-h]
 rw[List.zip_map_right];apply jX;intro p _;rfl):p:=h
theorem Aj5{p:Prop}(h:p:=by
 obtain⟨x,hx,rfl⟩:=cH.1 hp;exact(hk.1 x hx).1.weak fun g hg=>hg.1):p:=h
theorem Aj6{p:Prop}(h:p:=by
 rw[fU,fU,iX,iX,zZ hp,aDm hp,hs.1,hs.2];exact⟨rfl,rfl⟩):p:=h
theorem Aj7{p:Prop}(h:p:=by
 rw[aD,bM,<-HQ.out,HSN.out];rw[HLL.out];simp):p:=h
theorem Aj8{p:Prop}(h:p:=by
 have h:=yM ki kk W;rw[hki,hkk,oK,oK]at h;rw[hn,hki,hkk];exact h):p:=h
theorem Aj9{p:Prop}(h:p:=by
 exact e3.imp (.inl rfl) KT.refl fun g hg _=>by have:W.heap.size<=g:=hg;omega):p:=h
theorem Ak0{p:Prop}(h:p:=by
 exact e4.imp (.inr rfl) KT.refl fun g hg _=>by have:W.heap.size<=g:=hg;omega):p:=h
theorem Ak1{p:Prop}(h:p:=by
 rcases h.own with h1|⟨g,_,_,h1,h2,_⟩
 ·rw[h1];simp
 ·rw[h1];simp;omega):p:=h
theorem Ak2{p:Prop}(h:p:=by
 subst hji;exact hy.wpOp hi trivial ⟨fun h=>(by rw[hU]at h;cases h),H⟩):p:=h
theorem Ak3{p:Prop}(h:p:=by
 rw[List.getD_eq_getElem?_getD,List.getElem?_eq_getElem uAu];rfl):p:=h
theorem Ak4{p:Prop}(h:p:=by
 obtain⟨n,rfl⟩:=h;exact⟨rfl,rfl,rfl,aE _,fun _ _=>rfl⟩):p:=h
theorem Ak5{p:Prop}(h:p:=by
 rw[<-hR.2.2.2.2,bQ,bN,iY,<-hm.1];rfl):p:=h
theorem Ak6{p:Prop}(h:p:=by
 exact hK _ _ (h _ (mK w X _ _ _ _ hB) (jA _ _ _))):p:=h
theorem Ak7{p:Prop}(h:p:=by
 have:=bH List.length h;rwa[aH,aC7]at this):p:=h
theorem Ak8{p:Prop}(h:p:=by
 have hb:=tW HB0.out HW.out;go_ret2;exact⟨by rw[HLT.out];rfl,hb⟩):p:=h
theorem Ak9{p:Prop}(h:p:=by
 rw[h1]at hg;exact KW.grown hg (aG hn h2) (gZ h3) h3 he):p:=h
theorem Al0{p:Prop}(h:p:=by
 subst e;exact⟨Below.newly' _ _,aF _ _,by simp⟩):p:=h
theorem Al1{p:Prop}(h:p:=by
 subst h;exact⟨Below.newly' _ _,aF _ _,by simp⟩):p:=h
end Go.Proofs
