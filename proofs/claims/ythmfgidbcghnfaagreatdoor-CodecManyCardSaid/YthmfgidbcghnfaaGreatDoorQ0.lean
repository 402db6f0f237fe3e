import Derived.Below
import Derived.Deep.Draws
import Derived.Ground.Names2Prog
import Derived.Ground.SlsfProg
import Derived.Handy
import Derived.Laws.BitsLemmas
import Derived.Laws.OwnMore
import Derived.Laws.ShiftsVarLaws
import Derived.Lib.FrozenHead2
import Derived.Lib.Hide
import Derived.Lib.MinMax
import Derived.Lib.OthersKept
import Derived.LoopTactic
import Derived.Outline
import Derived.Shelf.LaysM
import Derived.Shelf.SlGeneric
import Derived.Shelf.SlSortCmp.NoneTotal
import Derived.Shelf.Slices.Cells
import Derived.Shelf.Slices.Clone
import Derived.Shelf.Slices.CompactS
import Derived.Shelf.Slices.In.SortNone
import Derived.Shelf.Small.Bits
import Derived.Shelf.Small.Strs
import Derived.Shelf.Sort.Plain
import Derived.Shelf.Strconv.Clone
import Derived.Shelf.Strconv.Itoa0
import Derived.Shelf.Strconv.Itoa1
import Derived.Shelf.Strconv.Itoa2
import Derived.Shelf.Strconv.Itoa3
import Derived.Shelf.Strconv.Itoa4
import Derived.Shelf.Strings.Builder1
import Derived.Shelf.Strings.BuilderF
import Derived.Shelf.Strings.BuilderK
import Derived.Shelf.Strings.Search1
import Derived.Test.YthmfgidbcghnfaaGreatDoorChecked
import Derived.Test.YthmfgidbcghnfaaGreatDoorProg
import Derived.WalkKit
import Derived.WalkSpells
import Derived.BigQuiet
import Derived.Deep.Cut
import Derived.Deep.MidRow
import Derived.Deep.OwnRows
import Derived.Deep.QuietTactic
import Derived.Deep.RegionHeld
import Derived.Deep.WholeRow
import Derived.LaidMore
import Derived.Laws.CopyOwn
import Derived.Laws.CopyRow
import Derived.Laws.Tables
import Derived.Lay
import Derived.Lib.LaidTab
import Derived.OpenShut
import Derived.ProofKit
import Derived.SevenTiedAt
import Derived.Stop.Joined
import Derived.Stop.LaidErr
import Derived.Test.YthmfgidbcghnfaaGreatDoorRows
import Derived.WideKeyPair
import Derived.Great.BuildSlice
import Derived.Ground.SlsgProg
import Derived.Laws.Rows
import Derived.LoopIn
import Derived.LoopNIn
import Derived.OwnWalkIn
import Derived.RangeFuncBound
import Derived.RangeFuncBox
import Derived.RangeFuncCalls
import Derived.RangeFuncLeaves
import Derived.RangeFuncNested
import Derived.Shelf.Abstract
import Derived.Shelf.RegionOpen
import Derived.Shelf.SlCmpFuncs.BinarySearchFunc
import Derived.Shelf.SlCmpFuncs.None
import Derived.TacticsInMore
import Derived.LaidEql
import Derived.Laws.IdiomCopy
import Derived.Laws.MakeOwn
import Derived.Lib.IfaceEq
import Derived.Lib.ItoaNum
import Derived.RowKitTokens
import Derived.Stop.Asserts
import Derived.Stop.IfaceNil
import Derived.KernelRfl
import Derived.Lib.EndianBits
import Derived.OrdersIn
import Derived.Deep.RegionHeld3
import Derived.Deep.RegionWith
import Derived.Deep.Strs
import Derived.FnData
import Derived.IntWalk
import Derived.Lib.TrailingZeros
import Derived.WalkLawsBesides
import Derived.Lib.AppendZerosOnto
import Derived.Lib.ItoaLen
import Derived.Lib.Tables
import Derived.OwnWalk
import Derived.Laws.StructEq
import Derived.Lib.AppendIntMem
import Derived.Lib.OwnBridge
import Derived.Lib.RowBridge
import Derived.Sort.Grow
import Derived.Sort.OwnSorted
import Derived.WalkMore
import Derived.Recover
import Derived.Defers
import Derived.ChangeSlices
import Derived.Deep.Slices
import Derived.LaidHandle
import Derived.LaidSub
import Derived.Lib.SmallJoins
set_option maxRecDepth 1000000
set_option maxHeartbeats 8000000
set_option linter.unusedSimpArgs false
namespace Go.Proofs
open Go.RowKit Go.Shelf Go.ChangeShapes Go.WideShapes Go.ChangeAt Go.Extern.Stop Go.Stop Go.Extern Go.Deep Go.Lib Go.Sort
theorem hO{p:Prop}(h:p:=by omega):p:=h
theorem uAu{p:Prop}(h:p:=by kernel_rfl):p:=h
theorem uAv{p:Prop}(h:p:=by decide):p:=h
theorem uAw{p:Prop}(h:p:=by exact ar.out _ HW.out):p:=h
theorem uAx{p:Prop}(h:p:=by simp[Value.oneCell']):p:=h
theorem uAy{p:Prop}(h:p:=by simp):p:=h
theorem uAz{p:Prop}(h:p:=by rfl):p:=h
theorem uBu{p:Prop}(h:p:=by have:=HS1.out;omega):p:=h
theorem uBv{p:Prop}(h:p:=by have:=HS2.out;omega):p:=h
theorem uBw{p:Prop}(h:p:=by simp[Value.oneCell',bN]):p:=h
theorem uBx{p:Prop}(h:p:=by exact HW.out):p:=h
theorem uBy{p:Prop}(h:p:=by have h:=fw.out;simp only[aB,aD,aK]at h ⊢;omega):p:=h
theorem uBz{p:Prop}(h:p:=by have:=cd.out;omega):p:=h
theorem uCu{p:Prop}(h:p:=by exact aF):p:=h
theorem uCv{p:Prop}(h:p:=by first|exact⟨Ie.out,Mk.out⟩|exact⟨HX2.out,j6.out⟩|exact⟨HX1.out,B0.out⟩):p:=h
theorem uCw{p:Prop}(h:p:=by assumption):p:=h
theorem uCx{p:Prop}(h:p:=by unfold maxLen;omega):p:=h
theorem uCy{p:Prop}(h:p:=by simp;omega):p:=h
theorem uCz{p:Prop}(h:p:=by have:=cd.out;have:=jr.out;omega):p:=h
theorem uDu{p:Prop}(h:p:=by simpa using h):p:=h
theorem uDv{p:Prop}(h:p:=by rw[ia];exact(qQ _ _ _ _ (by show Bs≠W.heap.size+1;have:=hW.size;omega)).trans fl):p:=h
theorem uDw{p:Prop}(h:p:=by have h1:=j8.out;have h2:=HB1.out.size;have h3:=hV.size;omega):p:=h
theorem uDx{p:Prop}(h:p:=by have h1:=nr.out;(try simp only[aB,aD,aK]);omega):p:=h
theorem uDy{p:Prop}(h:p:=by have h1:=p7.out;have h2:=HS1.out;omega):p:=h
theorem uDz{p:Prop}(h:p:=by first|exact du.out|exact gb.out|exact mv.out|exact xf.out):p:=h
theorem uEu{p:Prop}(h:p:=by first|exact gb.out|exact mv.out|exact xf.out|exact np.out):p:=h
theorem uEv{p:Prop}(h:p:=by exact G0.out.weak fun g hg=>aI (aI gm.out.size zq.out) hg):p:=h
theorem uEw{p:Prop}(h:p:=by rw[h]at hr;cases hr):p:=h
theorem uEx{p:Prop}(h:p:=by show _<=_;have:=hb.size;have:=HS1.out;omega):p:=h
theorem uEy{p:Prop}(h:p:=by rw[HS.out];exact dM):p:=h
theorem uEz{p:Prop}(h:p:=by exact zf.out _ HB.out):p:=h
theorem uFu{p:Prop}(h:p:=by show Bs≠W.heap.size+1;have:=hW.size;omega):p:=h
theorem uFv{p:Prop}(h:p:=by have h1:=HS2.out;have h2:=au.size;show _<=_;omega):p:=h
theorem uFw{p:Prop}(h:p:=by exact tW gm.out HW.out):p:=h
theorem uFx{p:Prop}(h:p:=by show _=_;rw[Cv];exact((Below.newly' w3 _).block (W.heap.size+1) (by have:=cd.out;omega)).trans Bt.out):p:=h
theorem uFy{p:Prop}(h:p:=by show _=_;rw[Cv];exact((Below.newly' w3 _).block (W.heap.size+2) (by have:=cd.out;omega)).trans dp.out):p:=h
theorem uFz{p:Prop}(h:p:=by unfold InR;omega):p:=h
theorem uGu{p:Prop}(h:p:=by simpa using hj):p:=h
theorem uGv{p:Prop}(h:p:=by exact ar.out _ nk.out):p:=h
theorem uGw{p:Prop}(h:p:=by show _=_;rw[Cv];exact((Below.newly' w3 _).block W.heap.size (by have:=cd.out;omega)).trans be.out):p:=h
theorem uGx{p:Prop}(h:p:=by cases v.ownBlock<;>simp):p:=h
theorem uGy{p:Prop}(h:p:=by have:=j4.out;have:=Aq.out;have:=jr.out;omega):p:=h
theorem uGz{p:Prop}(h:p:=by exact D0.out.weak fun _ _=>trivial):p:=h
theorem uHu{p:Prop}(h:p:=by have:=HRL.out;omega):p:=h
theorem uHv{p:Prop}(h:p:=by first|exact ar.out _ HW.out|exact⟨bw.out,aG bw.out rfl⟩):p:=h
theorem uHw{p:Prop}(h:p:=by rw[List.getElem?_map,List.getElem?_eq_getElem hj];rfl):p:=h
theorem uHx{p:Prop}(h:p:=by show Below _ _ _;rw[Cv];exact av.out.trans ((Below.newly' w3 _).mono av.out.size)):p:=h
theorem uHy{p:Prop}(h:p:=by show _<=_;have:=HS2.out;omega):p:=h
theorem uHz{p:Prop}(h:p:=by have:=ry.out;omega):p:=h
theorem uIu{p:Prop}(h:p:=by have h1:=(gZ HX1.out);have h2:=aq.out.size;omega):p:=h
theorem uIv{p:Prop}(h:p:=by cases d<;>simp_all[TypeDesc.isRow]):p:=h
theorem uIw{p:Prop}(h:p:=by exact O9.out _ HW.out):p:=h
theorem uIx{p:Prop}(h:p:=by simp[Fence.wide]):p:=h
theorem uIy{p:Prop}(h:p:=by first|exact gb.out|exact mv.out|exact xf.out):p:=h
theorem uIz{p:Prop}(h:p:=by have:=Fb.out;have:=jr.out;omega):p:=h
theorem uJu{p:Prop}(h:p:=by simp[hk]):p:=h
theorem uJv{p:Prop}(h:p:=by rw[aM];have:=Cl.out;have:=HN.out;have:=mu.out;unfold lJ at*;omega):p:=h
theorem uJw{p:Prop}(h:p:=by rw[HT.out.2.1,<-ve.out];exact((bd.out.later zp.out).later au).all):p:=h
theorem uJy{p:Prop}(h:p:=by rw[eA,h2];exact aF8 (by omega) (by omega)):p:=h
theorem uJz{p:Prop}(h:p:=by have:=HN.out;omega):p:=h
theorem uKu{p:Prop}(h:p:=by have:=br.out;omega):p:=h
theorem uKv{p:Prop}(h:p:=by rw[uO];omega):p:=h
theorem uKw{p:Prop}(h:p:=by simpa using hk):p:=h
theorem uKy{p:Prop}(h:p:=by rw[HZ.out.1];exact dM):p:=h
theorem uKz{p:Prop}(h:p:=by exact ar.out _ HB.out):p:=h
theorem uLu{p:Prop}(h:p:=by first|exact ox.out|exact⟨aG HX6.out rfl,jl.out,Ib.out.cell⟩):p:=h
theorem uLv{p:Prop}(h:p:=by exact⟨Dg.out,aG mz.out rfl⟩):p:=h
theorem uLw{p:Prop}(h:p:=by exact HB1.out.trans ((tW ek.out HW.out).mono HB1.out.size)):p:=h
theorem uLx{p:Prop}(h:p:=by have h1:=HO.out;have h2:=bw.out;omega):p:=h
theorem uLy{p:Prop}(h:p:=by have:=Vu.out;have:=nm.out;(try simp only[aB,aD,aK]);omega):p:=h
theorem uLz{p:Prop}(h:p:=by rw[nm.out];have:=HS1.out;have:=bd.out;have:=HI.out;omega):p:=h
theorem uMu{p:Prop}(h:p:=by rw[HS.out];exact cV):p:=h
theorem uMv{p:Prop}(h:p:=by have:hval t[1+1] true<=15:=hv;omega):p:=h
theorem uMw{p:Prop}(h:p:=by have h1:=p7.out;have h2:=HS1.out;have h3:=HRL.out;omega):p:=h
theorem uMy{p:Prop}(h:p:=by have h:=HP.out.2.2.2.2;simp only[aB,aD,aK]at h ⊢;omega):p:=h
theorem uMz{p:Prop}(h:p:=by have:=ew.out;have:=HD.out;simp only[aB,nZ,aD,aK];omega):p:=h
theorem uNu{p:Prop}(h:p:=by have:=fw.out;omega):p:=h
theorem uNv{p:Prop}(h:p:=by simpa using hr):p:=h
theorem uNw{p:Prop}(h:p:=by simpa using hl):p:=h
theorem uNx{p:Prop}(h:p:=by rw[<-hl];omega):p:=h
theorem uNy{p:Prop}(h:p:=by have:=fw.out;unfold maxLen;omega):p:=h
theorem uNz{p:Prop}(h:p:=by have:=HN.out;unfold maxLen;omega):p:=h
theorem uOu{p:Prop}(h:p:=by cases h):p:=h
theorem uOv{p:Prop}(h:p:=by rw[HI.out.2.2.2];omega):p:=h
theorem uOw{p:Prop}(h:p:=by exact(Ze.out.later HW.out).weak fun _ _=>trivial):p:=h
theorem uOx{p:Prop}(h:p:=by have:=bz.out;have h1:[s[k]].length=1:=rfl;omega):p:=h
theorem uOy{p:Prop}(h:p:=by have h1:=HW.out.size;have h2:=j7.out.size;omega):p:=h
theorem uPu{p:Prop}(h:p:=by rw[nf];exact jE):p:=h
theorem uPv{p:Prop}(h:p:=by have h1:=j8.out;have h2:=HB1.out.size;omega):p:=h
theorem uPw{p:Prop}(h:p:=by simp only[UInt8.size];omega):p:=h
theorem uPx{p:Prop}(h:p:=by exact aG HX.out rfl):p:=h
theorem uPy{p:Prop}(h:p:=by simpa using hu):p:=h
theorem uPz{p:Prop}(h:p:=by show _=_;have:=hv.1;rw[lQ cf]at this;omega):p:=h
theorem uQv{p:Prop}(h:p:=by have h1:=HW.out.size;have h2:=oy.out;omega):p:=h
theorem uQw{p:Prop}(h:p:=by have:=zq.out;omega):p:=h
theorem uQx{p:Prop}(h:p:=by have:=Al.out;omega):p:=h
theorem uQy{p:Prop}(h:p:=by have:=Fb.out;omega):p:=h
theorem uRu{p:Prop}(h:p:=by have:=cd.out;show _<=_;rw[Cv];simp;omega):p:=h
theorem uRv{p:Prop}(h:p:=by rw[fM];simp only[fP];have:=jc.dep;omega):p:=h
theorem uRw{p:Prop}(h:p:=by have:0<p:=(by rw[hp];exact nX j);omega):p:=h
theorem uRx{p:Prop}(h:p:=by rw[h2];omega):p:=h
theorem uSu{p:Prop}(h:p:=by have:=(gZ HD.out);omega):p:=h
theorem uSw{p:Prop}(h:p:=by first|exact(Qm▸W9.out)|exact HX6.out):p:=h
theorem uTx{p:Prop}(h:p:=by rw[HZ.out.2];exact gP):p:=h
theorem uTy{p:Prop}(h:p:=by exact dP):p:=h
theorem uUu{p:Prop}(h:p:=by simp only at zb;omega):p:=h
theorem uUx{p:Prop}(h:p:=by simpa using h3):p:=h
theorem uUy{p:Prop}(h:p:=by simpa using hp):p:=h
theorem uVu{p:Prop}(h:p:=by simpa using hf):p:=h
theorem uVw{p:Prop}(h:p:=by have:=HC.out.1;omega):p:=h
theorem uWv{p:Prop}(h:p:=by rw[HA.out];exact hv):p:=h
theorem uWz{p:Prop}(h:p:=by have:=nr.out;omega):p:=h
theorem uXu{p:Prop}(h:p:=by have:=jr.out;omega):p:=h
theorem uXv{p:Prop}(h:p:=by have:=HO.out;omega):p:=h
theorem uYu{p:Prop}(h:p:=by exact iT):p:=h
abbrev aA:=@Nat.le_refl
abbrev aB:=@List.length_append
abbrev aC:=@heap_alloc_last
abbrev aD:=@List.length_cons
abbrev aE:=@beq_eq_false_iff_ne
abbrev aH:=@Option.some.inj
abbrev aI:=@Nat.le_trans
abbrev aK:=@List.length_nil
abbrev aM:=@List.length_map
abbrev aN:=@bodyPost_ret
abbrev aO:=@World.block_lt_of_cell?
abbrev aP:=@List.cons_append
abbrev aQ:=@List.eq_nil_of_length_eq_zero
abbrev aS:=@Nat.zero_le
abbrev aT:=@List.nil_append
abbrev aU:=@congrArg
abbrev aX:=@List.getElem_mem
abbrev aZ:=@List.mem_cons_self
abbrev bA:=@Option.some.injEq
abbrev bB:=@Below.refl
abbrev bC:=@List.take_of_length_le
abbrev bE:=@results_cell_row
abbrev bF:=@List.mem_cons_of_mem
abbrev bG:=@List.append_assoc
abbrev bH:=@Bool.and_eq_true_iff
abbrev bI:=@List.size_toArray
abbrev bK:=@Nat.lt_of_lt_of_le
abbrev bL:=@List.mem_cons
abbrev bM:=@Array.length_toList
abbrev bP:=@List.take_succ_eq_append_getElem
abbrev bQ:=@List.length_take
abbrev bS:=@Array.replicate_zero
abbrev bT:=@Array.replicate_succ
abbrev bU:=@List.append_toArray
abbrev bV:=@List.mem_singleton
abbrev bZ:=@List.map_append
abbrev cA:=@List.map_cons
abbrev cC:=@List.flatMap_cons
abbrev cD:=@Array.all_eq_true_iff_forall_mem
abbrev cG:=@List.length_drop
abbrev cH:=@List.push_toArray
abbrev cJ:=@run_callFunc_extern
abbrev cM:=@Except.ok.injEq
abbrev cN:=@World.putObj_heap_other
abbrev cO:=@wpList_load_mid
abbrev cQ:=@List.length_singleton
abbrev cR:=@Result.andThen_ok
abbrev cS:=@Nat.mul_le_mul_right
abbrev cZ:=@Prod.mk.injEq
abbrev dA:=@List.cons.injEq
abbrev dB:=@decide_eq_false
abbrev dC:=@List.take_succ_cons
abbrev dD:=@callsIn_wide
abbrev dH:=@List.mem_map
abbrev dJ:=@ByteArray.toList_eq
abbrev dK:=@Obj.cells.injEq
abbrev dL:=@List.mem_append
abbrev dO:=@info_parts
abbrev dV:=@List.filter_cons_of_neg
abbrev dZ:=@List.takeWhile_cons
abbrev eA:=@Nat.zero_add
abbrev eB:=@Nat.lt_or_ge
abbrev eD:=@List.take_append_drop
abbrev eE:=@Decidable.byContradiction
abbrev eF:=@List.take_zero
abbrev eG:=@Sem.run_bind
abbrev eH:=@Nat.le_of_lt
abbrev eI:=@decide_eq_true_eq
abbrev eJ:=@Value.slice.injEq
abbrev eK:=@beq_iff_eq
abbrev eM:=@List.filter_cons_of_pos
abbrev eP:=@grownBy_setCell'
abbrev eQ:=@Bool.and_eq_true
abbrev eR:=@Option.map_eq_some_iff
abbrev eU:=@Lib.hid
abbrev eZ:=@Sem.run_pure
abbrev fA:=@Nat.ne_of_gt
abbrev fC:=@grownBy_putObj'
abbrev fD:=@List.length_set
abbrev fE:=@List.append_nil
abbrev fJ:=@Nat.add_mul
abbrev fK:=@List.mem_of_getElem?
abbrev fN:=@Nat.eq_zero_or_pos
abbrev fS:=@Oper.semAt_some
abbrev fT:=@Nat.min_eq_left
abbrev fZ:=@callsIn_of_wp_marks
abbrev gA:=@List.replicate_succ
abbrev gC:=@wpList_plain
abbrev gG:=@List.pairwise_cons
abbrev gH:=@List.drop_drop
abbrev gL:=@List.not_mem_nil
abbrev gM:=@List.drop_of_length_le
abbrev gN:=@List.flatMap_append
abbrev gT:=@decide_eq_true
abbrev gU:=@Array.mk.injEq
abbrev gX:=@UInt8.toNat_inj
abbrev gY:=@List.map_nil
abbrev iD:=@decide_eq_false_iff_not
abbrev iE:=@List.map_toArray
abbrev iO:=@callsIn_of_wp
abbrev iU:=@Act.put_comm
abbrev iW:=@wpIn_wide
abbrev iX:=@enters_of
abbrev jF:=@List.pairwise_iff_getElem
abbrev jK:=@Lib.cell_of_heap
abbrev jL:=@IntKind.wrap_u64
abbrev jM:=@IntKind.wrap_i64
abbrev jU:=@Nat.le_of_eq
abbrev jV:=@Nat.add_zero
abbrev jW:=@List.all_cons
abbrev jY:=@run_underlying
abbrev jZ:=@List.mem_range
abbrev kM:=@Int.toNat_natCast
abbrev kN:=@ready_mono
abbrev kO:=@List.mem_filter
abbrev kP:=@List.length_zip
abbrev kX:=@Ne.symm
abbrev kY:=@List.drop_eq_nil_of_le
abbrev lE:=@rounds_succ
abbrev lF:=@Bool.true_and
abbrev lG:=@run_takeDeferred
abbrev lH:=@Option.bind_some
abbrev lI:=@List.all_eq_true
abbrev lL:=@wp_loop_rounds
abbrev lM:=@World.ownsRowF_nil
abbrev lN:=@Nat.lt_of_le_of_lt
abbrev lO:=@List.nodup_nil
abbrev lS:=@List.filterMap_append
abbrev lW:=@List.drop_eq_getElem_cons
abbrev lY:=@setRow_heap
abbrev lZ:=@run_storeCells_at
abbrev mA:=@Region.noSelect_spec
abbrev mB:=@List.pairwise_map
abbrev mC:=@List.mem_append_left
abbrev mD:=@List.lt_trans
abbrev mE:=@Addr.mk.injEq
abbrev mY:=@Nat.add_sub_cancel_left
abbrev mZ:=@List.take_length
abbrev nA:=@List.take_left
abbrev nB:=@List.perm_middle
abbrev nL:=@Nat.mul_one
abbrev nM:=@List.take_append_of_le_length
abbrev nO:=@List.getElem_cons_succ
abbrev nP:=@Except.error.injEq
abbrev nQ:=@ByteArray.size_extract
abbrev nX:=@Nat.two_pow_pos
abbrev nY:=@List.singleton_append
abbrev nZ:=@List.length_replicate
abbrev oO:=@World.ownsRow_lit
abbrev oP:=@World.ownsRowF_of
abbrev oQ:=@List.Pairwise.imp
abbrev oR:=@Bool.eq_false_iff
abbrev oV:=@size_madeCells
abbrev oW:=@Nat.le_succ
abbrev oX:=@List.mem_of_mem_take
abbrev oY:=@List.drop_left
abbrev pQ:=@results_none
abbrev pR:=@Region.free_spec
abbrev qH:=@Option.isSome_iff_exists
abbrev qI:=@Array.setIfInBounds_comm
abbrev qN:=@Nat.div_le_self
abbrev qQ:=@heap_setCell_other
abbrev qR:=@List.map_singleton
abbrev rU:=@run_convert_bytes_back
abbrev rV:=@and_true
abbrev rW:=@World.ownsRow_nil
abbrev rX:=@List.flatten_cons
abbrev rY:=@List.filter_eq_nil_iff
abbrev rZ:=@List.drop_zero
abbrev sD:=@List.takeWhile_append_dropWhile
abbrev tI:=@List.cons_lt_cons_iff
abbrev tJ:=@Nat.mod_lt
abbrev tK:=@Nat.le_add_right
abbrev tL:=@List.take_prefix
abbrev uM:=@List.map_take
abbrev uN:=@List.map_drop
abbrev uS:=@or_false
abbrev uT:=@Nat.pow_lt_pow_right
abbrev uU:=@Nat.pow_le_pow_right
abbrev uV:=@List.mem_of_mem_drop
abbrev uX:=@run_append_ownF
abbrev uY:=@List.prefix_append_right_inj
abbrev uZ:=@List.of_mem_zip
abbrev vA:=@List.foldl_cons
abbrev vB:=@List.all_append
abbrev vD:=@Bool.or_eq_true
abbrev wQ:=@List.mem_map_of_mem
abbrev wR:=@Calls.quiet_of_same
abbrev xO:=@if_true
abbrev xP:=@Nat.two_pow_add_eq_or_of_lt
abbrev xQ:=@Nat.testBit_two_pow_sub_one
abbrev xS:=@mem_ready
abbrev yA:=@true_and
abbrev yB:=@List.tail_cons
abbrev yS:=@Lib.run_append_grow_zeros
abbrev aA6:=@List.ext_getElem?
abbrev aA7:=@UInt8.toNat_ofNat_of_lt'
abbrev aA8:=@Nat.add_assoc
abbrev aB9:=@decide_eq_decide
abbrev aBa:=@Option.getD_some
abbrev aBb:=@Nat.testBit_mul_two_pow
abbrev aBc:=@List.drop_append
abbrev aBE:=@laidMetH_iff
abbrev aBF:=@Nat.sub_self
abbrev aBG:=@Nat.pow_succ
abbrev aBH:=@List.map_map
abbrev aBI:=@List.getElem_cons_zero
abbrev aBJ:=@Decidable.em
abbrev aDq:=@UInt8.lt_irrefl
abbrev aDr:=@Option.map_some
abbrev aDs:=@Oper.semAt_none
abbrev aDt:=@Nat.testBit_and
abbrev aDu:=@List.range_succ
abbrev aDv:=@List.headD_cons
abbrev aDw:=@List.mem_append_right
abbrev aF6:=@wpListIn_plain
abbrev aF7:=@size_zeroCells
abbrev aF8:=@growslice_fits
abbrev aF9:=@getD_set_ne
abbrev aFa:=@Nat.one_mul
abbrev aFb:=@List.replicate_succ'
abbrev aFc:=@DataW.trod_int
abbrev aGv:=@boxed_own
abbrev aGw:=@run_typeAssert_hasB
abbrev aGx:=@run_firstCells_none
abbrev aGy:=@Nat.testBit_two_pow
abbrev aGz:=@List.toList_toArray
abbrev aGA:=@List.map_congr_left
abbrev aGB:=@List.filter_eq_self
abbrev aIH:=@List.take_nil
abbrev aII:=@run_loadCells_list
abbrev aIJ:=@grownCap_le_maxLen
abbrev aIK:=@execOp_put
abbrev aIL:=@bne_iff_ne
abbrev aIM:=@Option.isSome_some
abbrev aIN:=@List.zip_cons_cons
abbrev aIO:=@List.filter_filter
abbrev aIP:=@List.filter_append
abbrev aLi:=@yieldsIf_load_mid
abbrev aLj:=@not_false_eq_true
abbrev aLk:=@if_false
abbrev aLl:=@eq_comm
abbrev aLm:=@List.nodup_append
abbrev aLn:=@List.getElem_take
abbrev aLo:=@List.getElem_drop
abbrev aNf:=@List.replicate_append_replicate
abbrev aNg:=@List.eraseIdx_eq_take_drop_succ
abbrev aNh:=@List.le_antisymm
abbrev aNi:=@IntKind.wrap_u32
abbrev aNj:=@Int.natCast_ediv
theorem Aa0{p:Prop}(h:p:=by
 rintro ys V rfl ⟨⟨⟨kv,ux,l7⟩,l8⟩,jd⟩ hD;have nw:(gV a la).length=a.xs.length:=by unfold gV;rw[kP,aAb ha.1.1,j5];exact Nat.min_self _
 have gv:a.ks.take a.xs.length=a.ks:=bC (by
   rcases(iA.1 ha.1.1).2 with h|⟨_,_,h|h|h⟩
   ·rw[h.2.2.2.2.1];exact aS _
   ·rw[h.2];exact aS _
   ·exact jU h.2.1
   ·rw[h.2.1];exact aS _)
 rw[nw,gv,mZ]at l7;obtain⟨L,hL⟩:∃L,L=l++bt8 (a.k+1)::nC a.k a.ks a.xs:=⟨_,rfl⟩;rw[<-hL]at l7;have Sb:L.length+1<=140737488355328:=by
   rw[hL];simp only[aB,aD,cQ]at an ⊢;omega
 have gq:l++bt8 (a.k+1)::(nC a.k a.ks a.xs++[0])=L++[0]:=by rw[hL];simp
 have Fs:=iH gq;obtain⟨a6,c6,rfl⟩:=l7.len;have cK:=ux.cell;have xl:=iH l7;have ua:=iH l8;have HD:=iH hD;have Fi:=iH (And.intro B5 (And.intro om ki));clear l7 ux l8 jd hD hseq gu j5 vw ki Av yk l6 qm B5 mw hv ha hT an sl nw gv hL gq ih;go_wp2_with (first
   |(at_builtin;go_loud (refine aA3 rfl (.tmp 52) (.tmp 53) rfl rfl xl.out [0] _ rfl 1 1 rfl rfl (by exact Sb) ?_)
     intro v9 V9 h9 Ay;obtain⟨a9,c9,rfl⟩:=h9.len;have J9:=iH h9;have Io:=iH Ay;clear h9 Ay))
 have DP:=Fi.out;have ji:=Below.newly' V (.cells #[.int .u8 0] 5);have DQ:(V.alloc (.cells #[.int .u8 0] 5)).heap[w5.heap.size]? =some (.deferred (some [])):=kW ji HD.out;have y8:=(KW.below ji (by have:=ua.out.2.1;omega)).trans ((xl.out.later ji).kw (Ts:=U8) (Y:=0) Io.out (aA _) rfl);have Ka:V9.heap[w5.heap.size]? =some (.deferred (some [])):=y8.2.2.2 _ _ (aS _) HD.out rfl;have vt:=fC V9 w5.heap.size (.deferred none);have Ft:KW U8 B 0 w (V9.putObj w5.heap.size (.deferred none)):=(ua.out.trans y8).new vt hO hO;have Fu:Buf B (.slice a9 (L++[0]).length c9) (L++[0]) (V9.putObj w5.heap.size (.deferred none)):=J9.out.grown vt (by
   rcases J9.out.own with h1|⟨g,aj,fz,h1,h2,h3⟩
   ·exact .inl h1
   ·exact .inr fun e=>by rw[h1]at e;obtain rfl:=aH e;rw[Ka]at h3;cases h3)
 rw[aB]at Fu;rw[<-Fs.out]at Fu;exact⟨by simp[Act.put],.inl ⟨_,_,rfl,lG Ka,_,by simp[results,Tryz.f56,go_sem],_,rfl,Fu,Ft⟩⟩):p:=h
theorem Aa1{p:Prop}(h:p:=by
 go_wp2_with (refine wpList_load_row rfl 273 _ rfl 2 rfl tt _ fr _ HG.out Tryz.underlying273 rfl uAu ?_);refine lL 7 ?_;repeat(rw[lE];go_wp2_with fail)
 go_ret2;exact⟨rfl,by go_grown⟩):p:=h
theorem Aa2{p:Prop}(h:p:=by
 have hc:=HC.out k hlt;obtain⟨a,cap,ha,_⟩:=HS.out _ (aX hlt);have dx:=uH (ls:=ls) (k+1) hlt (aA _);have xr:((fB ls (k+1)).length:Int)<=100000:=by have:=HN.out;omega
 have hs:=pJ hlt;have vb:((fB ls (k+1)).length:Int)=(fB ls k).length+ls[k].2.length:=by rw[hs,aB];omega
 rw[vb]at xr;have j4:=iH vb;rw[ha]at hc;have N6:¬(((fB ls k).length:Int)+(ls[k].2.length:Int)<0):=by omega
 clear hs vb dx;go_wp2_with fail;go_roundw
 case rel=>exact⟨k+1,by omega,by simp,by rw[j4.out],trivial⟩
 case measure=>simp[intOf];omega):p:=h
theorem Aa3{p:Prop}(h:p:=by
 refine hK.out _ _ uEz (fun ab=> ?_);clear hK K;(try simp only[pq]);refine tkO 3 (some 36) (h:=fun K hK=> ?_);go_simp;have G8:=iH (gZ fs.out);go_at_call 20;(with_reducible refine(uy.out _ HB.out).mono ?_);rintro r wq ⟨y2,E2,rfl,hy,he,hb⟩;have bo:=iH hy;have Cw:=iH he;replace fs:=iH (kW hb fs.out);replace HB:=iH (tW HB.out hb);clear hb hy he;dsimp only;refine hK.out _ _ uEz (fun ab=> ?_);clear hK K;(try simp only[pq]);refine tkL 4 32 (h:=?_);refine tkL 5 37 (h:=?_);(try simp only[pq]);refine tkL 6 38 (h:=?_);(try simp only[pq]);refine tkO 8 none (h:=fun K hK=> ?_);refine eC 37 _ _ rfl Z (aL y2) rfl rfl 37 _ fs.out aF rfl (cE y2) ?_;intro wS hS kS;replace HB:=iH (HB.out.trans (kS.below gz.out));refine hK.out _ _ uEz (fun ab=> ?_);clear hK K;(try simp only[pq]);refine tkL 9 10 (h:=?_);(try simp only[pq]);refine bJ uAu ?_ _;clear ab;exact pz Z wS y2 E2 ⟨hS,((bo.out.kq (Kq.only kS fun h=>by have:=G8.out;omega)).weak fun _ _=>trivial),(Cw.out.but kS G8.out).v,HB.out⟩):p:=h
theorem Aa4{p:Prop}(h:p:=by
 subst h0;go_wp2_with fail;go_ret;refine⟨_,rfl,done,?_,by have:=HR.out.2.2.2.2;rw[<-mu.out];simpa[jC]using this,HB.out⟩;rcases fN done.length with hd|hd
 ·obtain rfl:=aQ hd
  obtain⟨_,h2⟩:=HP.out.1;rcases h2 with⟨e,_⟩|⟨g,cap,aj,fz,e,_⟩
  ·exact⟨none,0,0,e,fun h=>absurd h uAy,fun k hk=>absurd hk uAy,fun p h=>by cases h⟩
  ·exact⟨some ⟨g,0,none⟩,g,cap,e,fun _=>rfl,fun k hk=>absurd hk uAy,fun p h=>by cases h⟩
 ·obtain⟨g,cap,aj,fz,e,_⟩:=HP.out.at_ (by intro e;rw[List.map_eq_nil_iff]at e;rw[e]at hd;simp at hd)
  rw[aM]at e;refine⟨some ⟨g,0,none⟩,g,cap,e,fun _=>rfl,fun k hk=> ?_,fun p hp=>(HD.out p hp).weak fun g hg=>aI En.out hg⟩;have hr:=HP.out.read e (i:=k) (c:=#[done[k].1]) (by rw[List.getElem?_map,List.getElem?_eq_getElem hk];rfl);have:=hr 0 done[k].1 rfl;rwa[nL,jV]at this):p:=h
theorem Aa5{p:Prop}(h:p:=by
 intro j e' V K hK;gi_wp2;exact hK _ _ ((Below.newly' _ _).trans ((Below.newly' _ _).mono uAy)) ⟨(((Below.newly' (V.alloc _) _).block V.heap.size uAy)).trans (aC _ _),by have h:=aC (V.alloc (.cells (aBd e'.1) 99)) (.cells (aL e'.2) 37);simpa using h⟩):p:=h
theorem Aa6{p:Prop}(h:p:=by
 go_upto_region 1 with fail;clear ag;go_wp2_with (go_at_call 13;(with_reducible refine(mb.out _ HW.out).mono ?_);rintro r wL ⟨rfl,hb⟩;replace bd:=iH (kW hb bd.out);replace HW:=iH (tW HW.out hb);have s9:=iH bd.out;clear hb);go_ret;exact⟨rfl,HW.out⟩):p:=h
theorem Aa7{p:Prop}(h:p:=by
 dsimp only[aJF,aBd,mkM]at hy;have cy:=jc.cell;have ck:=zu.cell;have Ms:=iH zu;clear zu;have ng:=iH df;have B3:=iH jc;have gw:Hid (Q+3<=V.heap.size):=by show _<=_;omega
 have Fi:=iH R4;have xh:=iH yu;clear df hpl gj yx q8 jc Fj yw J5 J4 yf hY hA h0;gi_wp2_with (first
  |(refine aKA rfl 37 _ rfl b' rfl 37 _ _ _ ng.out Tryz.underlying37 rfl aF ?_))
 refine RoundIn.mono (F:=Fence.wide.inRound k) hR ?_;rintro e V2 ⟨rfl,Ev,jn⟩;have R5:=iH Ev;have ua:=iH jn;clear Ev jn hy hR cy ck;gi_wp2;have hq:=Fi.out;have DM:=xh.out;have jn:=ua.out;refine⟨⟨jn.2.1,fun g o hg ho hc=>jn.2.2.2 g o hO ho hc⟩,jn.up hO,?_,jn.2.2.1 _ _ _ _ B3.out sn.out,jn.2.2.1 _ _ _ _ Ms.out sn.int⟩;rw[bZ];exact R5.out):p:=h
theorem Aa8{p:Prop}(h:p:=by
 have hm:Op.maxDepth=(Op.maxDepth-1)+1:=by decide
 unfold binOp;simp only[];unfold Op.equal;rw[hm];unfold Op.equalIn;simp[eG,hu,Result.andThen]):p:=h
theorem Aa9{p:Prop}(h:p:=by
 refine aN (aR rfl _ _ w.heap.size 90 _ (0,0) _ rfl h8 Tryz.underlying90 rfl bR) rfl ?_;exact⟨E,by rw[HE.out];rfl,by rw[HE.out];exact(sz.out.but k8 (bK ew.out HS.out)).low (aI (eH ew.out) HS.out),HB1.out.trans ((HW.out.mono HB1.out.size).trans (k8.below (aA _)))⟩):p:=h
theorem Ab0{p:Prop}(h:p:=by
 by_cases n0:n=0
 ·subst n0
  go_enter Tryz.func112,Tryz.ntmps112;go_wp2
  go_ret;exact⟨yZ (by simp only[iB];simp[HT.out]),HN.out⟩
 ·have nb:(n !=0)=true:=aIL.2 n0
  go_enter Tryz.func112,Tryz.ntmps112;go_wp2
  go_ret;exact⟨yZ (by simp only[iB];simp[HT.out,n0]),HN.out⟩):p:=h
theorem Ab1{p:Prop}(h:p:=by
 exact aN (aR rfl _ _ (w.heap.size+1) 28 _ (0,0) _ rfl h9 Tryz.underlying28 rfl jE) rfl ⟨rfl,((HB1.out.trans (du.out.below hO)).trans (k9.below hO))⟩):p:=h
theorem Ab2{p:Prop}(h:p:=by
 (try simp only[pq]);refine tkU 10 none (h:=fun K hK=> ?_);refine eC 37 _ _ rfl Z (aL ya) rfl rfl 37 _ fs.out aF rfl (cE ya) ?_;intro wS hS kS;refine hK.out _ _ ?_;clear hK K;(try simp only[pq]);refine tkU 11 (some 10) (h:=fun K hK=> ?_);go_simp;refine hK.out _ _ ?_;clear hK K;(try simp only[pq]);refine bJ uAu ?_ _;clear ab;exact pz Z wS ya yv ⟨hS,zd.out.kq (Kq.only kS fun h=>h.2 rfl),ft.out.only kS (by have h1:=gz.out;have h2:=HRL.out;have h3:=HS1.out;omega),nE HW.out kS gz.out,gz.out⟩):p:=h
theorem Ab3{p:Prop}(h:p:=by
 have ke:∀k ok,ops[k]? =some ok->k≠i->(listed.setIfInBounds j true).getD k true=false->
   (∀e∈ok.after,Region.binds md e=true->e.on≠i)->oi.apart ops ok=true:=fun k ok hk uh Bi ui=>by
  refine jk k ok hk uh ?_ ui;by_cases qt:j=k
  ·subst qt;exact mg
  ·rw[aF9 true qt]at Bi;exact Bi
 refine wpOp_mono (fun a' w' h3=>⟨fun hc=>h3.2.1 hc,ih (listed.setIfInBounds j true) a' w' ke (yN mq hj) (kN hr (kX ga)) h3.1 (h3.2.1 K6) ?_⟩) h2;rw[qI _ _ ga];exact h3.2.2):p:=h
theorem Ab4{p:Prop}(h:p:=by
 have h0:=(xS.1 hr).1;rcases eB i listed.size with h'|h'
 ·simp[h']at h0 ⊢;exact h0
 ·simp[Array.getElem?_eq_none h']):p:=h
theorem Ab5{p:Prop}(h:p:=by
 go_wp2_with (first
  |(refine aW rfl 99 _ rfl p rfl 99 _ _ _ HP.out Tryz.underlying99 rfl dR ?_)
  |(refine aW rfl 37 _ rfl q rfl 37 _ _ _ HQ.out Tryz.underlying37 rfl aF ?_)
  |(go_at_call 248;(with_reducible refine HC.out.mono ?_);rintro r w2 ⟨rfl,h2⟩;have H2:=iH h2;clear h2))
 go_end0;obtain⟨c',h5,hc,W1,hb,k⟩:=H2.out;exact⟨rfl,rc,c',h5,HO.out.imp (aOW hb k (fun h=>by have:=h.2;have:=HX.out;omega)) (fun _ h _=>.inl h),hc,W1,hb,k⟩):p:=h
theorem Ab6{p:Prop}(h:p:=by
 refine⟨lJ N,xs,a1,c1,[],by rw[Lh.out],by rw[mu.out],⟨fun h=> ?_,?_,by rw[mu.out];exact aA _,by simp,by simp⟩,?_,?_,iH (fun p h=>by cases h),HB1⟩
 ·refine aQ ?_
  rw[<-mu.out];unfold lJ at h;omega
 ·rw[<-mu.out]
  unfold lJ;omega
 ·have h:=bd.out.old.weak (S':=fun g=>g<w1.heap.size) (fun g hg=>hg.2)
  rw[mu.out]at h;exact h
 ·exact⟨lM _ _ _ _,aA _,fun c h=>by cases h⟩):p:=h
theorem Ab7{p:Prop}(h:p:=by
 go_roundw
 case rel=>exact⟨j+1,by have:=ew.out;omega,by go_num,by rw[fk.out];exact ye.out.base I8.out⟩
 case measure=>have:=ew.out;simp[intOf];omega):p:=h
theorem Ab8{p:Prop}(h:p:=by
 go_enter Tryz.func66,Tryz.ntmps66;go_wp2_with fail;go_ret;exact⟨rfl,tb.out⟩):p:=h
theorem Ab9{p:Prop}(h:p:=by
 go_enter Tryz.func112,Tryz.ntmps112;go_wp2;go_ret;exact⟨yZ (by simp only[iB];simp[HT.out]),HN.out⟩):p:=h
theorem Ac0{p:Prop}(h:p:=by
 rw[eA]at e hc h5;refine⟨g2,c2,by rw[<-e];rfl,hc,hb,Eh,hg,by omega,fun j u hu=> ?_,(Below.newly' w _).trans (jR HG2.out uAy (fun k e=>by have e':some w.heap.size=some k:=e;have:=aH e';omega))⟩;rw[aT]at h5;have hj:=(List.getElem?_eq_some_iff.1 hu).1;rw[HL.out]at hj;rw[<-h5,List.getElem?_take_of_lt hj,Array.getElem?_toList]at hu;exact hu):p:=h
theorem Ac1{p:Prop}(h:p:=by
 rw[vW hk]at qp;rw[Iu]at ru;exact aIk (S:=(fun g=>(S g/\g<w.heap.size)\/w1.heap.size<=g)) (w:=W) s i u (by rcases oJ hf with⟨_,h⟩|⟨_,h⟩|⟨_,h⟩<;>omega) ((qp.later dy).weak fun _ h=>.inl h) ((ru.later dy).weak fun _ h=>.inl h) mn (nH hM Kj) (by rw[kP];omega) hu (hT.below dy) (w.heap.size+1) (0,0) O5 (w.heap.size+2) cy (0,0) Vm px.1 px.2):p:=h
theorem Ac2{p:Prop}(h:p:=by
 have h1:=hpl.length_le;rw[aB,<-hq]at h1;unfold gV at h1;rw[kP,aAb ha.1.1]at h1;simp at h1;omega):p:=h
theorem Ac3{p:Prop}(h:p:=by
 subst a1;refine⟨some ⟨g,0,none⟩,cap,g,0,rfl,fun _=>rfl,fun j hj=> ?_,hl,by omega⟩;have e:(⟨g,0,none⟩:Addr).add j=⟨g,0+j,none⟩:=by unfold Addr.add;split<;>simp_all
 have:=o9.cells rfl j (.int .i64 (l.getD j 0)) (by rw[iv,List.getElem?_map,List.getElem?_eq_getElem hj];simp[List.getD_eq_getElem?_getD,List.getElem?_eq_getElem hj]);rw[e]at this;exact this):p:=h
theorem Ac4{p:Prop}(h:p:=by
 have h:(c==0)=false:=aE.2 hO;have HC:Hid (c≠0/\(-9223372036854775808<=c/\c<=9223372036854775807)/\(-9223372036854775808<=(n:Int)/\(n:Int)<=9223372036854775807)):=by show _/\_;omega
 clear h0 hn;go_enter Tryz.func48,Tryz.ntmps48;go_wp2;go_ret;exact⟨_,rfl,.inr ⟨w.heap.size,aA _,rfl,by simp,by simp,HC.out⟩,Below.newly' _ _⟩):p:=h
theorem Ac5{p:Prop}(h:p:=by
 have h:=aFs (S:=fun _=>True) W kr dt (tal a.xs) (tal [yt]) (cU a.xs) (eW yt) ((qh.later (tW af hW)).weak fun _ _=>trivial) It hO (by rw[fM];simp only[fP];omega) (aFt ha) (wY uAy) hO hO;rw[aCh,show cU a.xs+eW yt=cU (a.xs++[yt]) by rw[qW];simp[cU],aBV dz,nT dz]at h;exact h):p:=h
theorem Ac6{p:Prop}(h:p:=by
 go_ret;exact⟨_,rfl,aq.out,(Below.mono H1.out HB.out.2).trans fu.out⟩):p:=h
theorem Ac7{p:Prop}(h:p:=by
 obtain⟨⟨h1,h2⟩,h3⟩:=h;refine⟨⟨h1,?_⟩,by omega⟩;rcases h2 with h2|⟨g,cap,aj,a1,a2,a3⟩
 ·exact .inl h2
 ·exact .inr ⟨g,cap,aj,a1,by omega,a3⟩):p:=h
theorem Ac8{p:Prop}(h:p:=by
 go_end0;exact⟨rfl,by rw[HE.out];exact s6.out,pV (aAY HB1.out j8.out) (pV (aAY fh.out uPv) wj.out)⟩):p:=h
theorem Ac9{p:Prop}(h:p:=by
 obtain⟨y,aw,jb⟩:=aGI gu ou;rw[List.getElem?_eq_getElem jz]at aw;rw[aH aw];exact jb.low jd):p:=h
theorem Ad0{p:Prop}(h:p:=by
 refine aN (aR rfl _ _ w.heap.size 90 _ (0,0) _ rfl h8 Tryz.underlying90 rfl bR) rfl ?_;exact⟨E,rfl,(sz.out.but k8 (bK ew.out HS.out)).low (aI (eH ew.out) HS.out),HB1.out.trans ((HW.out.mono HB1.out.size).trans (k8.below (aA _)))⟩):p:=h
theorem Ad1{p:Prop}(h:p:=by
 go_wp2_with (refine qC rfl _ _ _ _ rfl rfl rfl Ee.out ?_);go_ret;refine⟨_,rfl,World.ownsRow_made w.drew _ G (aA _) HG2.out ?_,Below.more (aY w) _⟩;have:=Ef.out;rw[Array.size_append,aF7,aF7];show n*4+(G-n)*4=G*4;omega):p:=h
theorem Ad2{p:Prop}(h:p:=by
 exact fun g h _=>by have:=A7.out;rcases h with(h|h)|h<;>first|exact .inl h.1|exact .inr hO):p:=h
theorem Ad3{p:Prop}(h:p:=by
 go_enter Tryz.func60,Tryz.ntmps60;go_upto_region 1 with fail;rw[<-ag];clear ag;go_wp2_with fail;go_ret;exact⟨_,rfl,by rw[ri.out],HB.out⟩):p:=h
theorem Ad4{p:Prop}(h:p:=by
 go_roundw
 case rel=>exact⟨k+1,by omega,by simp,by rw[HS2.out,aB,aD0];exact Eg,aq⟩
 case measure=>simp[intOf];omega):p:=h
theorem Ad5{p:Prop}(h:p:=by
 rw[Array.getElem?_setIfInBounds];by_cases e:q=j
 ·subst e
  rw[if_pos rfl,if_pos uVw,if_pos hO,<-HX.out.1,<-HX.out.2]
 ·rw[if_neg e,HC.out.2 j hj]
  by_cases h:j<q
  ·rw[if_pos h,if_pos hO]
  ·rw[if_neg h,if_neg hO]):p:=h
theorem Ad6{p:Prop}(h:p:=by
 obtain⟨⟨_,h2⟩,_⟩:=h;rcases h2 with⟨rfl,h2⟩|⟨g,cap,aj,rfl,_⟩
 ·exact⟨none,0,by rw[h2]⟩
 ·exact⟨_,_,rfl⟩):p:=h
theorem Ad7{p:Prop}(h:p:=by
 rcases h.own with h1|⟨g,aj,fz,h1,h2,h3⟩
 ·exact .inl h1
 ·refine .inr fun h'=> ?_
  rw[h1]at h';obtain rfl:=aH h';rw[show w.heap[g]? =_ from hb]at h3;simp only[bA,dK]at h3;exact hT h3.2.1.symm):p:=h
theorem Ad8{p:Prop}(h:p:=by
 go_upto_region 1 with fail;clear ag;go_wp2_with (go_at_call 13;(with_reducible refine(mb.out _ HW.out).mono ?_);rintro r wL ⟨rfl,hb⟩;replace bd:=iH (kW hb bd.out);replace HW:=iH (tW HW.out hb);clear hb);go_ret;exact⟨rfl,HW.out⟩):p:=h
theorem Ad9{p:Prop}(h:p:=by
 rw[td];exact(xz.out.later ay).kept jl.out (fun X e=>by
  rcases sb.own with h|⟨g,_,_,h,h2,_⟩
  ·have e':u4.ownBlock=some X:=e
   rw[h]at e';cases e'
  ·have e':u4.ownBlock=some X:=e
   rw[h]at e';obtain rfl:=aH e';omega)):p:=h
theorem Ae0{p:Prop}(h:p:=by
 refine aN (aR rfl _ _ w.heap.size 90 _ (0,0) _ rfl h8 Tryz.underlying90 rfl bR) rfl ?_;exact⟨.nilIface,rfl,zR _ _ _,HB1.out.trans ((HW.out.mono HB1.out.size).trans (k8.below (aA _)))⟩):p:=h
theorem Ae1{p:Prop}(h:p:=by
 show _<=_;rw[hL];simp only[aB,aD,cQ,aK]at dx an ⊢;omega):p:=h
theorem Ae2{p:Prop}(h:p:=by
 have hp:jN ⟨4,0,t⟩=gI t:=rfl;rw[hp];refine⟨?_,34,_,rfl,by decide⟩;have hq:=aDG t r;have he:gI t++r=34::(t.flatMap kI++[34]++r):=rfl;rw[he]at hq ⊢;rw[iR];rw[if_pos uAv,hq];rfl):p:=h
theorem Ae3{p:Prop}(h:p:=by
 obtain⟨hr,_⟩:=h;have o9:=hr;obtain⟨h1,h2⟩:=hr;rcases h2 with⟨_,h2⟩|⟨g,cap,aj,fz,a1,a2,a3,a4⟩
 ·exact absurd (aQ h2) hn
 ·subst a1
  exact⟨⟨g,0,none⟩,cap,rfl,o9.cells rfl⟩):p:=h
theorem Ae4{p:Prop}(h:p:=by
 rcases dL.1 hp with hp|hp
 ·exact((HD.out p hp).later ay).keptT jl.out hT
 ·rw[bV]at hp
  subst hp;rw[Pv];exact((aM5 cf ag hm.2.2 hm.2.1 qf.out).later (Below.newly' _ _)).keptT jl.out hT):p:=h
theorem Ae5{p:Prop}(h:p:=by
 refine(hg.block Y (gZ ho) ?_).trans ho;rcases h.own with h1|⟨g,_,_,h1,_,h3⟩
 ·rw[h1];simp
 ·rw[h1]
  intro x;obtain rfl:=aH x;rw[h3]at ho;simp only[bA,dK]at ho;exact hT ho.2.1):p:=h
theorem Ae6{p:Prop}(h:p:=by
 rcases hg with hg|hg
 ·exact .inl hg.1
 ·exact .inr hO):p:=h
theorem Ae7{p:Prop}(h:p:=by
 have Ac:=bg.out.size;refine(Gs.out.kept k5.by_ (fun X e=>by cases e;rintro((⟨_,h⟩|h)|h)<;>omega)).weak fun g hg=> ?_;rcases hg with(hg|hg)|hg
 ·exact .inl hg.1
 ·exact .inr hO
 ·exact .inr hO):p:=h
theorem Ae8{p:Prop}(h:p:=by
 go_enter Tryz.func66,Tryz.ntmps66;go_wp2_with (go_at_call 113;(with_reducible refine(Gw.out _ tb.out).mono ?_);rintro e w2 ⟨rfl,ah⟩;have aq:=iH (tW tb.out ah);clear ah);go_ret;exact⟨rfl,aq.out⟩):p:=h
theorem Ae9{p:Prop}(h:p:=by
 exact((E3.out.kp (Kp.only np.out (fun h=>by omega))).kp (Kp.only k7 (fun h=>by omega))).weak fun g hg=>by
  rcases hg with(hg|hg)|hg
  ·exact .inl hg.1
  ·exact .inr hO
  ·exact .inr hO):p:=h
theorem Af0{p:Prop}(h:p:=by
 have e:(d.toList.map Subtype.val)[j]? =qs[j]? :=aU (fun l=>l[j]?) td;refine e.symm.trans ?_;rw[List.getElem?_map,Array.getElem?_toList,Array.getElem?_eq_getElem hj,getElem!_pos d j hj];rfl):p:=h
theorem Af1{p:Prop}(h:p:=by
 exact aN (aR rfl _ _ (w.heap.size+2) 37 _ (0,0) _ rfl h5 Tryz.underlying37 rfl aF) rfl ⟨gO,rfl,lT _ _,(tW HB1.out aq.out).trans (k5.below hO)⟩):p:=h
theorem Af2{p:Prop}(h:p:=by
 rcases dL.1 hy with hy|hy
 ·exact h.parts y hy
 ·rw[bV.1 hy];exact hr):p:=h
theorem Af3{p:Prop}(h:p:=by
 rintro e w1 ⟨rfl,hb⟩;have H1:=iH (HS.out.more hb);clear hb;go_wp2_with fail;go_ret;exact⟨_,rfl,by rw[Ul.out,fE];exact H1.out.ints.low (oW _),H1.out.below⟩):p:=h
theorem Af4{p:Prop}(h:p:=by
 intro e;obtain⟨⟨_,h2⟩,_⟩:=h;rcases h2 with⟨rfl,_⟩|⟨g,cap,aj,rfl,_,hg,_⟩
 ·cases e
 ·obtain rfl:g=L:=by simpa[Value.ownBlock]using e
  rw[hb]at hg;cases hg
  exact hT rfl):p:=h
theorem Af5{p:Prop}(h:p:=by
 rintro e w1 ⟨rfl,rfl⟩;go_wp2_with fail;go_ret;exact⟨rfl,rfl⟩):p:=h
theorem Af6{p:Prop}(h:p:=by
 obtain⟨⟨h1,h2⟩,h3⟩:=h;refine⟨⟨h1,?_⟩,by omega⟩;rcases h2 with h2|⟨g,cap,aj,fz,a1,a2,a3⟩
 ·exact .inl h2
 ·exact .inr ⟨g,cap,aj,fz,a1,by omega,a3⟩):p:=h
theorem Af7{p:Prop}(h:p:=by
 cases hq:Tryz.prog.info? ty with
 |none=>simp[hq]at hi
 |some i=>
  have hs:c'.size=i.size:=by simp[hq]at hi;omega
  simp[storeVar,sizeOf,typeInfo,hq,Value.cells,hs,this]):p:=h
theorem Af8{p:Prop}(h:p:=by
 exact aN (aR rfl _ _ (w.heap.size+1) 28 _ (0,0) _ rfl h9 Tryz.underlying28 rfl jE) rfl ⟨rfl,(HB1.out.trans (k9.below hO))⟩):p:=h
theorem Af9{p:Prop}(h:p:=by
 exact aN (aR rfl _ _ (w.heap.size+1) 28 _ (0,0) _ rfl h9 Tryz.underlying28 rfl jE) rfl ⟨rfl,HB1.out.trans (k9.below hO)⟩):p:=h
theorem Ag0{p:Prop}(h:p:=by
 obtain rfl:=aQ h2;exact⟨none,0,0,0,rfl,fun h=>absurd h uAy,fun j h=>absurd h uAy,fun n h=>absurd h uAy,by simp⟩):p:=h
theorem Ag1{p:Prop}(h:p:=by
 cases hc:U.contains j with
 |false=>rfl
 |true=>exact(aAN hw mq dw hc hj).elim):p:=h
theorem Ag2{p:Prop}(h:p:=by
 go_wp2_with fail;try rw[Exit.noGoto_ret]
 go_ret3;exact⟨by rw[HF.out];rfl,HW.out⟩):p:=h
theorem Ag3{p:Prop}(h:p:=by
 subst ep;intro j u hu;have e:(⟨w.heap.size,0,none⟩:Addr).add j=⟨w.heap.size,j,none⟩:=by
  simp[Addr.add];intro hj;exact hj.symm
 rw[e];simpa using hu):p:=h
theorem Ag4{p:Prop}(h:p:=by
 go_enter Tryz.func123,Tryz.ntmps123;go_wp2_with fail;go_step3;go_wp2_with fail;try rw[Exit.noGoto_ret]
 go_ret3;exact⟨by rw[H.out];rfl,bB _ _⟩):p:=h
theorem Ag5{p:Prop}(h:p:=by
 refine aGA fun i hi=> ?_;rw[jZ]at hi;rw[List.getD_eq_getElem?_getD,List.getD_eq_getElem?_getD,List.getElem?_append_left hi]):p:=h
theorem Ag6{p:Prop}(h:p:=by
 go_enter Tryz.func229,Tryz.ntmps229;go_wp2;go_ret;exact⟨by rw[H.out];rfl,rfl⟩):p:=h
theorem Ag7{p:Prop}(h:p:=by
 rw[if_pos e,if_pos hO]at hy;obtain rfl:=aH hy;rw[if_pos hO,show j-i*4=j % 4 by omega];rw[<-Di.out]at hu;simpa using hu):p:=h
theorem Ag8{p:Prop}(h:p:=by
 go_enter Tryz.func228,Tryz.ntmps228;go_wp2_with fail;refine(HI.out _).mono ?_;rintro e w1 ⟨rfl,rfl⟩;go_wp2_with fail;go_ret2;exact⟨rfl,rfl⟩):p:=h
theorem Ag9{p:Prop}(h:p:=by
 intro l;induction l with
 |nil=>simp
 |cons a t ih=>
  rw[cC,aB,aD,fJ];have:=Yd.out a.1.1;omega):p:=h
theorem Ah0{p:Prop}(h:p:=by
 have Gf:=aJh n h2;refine⟨?_,c,q,he,hb⟩;rw[he]at Gf ⊢;rw[aP];rw[iR];rw[if_neg h34,if_pos hc,Ca,Gf,if_pos rfl];rfl):p:=h
theorem Ah1{p:Prop}(h:p:=by
 simp only[BitVec.getLsbD_and,aFS hk,mM,aGy,hk,decide_true,lF];by_cases e:j=k
 ·subst e;simp[h]
 ·simp[e]):p:=h
theorem Ah2{p:Prop}(h:p:=by
 intro k x V K hK;gi_wp2;exact hK _ _ (Below.newly' _ _) (aC _ _)):p:=h
theorem Ah3{p:Prop}(h:p:=by
 rcases Ob.own with h|⟨g',_,_,h,h2,_⟩
 ·have e':=h.symm.trans e;cases e'
 ·have e':=h.symm.trans e;obtain rfl:=aH e';exact h2):p:=h
theorem Ah4{p:Prop}(h:p:=by
 simp only[aB,aD,aK]at this;omega):p:=h
theorem Ah5{p:Prop}(h:p:=by
 obtain rfl:l=[]:=aQ hO;rw[aQz];simp):p:=h
theorem Ah6{p:Prop}(h:p:=by
 rw[tI];exact⟨fun h=>by rcases h with h|h;exact absurd h (aDq _);exact h.2,fun h=>.inr ⟨rfl,h⟩⟩):p:=h
theorem Ah7{p:Prop}(h:p:=by
 go_upto_region 1 with fail;clear ag;go_wp2;go_ret;exact⟨rfl,HB1.out⟩):p:=h
theorem Ah8{p:Prop}(h:p:=by
 go_wp2;go_ret;exact⟨_,rfl,rW _ _ _ _,bB _ _⟩):p:=h
theorem Ah9{p:Prop}(h:p:=by
 obtain⟨⟨_,h2⟩,_⟩:=h;rcases h2 with⟨rfl,h2⟩|⟨g,cap,aj,fz,rfl,_⟩
 ·exact⟨none,0,by rw[h2]⟩
 ·exact⟨_,_,rfl⟩):p:=h
theorem Ai0{p:Prop}(h:p:=by
 have e:(⟨g,0,none⟩:Addr).add j=⟨g,j,none⟩:=by unfold Addr.add;split<;>simp_all
 rw[e];exact aG hg uGu):p:=h
theorem Ai1{p:Prop}(h:p:=by
 go_enter Tryz.func306,Tryz.ntmps306;go_wp2;go_ret;exact⟨rfl,rfl⟩):p:=h
theorem Ai2{p:Prop}(h:p:=by
 exact(tW HB.out ay).trans (sb.below jl.out (aI En.out (aA _)) (by have:=ay.size;have:=HB.out.size;omega))):p:=h
theorem Ai3{p:Prop}(h:p:=by
 obtain rfl:k=ls.length:=by omega
 go_wp2_with fail;go_ret;exact⟨_,rfl,by rw[mu.out];exact pT HO.out,HB.out⟩):p:=h
theorem Ai4{p:Prop}(h:p:=by
 refine⟨by omega,by omega,fun h=>by have:=this.2.2 h;omega⟩):p:=h
theorem Ai5{p:Prop}(h:p:=by
 rw[aA7 uPw]):p:=h
theorem Ai6{p:Prop}(h:p:=by
 show _<=_;have:=aU List.length HK.out.2;rw[aM,aM,bQ]at this;omega):p:=h
theorem Ai7{p:Prop}(h:p:=by
 clear hk;go_enter Tryz.func180,Tryz.ntmps180;go_wp2_with fail;go_ret;exact⟨aKe (by rw[H.out];rfl),rfl⟩):p:=h
theorem Ai8{p:Prop}(h:p:=by
 rcases h2 with⟨rfl,_⟩|⟨g,cap,aj,fz,rfl,a2,a3,_⟩
 ·exact .inl rfl
 ·exact .inr ⟨g,aj,fz,rfl,a2,a3⟩):p:=h
theorem Ai9{p:Prop}(h:p:=by
 rw[if_neg e]at hy;rw[if_neg hO];refine Le.out j u ?_;rw[ej,zT cf _ _ _ y hy hO];exact hu):p:=h
theorem Aj0{p:Prop}(h:p:=by
 rcases h.1.2 with⟨rfl,h2⟩|⟨g,cap,aj,fz,rfl,_⟩
 ·exact⟨none,0,by rw[h2]⟩
 ·exact⟨_,cap,rfl⟩):p:=h
theorem Aj1{p:Prop}(h:p:=by
 rcases h with h|h
 ·exact h
 ·exact⟨.inr (aI my.out h),fun e=>by have h1:=(gZ fs.out);omega⟩):p:=h
theorem Aj2{p:Prop}(h:p:=by
 have h2:=h q (aZ ..);rw[aAE,aB,aD,fJ];omega):p:=h
theorem Aj3{p:Prop}(h:p:=by
 rcases eB g w.heap.size with h'|h'
 ·exact h'
 ·rw[Array.getElem?_eq_none h']at h;simp at h):p:=h
theorem Aj4{p:Prop}(h:p:=by
 rcases eB b w1.heap.size with h'|h'
 ·exact h'
 ·simp[Array.getElem?_eq_none h']at jf):p:=h
theorem Aj5{p:Prop}(h:p:=by
 rw[e,hg]at hx;simp only[bA,dK]at hx;exact absurd hx.2.1 uAv):p:=h
theorem Aj6{p:Prop}(h:p:=by
 rw[bZ,HK.out.2,bP hlt,bZ,<-HQ.out];rfl):p:=h
theorem Aj7{p:Prop}(h:p:=by
 rcases x9.2 with⟨hv,_⟩|⟨g,cap,aj,fz,hv,_⟩
 ·exact⟨_,_,_,hv⟩
 ·exact⟨_,_,_,hv⟩):p:=h
theorem Aj8{p:Prop}(h:p:=by
 have:=zn.out.only k7 Ib.out uAv;rw[bZ,<-bG];exact this):p:=h
theorem Aj9{p:Prop}(h:p:=by
 rcases dL.1 hx with hx|hx
 ·exact hb.2.2 x hx
 ·simp at hx;subst hx;exact hc):p:=h
theorem Ak0{p:Prop}(h:p:=by
 rw[cD];intro u hu;exact bq x u (by rw[<-Hf];simpa using hu)):p:=h
theorem Ak1{p:Prop}(h:p:=by
 intro y hy;rcases bL.1 hy with rfl|hy
 ·exact⟨v1,by omega⟩
 ·exact e2 y hy):p:=h
theorem Ak2{p:Prop}(h:p:=by
 rw[cD];intro u hu;exact vT h p u uPy):p:=h
theorem Ak3{p:Prop}(h:p:=by
 rintro⟨g,cap,aj,fz,a1,a2,a3,a4⟩;exact⟨g,cap,aj,fz,a1,a2,k.2.2 _ _ _ _ a3 he,a4⟩):p:=h
theorem Ak4{p:Prop}(h:p:=by
 obtain⟨o,ho,bn⟩:=hT g e.symm;rw[h4]at ho;exact bn _ _ (aH ho).symm):p:=h
theorem Ak5{p:Prop}(h:p:=by
 have h2:=BQ.out;refine⟨?_,?_,?_⟩
 ·simp
  omega
 ·simp
  omega
 ·simp
  try omega):p:=h
theorem Ak6{p:Prop}(h:p:=by
 rintro e w1 ⟨rfl,rfl⟩;go_wp2_with fail;go_ret3;exact⟨by rw[H.out];rfl,rfl⟩):p:=h
theorem Ak7{p:Prop}(h:p:=by
 go_enter Tryz.func160,Tryz.ntmps160;go_wp2;go_ret;exact⟨by rw[H.out];rfl,rfl⟩):p:=h
theorem Ak8{p:Prop}(h:p:=by
 obtain⟨x,hx,rfl⟩:=dH.1 hp;exact(hk.1 x hx).1.weak fun g hg=>hg.1):p:=h
theorem Ak9{p:Prop}(h:p:=by
 rw[eW,eW,gJ,gJ,nT hp,pH hp,hs.1,hs.2];exact⟨rfl,rfl⟩):p:=h
theorem Al0{p:Prop}(h:p:=by
 obtain⟨x,hx,rfl⟩:=dH.1 hy;exact ih x hx (ho.2.1 x hx) (h3 x hx)):p:=h
theorem Al1{p:Prop}(h:p:=by
 rw[aB,cQ,<-HQ.out,Aw.out];rw[rl.out];simp):p:=h
theorem Al2{p:Prop}(h:p:=by
 rw[if_neg hO,if_neg hO,if_neg hO,if_neg hO]):p:=h
theorem Al3{p:Prop}(h:p:=by
 rcases h.own with h1|⟨g,_,_,h1,h2,_⟩
 ·rw[h1];simp
 ·rw[h1];simp;omega):p:=h
theorem Al4{p:Prop}(h:p:=by
 obtain⟨w0,h1,h2,h3,h4⟩:=h;exact⟨w0,h1,h2,h3,h4.trans (hb.mono hC)⟩):p:=h
theorem Al5{p:Prop}(h:p:=by
 subst ga;exact hy.wpOp hi trivial ⟨fun h=>(by rw[hU]at h;cases h),H⟩):p:=h
theorem Al6{p:Prop}(h:p:=by
 rw[lE];go_wp2_with fail;go_ret3;exact⟨by rw[H.out];rfl,rfl⟩):p:=h
theorem Al7{p:Prop}(h:p:=by
 obtain⟨n,rfl⟩:=h;exact⟨rfl,rfl,rfl,aA _,fun _ _=>rfl⟩):p:=h
theorem Al8{p:Prop}(h:p:=by
 go_enter Tryz.func308,Tryz.ntmps308;go_wp2;go_ret;exact⟨rfl,rfl⟩):p:=h
theorem Al9{p:Prop}(h:p:=by
 rw[<-hR.2.2.2.2,bZ,bG,jC,<-hm.1];rfl):p:=h
theorem Am0{p:Prop}(h:p:=by
 intro y hy;rw[bV]at hy;rw[hy];exact⟨v1,by omega⟩):p:=h
theorem Am1{p:Prop}(h:p:=by
 rw[aA7 uPw];omega):p:=h
theorem Am2{p:Prop}(h:p:=by
 exact hK _ _ (h _ (lY w X _ _ _ _ hB) (iI _ _ _))):p:=h
theorem Am3{p:Prop}(h:p:=by
 have:=aU List.length h;rwa[aM,aD7]at this):p:=h
theorem Am4{p:Prop}(h:p:=by
 rw[h1]at hg;exact KW.grown hg (aI hn h2) (gZ h3) h3 he):p:=h
theorem Am5{p:Prop}(h:p:=by
 subst e;exact⟨Below.newly' _ _,aC _ _,by simp⟩):p:=h
theorem Am6{p:Prop}(h:p:=by
 subst h;exact⟨Below.newly' _ _,aC _ _,by simp⟩):p:=h
end Go.Proofs
