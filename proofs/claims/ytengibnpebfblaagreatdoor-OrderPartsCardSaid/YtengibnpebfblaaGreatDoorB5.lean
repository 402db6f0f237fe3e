import Derived.Test.YtengibnpebfblaaGreatDoorB4
import Derived.BigQuiet
import Derived.Deep.QuietTactic
import Derived.Ground.Names2Prog
import Derived.Ground.SlsfProg
import Derived.Ground.SlsgProg
import Derived.Handy
import Derived.KernelRfl
import Derived.Lib.AppendZerosOnto
import Derived.LoopIn
import Derived.LoopNIn
import Derived.RangeFuncBound
import Derived.Shelf.Abstract
import Derived.Shelf.RegionOpen
import Derived.Shelf.SlCmpFuncs.BinarySearchFunc
import Derived.Shelf.SlCmpFuncs.None
import Derived.Shelf.SlGeneric
import Derived.Shelf.SlSortCmp.Insertion
import Derived.Shelf.SlSortCmp.Insertion1
import Derived.Shelf.SlSortCmp.NoneTotal
import Derived.Shelf.Slices.Cells
import Derived.Shelf.Slices.Clone
import Derived.Shelf.Slices.CompactS
import Derived.Shelf.Slices.In.SortNone
import Derived.Shelf.Small.Bits
import Derived.Shelf.Small.Strs
import Derived.Shelf.Sort.Plain
import Derived.Shelf.Strconv.Itoa0
import Derived.TacticsInMore
import Derived.Test.YtengibnpebfblaaGreatDoorProg
set_option maxRecDepth 1000000
set_option maxHeartbeats 8000000
set_option linter.unusedSimpArgs false
namespace Go.Proofs.YtengibnpebfblaaGreatDoor
open Go.RowKit
theorem val_info:(Tryz.prog.info? 35).map (fun i=>(i.zero,i.size,i.bytes))=some (some (.agg (celC zeroV)),4,40):=by kernel_rfl
theorem val_size:(Tryz.prog.info? 35).map (·.size)=some 4:=by kernel_rfl
abbrev ivV (l:List Cel):List Value:=en enV l
open Go.Shelf
attribute [local go_sem] Oper.semAt_some
theorem bx_kept {A B:World} {X:Nat} {t:TypeId} {v:Value} {row:Option Nat} (h:Boxed A X t v) (hg:A.grownBy B row) (hr:∀r,row=some r->∃o:Obj,A.heap[r]? =some o/\o.isCells=false):Boxed B X t v:=
 boxed_own (β:=Unit) X t (fun _=>v) () A B row h hg hr
theorem row_kept {A B:World} {k:Nat} {cs:Array Value} {T:TypeId} {fr:Nat×Nat} {row:Option Nat} (h:A.heap[k]? =some (.cells cs T fr)) (hg:A.grownBy B row) (hr:∀r,row=some r->∃o:Obj,A.heap[r]? =some o/\o.isCells=false):B.heap[k]? =some (.cells cs T fr):=by
 refine(hg.block _ (gZ h) fun e=> ?_).trans h;obtain⟨o,ho,hc⟩:=hr k e.symm;rw[h]at ho;cases ho
 cases hc
theorem keeps_below {A B:World} (h:Below A.heap.size A B):KeepsOthers A B:=⟨h.size,fun k _ hk _=>(h.block k (gZ hk)).trans hk⟩
end Go.Proofs.YtengibnpebfblaaGreatDoor
namespace Go.Proofs.YtengibnpebfblaaGreatDoor
open Go.RowKit
theorem lt_irrefl_l (a:List UInt8):¬a<a:=List.lt_irrefl a
theorem orderS_range (a b:List UInt8):orderS a b= -1\/orderS a b=0\/orderS a b=1:=by
 unfold orderS;split
 ·exact .inr (.inl rfl)
 ·split
  ·exact .inl rfl
  ·exact .inr (.inr rfl)
theorem orderS_zero (a b:List UInt8):orderS a b=0↔a=b:=by
 unfold orderS;split
 ·simp[*]
 ·split<;>simp[*]
theorem orderS_less (a b:List UInt8):orderS a b= -1↔a<b:=by
 unfold orderS;split
 ·rename_i h;subst h;simp[lt_irrefl_l]
 ·split<;>simp[*]
theorem total_l (a b:List UInt8) (h:¬a=b):a<b\/b<a:=by
 rcases List.le_total a b with h1|h1
 ·rcases Decidable.em (a<b)with h2|h2
  ·exact .inl h2
  ·exact absurd (List.le_antisymm h1 (List.not_lt.1 h2)) h
 ·rcases Decidable.em (b<a)with h2|h2
  ·exact .inr h2
  ·exact absurd (List.le_antisymm (List.not_lt.1 h2) h1) h
theorem orderS_neg (a b:List UInt8):orderS a b= -orderS b a:=by
 by_cases h:a=b
 ·subst h
  rw[(orderS_zero a a).2 rfl];rfl
 ·rcases total_l a b h with h1|h1
  ·have h2:¬b<a:=fun h2=>lt_irrefl_l a (List.lt_trans h1 h2)
   have:=orderS_range b a;rw[(orderS_less a b).2 h1];have h3:=orderS_zero b a;have h4:=orderS_less b a;rcases this with e|e|e
   ·exact absurd (h4.1 e) h2
   ·exact absurd (h3.1 e).symm h
   ·rw[e]
  ·have h2:¬a<b:=fun h2=>lt_irrefl_l a (List.lt_trans h2 h1)
   have:=orderS_range a b;rw[(orderS_less b a).2 h1];have h3:=orderS_zero a b;have h4:=orderS_less a b;rcases this with e|e|e
   ·exact absurd (h4.1 e) h2
   ·exact absurd (h3.1 e) h
   ·rw[e];rfl
theorem orderS_trans (a b c:List UInt8) (h1:orderS a b<=0) (h2:orderS b c<=0):orderS a c<=0/\(orderS a b=0/\orderS b c=0\/orderS a c<0):=by
 have le:∀x y,orderS x y<=0->x=y\/x<y:=fun x y h=>by
  rcases orderS_range x y with e|e|e
  ·exact .inr ((orderS_less x y).1 e)
  ·exact .inl ((orderS_zero x y).1 e)
  ·omega
 rcases le a b h1 with rfl|e1
 ·have e:=(orderS_zero a a).2 rfl
  refine⟨h2,?_⟩;rcases orderS_range a c with e2|e2|e2
  ·exact .inr (by omega)
  ·exact .inl ⟨e,e2⟩
  ·omega
 ·rcases le b c h2 with rfl|e2
  ·have:=(orderS_less a b).2 e1
   exact⟨h1,.inr (by omega)⟩
  ·have:=(orderS_less a c).2 (List.lt_trans e1 e2)
   exact⟨by omega,.inr (by omega)⟩
end Go.Proofs.YtengibnpebfblaaGreatDoor
namespace Go.Proofs.YtengibnpebfblaaGreatDoor
open Go.RowKit Go.Shelf
attribute [local go_sem] Oper.semAt_some
theorem wp_in_wide {P:Program} {Q:Exit->Act->World->Prop} {n:Nat} {o:Oper} {a:Act} {w:World} {K:Act->World->Prop} (hd:∀c,o.op≠.defer c) (h:o.wp P a w K Q):o.wpIn Fence.wide n P a w K Q:=by
 unfold Oper.wpIn;refine⟨fun _ _=>trivial,?_⟩;rw[Oper.semAt_eq _ _ _ hd];unfold Oper.wp at h;generalize(execOp a.eval o).run P w=r at h ⊢;cases r with
 |ok x w'=>
  cases x with
  |value v=>exact h
  |skip=>exact h
  |defer d=>exact h
  |enter f args=>exact⟨fun hh=>by simp[Fence.wide]at hh,callsIn_wide.2 h⟩
  |row row args=>exact⟨fun hh=>by simp[Fence.wide]at hh,fun c cs _=>by obtain⟨v,w',r,s⟩:=h c cs;exact⟨v,w',r,stepsIn_wide.2 s⟩⟩
  |_=>exact h.elim
 |halt x w'=>
  cases x with
  |panic v=>exact h
  |_=>exact h.elim
theorem ld_wide {ops:Array Oper} {rest:List Oper} {o:Oper} {a:Act} {w:World} {Q:Exit->Act->World->Prop} {n:Nat} (hgd:o.guard=none) (ty:TypeId) (x:Operand) (ho:o.op=.load ty x)
  (X:Nat) (hx:a.eval x=.pointer (some ⟨X,0,none⟩)) (T:TypeId) (c:Array Value) (fr:Nat×Nat) (d:TypeDesc) (hB:w.heap[X]? =some (.cells c T fr))
  (hu:Tryz.prog.underlying ty=some d) (hd:d.isRow=true) (hi:(Tryz.prog.info? ty).map (·.size)=some c.size)
  (h:wpListIn Fence.wide n Tryz.prog ops Q rest (a.put o.dst (.agg c)) w):wpListIn Fence.wide n Tryz.prog ops Q (o::rest) a w:=
 wpListIn_plain hgd fun _ hK=>wp_in_wide (fun c' hc=>by rw[ho]at hc;cases hc) (wp_load_row ty x ho X hx T c fr d hB hu (by cases d<;>simp_all[TypeDesc.isRow]) hi (hK _ _ h))
end Go.Proofs.YtengibnpebfblaaGreatDoor
namespace Go.Proofs
open Go.Shelf
def Tryz.lays106_ren:Go.Shelf.Ren:=⟨fun|106=>70|213=>100|265=>120|n=>n,fun|9=>9|3=>3|n=>n,fun|n=>n⟩
theorem Tryz.lays106:Go.Proofs.Lays.n106 Tryz.prog Tryz.lays106_ren:={
 mixed:=by kernel_rfl
 f106:=Tryz.func70.trans (congrArg some (by kernel_rfl))
 f213:=Tryz.func100.trans (congrArg some (by kernel_rfl))
 f265:=Tryz.func120.trans (congrArg some (by kernel_rfl))
 t3:=Tryz.underlying3
 a3:=Tryz.isAgg3
 z3:=Tryz.sizeOf3
 v3:=Tryz.zeroValue3
 t9:=Tryz.underlying9
 a9:=Tryz.isAgg9
 z9:=Tryz.sizeOf9
 v9:=Tryz.zeroValue9}
open Go.RowKit in
theorem Tryz.strings_Compare (a b:ByteArray) (w:World):
  Calls Tryz.prog 70 #[.string a,.string b] w fun e w'=>e=.returned (.int .i64 (Lib.compareBytes a.data.toList b.data.toList))/\w'=w:=Any.strings_Compare Tryz.lays106 a b w
def Tryz.lays190_ren:Go.Shelf.Ren:=⟨fun|190=>135|125=>140|258=>148|128=>162|129=>163|302=>168|303=>169|304=>170|305=>171|306=>172|307=>173|308=>174|309=>175|310=>176|333=>186|329=>181|330=>182|334=>187|335=>188|336=>189|344=>193|n=>n,fun|31=>25|9=>9|3=>3|46=>134|0=>0|51=>90|53=>22|4=>4|183=>210|182=>209|131=>58|5=>5|218=>229|222=>233|228=>241|229=>166|n=>n,fun|n=>n⟩
theorem Tryz.lays190:Go.Proofs.Lays.n190 Tryz.prog Tryz.lays190_ren:={
 mixed:=by kernel_rfl
 f125:=Tryz.func140.trans (congrArg some (by kernel_rfl))
 f128:=Tryz.func162.trans (congrArg some (by kernel_rfl))
 f129:=Tryz.func163.trans (congrArg some (by kernel_rfl))
 f190:=Tryz.func135.trans (congrArg some (by kernel_rfl))
 f258:=Tryz.func148.trans (congrArg some (by kernel_rfl))
 f302:=Tryz.func168.trans (congrArg some (by kernel_rfl))
 f303:=Tryz.func169.trans (congrArg some (by kernel_rfl))
 f304:=Tryz.func170.trans (congrArg some (by kernel_rfl))
 f305:=Tryz.func171.trans (congrArg some (by kernel_rfl))
 f306:=Tryz.func172.trans (congrArg some (by kernel_rfl))
 f307:=Tryz.func173.trans (congrArg some (by kernel_rfl))
 f308:=Tryz.func174.trans (congrArg some (by kernel_rfl))
 f309:=Tryz.func175.trans (congrArg some (by kernel_rfl))
 f310:=Tryz.func176.trans (congrArg some (by kernel_rfl))
 f329:=Tryz.func181.trans (congrArg some (by kernel_rfl))
 f330:=Tryz.func182.trans (congrArg some (by kernel_rfl))
 f333:=Tryz.func186.trans (congrArg some (by kernel_rfl))
 f334:=Tryz.func187.trans (congrArg some (by kernel_rfl))
 f335:=Tryz.func188.trans (congrArg some (by kernel_rfl))
 f336:=Tryz.func189.trans (congrArg some (by kernel_rfl))
 f344:=Tryz.func193.trans (congrArg some (by kernel_rfl))
 t0:=Tryz.underlying0
 a0:=Tryz.isAgg0
 z0:=Tryz.sizeOf0
 v0:=Tryz.zeroValue0
 t3:=Tryz.underlying3
 a3:=Tryz.isAgg3
 z3:=Tryz.sizeOf3
 v3:=Tryz.zeroValue3
 t4:=Tryz.underlying4
 a4:=Tryz.isAgg4
 z4:=Tryz.sizeOf4
 v4:=Tryz.zeroValue4
 t5:=Tryz.underlying5
 a5:=Tryz.isAgg5
 z5:=Tryz.sizeOf5
 v5:=Tryz.zeroValue5
 t9:=Tryz.underlying9
 a9:=Tryz.isAgg9
 z9:=Tryz.sizeOf9
 v9:=Tryz.zeroValue9
 t31:=Tryz.underlying25
 a31:=Tryz.isAgg25
 z31:=Tryz.sizeOf25
 v31:=Tryz.zeroValue25
 t46:=Tryz.underlying134
 a46:=Tryz.isAgg134
 z46:=Tryz.sizeOf134
 v46:=Tryz.zeroValue134
 t51:=Tryz.underlying90
 a51:=Tryz.isAgg90
 z51:=Tryz.sizeOf90
 v51:=Tryz.zeroValue90
 t53:=Tryz.underlying22
 a53:=Tryz.isAgg22
 z53:=Tryz.sizeOf22
 v53:=Tryz.zeroValue22
 t131:=Tryz.underlying58
 a131:=Tryz.isAgg58
 z131:=Tryz.sizeOf58
 v131:=Tryz.zeroValue58
 t182:=Tryz.underlying209
 a182:=Tryz.isAgg209
 z182:=Tryz.sizeOf209
 v182:=Tryz.zeroValue209
 t183:=Tryz.underlying210
 a183:=Tryz.isAgg210
 z183:=Tryz.sizeOf210
 v183:=Tryz.zeroValue210
 t218:=Tryz.underlying229
 a218:=Tryz.isAgg229
 z218:=Tryz.sizeOf229
 v218:=Tryz.zeroValue229
 t222:=Tryz.underlying233
 a222:=Tryz.isAgg233
 z222:=Tryz.sizeOf233
 v222:=Tryz.zeroValue233
 t228:=Tryz.underlying241
 a228:=Tryz.isAgg241
 z228:=Tryz.sizeOf241
 v228:=Tryz.zeroValue241
 t229:=Tryz.underlying166
 a229:=Tryz.isAgg166
 z229:=Tryz.sizeOf166
 v229:=Tryz.zeroValue166}
open Go.Sort Go.RowKit in
theorem Tryz.slices_Sort_string (blk off cap:Nat) (ss:List (List UInt8)) (w:World) (hH:Holds encStr w blk off ss.toArray) (hblk:blk<w.heap.size) (hsz:ss.length<4611686018427387904):
  Calls Tryz.prog 135 #[.slice (some ⟨blk,off,none⟩) ss.length cap] w fun e w'=>
   e=.returned (.tuple #[])/\∃n os,w'=grow (putRow encStr (Sort.ahead w n) blk off (ss.mergeSort fun x y=>decide (x<=y)).toArray) os:=Any.slices_Sort_string Tryz.lays190 blk off cap ss w hH hblk hsz
def Tryz.laysNm216_ren:Go.Shelf.Ren:=⟨fun|16=>134|n=>n,fun|24=>25|9=>9|4=>4|n=>n,fun|n=>n⟩
theorem Tryz.laysNm216:Go.Proofs.Lays2.n16 Tryz.prog Tryz.laysNm216_ren:={
 mixed:=by kernel_rfl
 f16:=Tryz.func134.trans (congrArg some (by kernel_rfl))
 t4:=Tryz.underlying4
 a4:=Tryz.isAgg4
 z4:=Tryz.sizeOf4
 v4:=Tryz.zeroValue4
 t9:=Tryz.underlying9
 a9:=Tryz.isAgg9
 z9:=Tryz.sizeOf9
 v9:=Tryz.zeroValue9
 t24:=Tryz.underlying25
 a24:=Tryz.isAgg25
 z24:=Tryz.sizeOf25
 v24:=Tryz.zeroValue25
 i9:=by kernel_rfl}
open Go.RowKit Go.Lib in
theorem Tryz.slices_Clone_string (b off n c:Nat) (zs:List ByteArray) (w:World) (hz:n<=zs.length) (hbig:n*16<=140737488355328) (hc:∀j,j<zs.length->w.cell? ⟨b,off+j,none⟩=some (.string (zs.getD j ByteArray.empty))):
  Calls Tryz.prog 134 #[.slice (some ⟨b,off,none⟩) n c] w fun e w'=>∃v',e=.returned v'/\w'.ownsRow w.heap.size 9 1 v' n ((zs.take n).map (Value.string))/\v'≠.slice none 0 0/\Below w.heap.size w w':=Any.slices_Clone_string Tryz.laysNm216 b off n c zs w hz hbig hc
open Go.RowKit Go.Lib in
theorem Tryz.slices_Clone_string_nil (n c:Nat) (w:World):
  Calls Tryz.prog 134 #[.slice none n c] w fun e w'=>e=.returned (.slice none 0 0)/\w'=w:=Any.slices_Clone_string_nil Tryz.laysNm216 n c w
open Go.RowKit Go.Lib in
theorem Tryz.slices_Clone_string_zero (a:Addr) (c:Nat) (w:World):
  Calls Tryz.prog 134 #[.slice (some a) 0 c] w fun e w'=>∃v',e=.returned v'/\w'.ownsRow w.heap.size 9 1 v' 0 []/\v'≠.slice none 0 0/\Below w.heap.size w w':=Any.slices_Clone_string_zero Tryz.laysNm216 a c w
def Tryz.lays194_ren:Go.Shelf.Ren:=⟨fun|194=>136|n=>n,fun|31=>25|9=>9|3=>3|4=>4|0=>0|n=>n,fun|n=>n⟩
theorem Tryz.lays194:Go.Proofs.Lays.n194 Tryz.prog Tryz.lays194_ren:={
 mixed:=by kernel_rfl
 f194:=Tryz.func136.trans (congrArg some (by kernel_rfl))
 t0:=Tryz.underlying0
 a0:=Tryz.isAgg0
 z0:=Tryz.sizeOf0
 v0:=Tryz.zeroValue0
 t3:=Tryz.underlying3
 a3:=Tryz.isAgg3
 z3:=Tryz.sizeOf3
 v3:=Tryz.zeroValue3
 t4:=Tryz.underlying4
 a4:=Tryz.isAgg4
 z4:=Tryz.sizeOf4
 v4:=Tryz.zeroValue4
 t9:=Tryz.underlying9
 a9:=Tryz.isAgg9
 z9:=Tryz.sizeOf9
 v9:=Tryz.zeroValue9
 t31:=Tryz.underlying25
 a31:=Tryz.isAgg25
 z31:=Tryz.sizeOf25
 v31:=Tryz.zeroValue25}
open Go.RowKit Go.Lib Go.Sort in
theorem Tryz.slices_Compact_string (blk off cap:Nat) (zs:List (List UInt8)) (w:World) (hH:Holds encStr w blk off zs.toArray) (hsz:zs.length<=9223372036854775807) (hcap:zs.length<=cap):
  Calls Tryz.prog 136 #[.slice (some ⟨blk,off,none⟩) zs.length cap] w fun e w'=>e=.returned (.slice (some ⟨blk,off,none⟩) (Lib.compact zs).length cap)/\∃q,w'=putRow encStr (Sort.ahead w q) blk off (Lib.compact zs++List.replicate (zs.length-(Lib.compact zs).length) []).toArray:=Any.slices_Compact_string Tryz.lays194 blk off cap zs w hH hsz hcap
open Go.RowKit Go.Lib Go.Sort in
theorem Tryz.slices_Compact_string_empty (a:Option Addr) (cap:Nat) (w:World):
  Calls Tryz.prog 136 #[.slice a 0 cap] w fun e w'=>e=.returned (.slice a 0 cap)/\w'=w:=Any.slices_Compact_string_empty Tryz.lays194 a cap w
open Go.RowKit Go.Sort in
theorem Tryz.slices_Sort_string_none (p:Option Addr) (cap:Nat) (w:World):
  Calls Tryz.prog 135 #[.slice p 0 cap] w fun e w'=>e=.returned (.tuple #[])/\w'=w:=Any.slices_Sort_string_none Tryz.lays190 p cap w
end Go.Proofs
namespace Go.Proofs.YtengibnpebfblaaGreatDoor
open Go.RowKit
theorem compare_order:∀a b:List UInt8,Lib.compareBytes a b=orderS a b:=by
 intro a;induction a with
 |nil=>
  intro b;cases b<;>simp[Lib.compareBytes,orderS]
 |cons x l ih=>
  intro b;cases b with
  |nil=>simp[Lib.compareBytes,orderS]
  |cons y r=>
   simp only[Lib.compareBytes];by_cases h1:x<y
   ·have hne:¬x=y:=fun e=>by rw[e]at h1;exact absurd h1 (UInt8.lt_irrefl _)
    rw[if_pos h1];unfold orderS;rw[if_neg (by simp[hne]),if_pos (by rw[List.cons_lt_cons_iff];exact .inl h1)]
   ·rw[if_neg h1]
    by_cases h2:y<x
    ·have hne:¬x=y:=fun e=>by rw[e]at h2;exact absurd h2 (UInt8.lt_irrefl _)
     rw[if_pos h2];unfold orderS;rw[if_neg (by simp[hne]),if_neg (by
      rw[List.cons_lt_cons_iff];rintro(h|⟨h,_⟩)
      ·exact h1 h
      ·exact hne h)]
    ·rw[if_neg h2,ih]
     have e:x=y:=by
      rw[UInt8.lt_iff_toNat_lt]at h1 h2;exact UInt8.toNat_inj.1 (by omega)
     subst e;unfold orderS;have e1:(x::l=x::r)↔l=r:=by simp
     have e2:(x::l<x::r)↔l<r:=by
      rw[List.cons_lt_cons_iff];exact⟨fun h=>by rcases h with h|h;exact absurd h (UInt8.lt_irrefl _);exact h.2,fun h=>.inr ⟨rfl,h⟩⟩
     simp only[e1,e2]
theorem q_Order (a b:ByteArray) (w:World):Calls Tryz.prog 40 #[.string a,.string b] w fun e w'=>e=.returned (.int .i64 (orderS a.data.toList b.data.toList))/\w=w':=by
 have HC:=Lib.hid (fun w=>Tryz.strings_Compare a b w);rw[compare_order]at HC;go_enter Tryz.func40,Tryz.ntmps40;go_wp2_with fail
 refine(HC.out _).mono ?_;rintro e w1 ⟨rfl,rfl⟩;go_wp2_with fail
 go_ret;exact⟨rfl,rfl⟩
theorem wpList_append_known {P:Program} {ops:Array Oper} {rest:List Oper} {o:Oper} {a:Act} {Q:Exit->Act->World->Prop} {w w':World} (hgd:o.guard=none) (p x:Operand) (t t':TypeId)
  (ho:o.op=.call {callee:=.builtin .append,args:=#[p,x],argTypes:=#[t,t']}) {vp vx v':Value} (hp:a.eval p=vp) (hx:a.eval x=vx)
  (hr:∀ty,(Builtin.append_ #[t,t'] ty #[vp,vx]).run P w=.ok v' w') (h:wpList P ops Q rest (a.put o.dst v') w'):wpList P ops Q (o::rest) a w:=by
 refine wpList_plain hgd fun K hK=> ?_
 unfold Oper.wp execOp;simp only[ho,resolve,invoke,builtin,Sem.run_bind,Sem.run_pure,Result.andThen_ok,List.map_toArray,List.map_cons,List.map_nil,hp,hx,hr];exact hK _ _ h
theorem rnode_info:(Tryz.prog.info? 86).map (fun i=>(i.zero,i.size,i.bytes))=some (some (.agg #[.int .i64 0,.int .i64 0,.slice none 0 0,.slice none 0 0]),4,64):=by kernel_rfl
theorem rnode_size:(Tryz.prog.info? 86).map (·.size)=some 4:=by kernel_rfl
theorem below_of_grown {B:Nat} {w w':World} {row:Option Nat} (hg:w.grownBy w' row) (hB:B<=w.heap.size) (hr:∀k,row=some k->B<=k):Below B w w':=(Below.refl B w).grown hg hB (fun k e=>hr k e)
theorem gr_val (n:Nat) (hn:n<=200000) (w:World):Calls Tryz.prog 165 #[.slice none 0 0,.int .i64 (n:Int)] w fun e w'=>∃v,e=.returned v/\w'.ownsRow w.heap.size 35 4 v 0 []/\Below w.heap.size w w':=by
 by_cases h0:n=0
 ·subst h0
  go_enter Tryz.func165,Tryz.ntmps165;go_wp2
  go_ret;exact⟨_,rfl,World.ownsRow_nil _ _ _ _,Below.refl _ _⟩
 ·obtain⟨i,hi,hz,h1,h2⟩:=info_parts val_info
  have hrun:∀ty,(Builtin.append_ #[52,3] ty #[.slice none 0 0,.int .i64 (n:Int)]).run Tryz.prog w=.ok (.slice (some ⟨w.heap.size,0,none⟩) n (grownCap w n 0 35)) (w.drew.alloc (.cells (Builtin.zeroCells (.agg (celC zeroV):Value).cells n++Builtin.zeroCells (.agg (celC zeroV):Value).cells (grownCap w n 0 35-n)) 35)):=fun ty=>by
   have h:=Lib.run_append_grow_zeros (P:=Tryz.prog) w 52 3 ty 35 i (.agg (celC zeroV)) .i64 .i64 Tryz.underlying52 Tryz.underlying3 hi hz none 0 0 [] (run_firstCells_none w.drew i.size 0 0 0) n (by omega) (by omega) (by omega) (by omega) (by rw[h2];omega)
    (by rw[Nat.zero_add,h2];exact growslice_fits (by omega) (by omega))
   simpa using h
  have hG1:=grownCap_ge w n 0 35;have hG2:=grownCap_le_maxLen w n 0 35 (by unfold maxLen;omega);obtain⟨G,hG⟩:∃G,G=grownCap w n 0 35:=⟨_,rfl⟩
  rw[<-hG]at hrun hG1 hG2;have hG3:(G:Int)<=9223372036854775807:=by unfold maxLen at hG2;omega
  have hn3:(n:Int)<=200000:=by omega
  have hn0:(0:Int)<n:=by omega
  have HRUN:=iH hrun;have HG1:=iH hG1;have HG2:=iH hG2;have HN:=iH hn;clear hrun hG1 hG2 h0 hG hn;go_enter Tryz.func165,Tryz.ntmps165;go_wp2_with (refine wpList_append_known rfl _ _ _ _ rfl rfl rfl HRUN.out ?_)
  go_ret;refine⟨_,rfl,World.ownsRow_made w.drew _ G (Nat.le_refl _) HG2.out ?_,Below.more (drawn_below w) _⟩;have:=HG1.out;rw[Array.size_append,size_zeroCells,size_zeroCells];show n*4+(G-n)*4=G*4;omega
theorem cc_val {α:Type} {enc:α->List Value} (hone:∀x,∀u∈enc x,u.oneCell'=true) (w:World) {S:Nat->Prop} (B:Nat) (ls:List (Value×List α))
  (hcells:∀k (hk:k<ls.length),w.cell? ⟨B,k,none⟩=some ls[k].1) (hcut:∀p∈ls,CutAt S w 4 p.1 (en enc p.2) p.2.length) (hN:(catE ls ls.length).length<=100000) (hl:ls.length<=1000):
  Calls Tryz.prog 142 #[.slice (some ⟨B,0,none⟩) ls.length ls.length] w fun e w'=>∃v,e=.returned v/\CutAt (fun g=>w.heap.size<=g) w' 4 v (en enc (catE ls ls.length)) (catE ls ls.length).length/\Below w.heap.size w w':=by
 obtain⟨i,hi,hz,h1,h2⟩:=info_parts val_info;have HS:=iH hcut;have HC:=iH hcells;have HN:=iH hN;have HI:=iH (And.intro hi (And.intro hz (And.intro h1 h2)));clear hcut hcells hi hz h1 h2 hN;go_enter Tryz.func142,Tryz.ntmps142;go_wp2_with fail
 go_loopw [3,11] (fun n i wr=>∃k:Nat,k<=ls.length/\i=.int .i64 k/\n=.int .i64 ((catE ls k).length:Nat)/\w=wr) (fun _ i _=>ls.length-(intOf i).toNat)
 case atStart=>exact⟨0,Nat.zero_le _,rfl,rfl,rfl⟩
 case round=>
  obtain⟨k,hk,rfl,rfl,rfl⟩:=hrel;by_cases hlt:k<ls.length
  ·have hc:=HC.out k hlt
   obtain⟨a,cap,ha,_⟩:=HS.out _ (List.getElem_mem hlt);have hle:=catE_le (ls:=ls) (k+1) hlt (Nat.le_refl _);have hle':((catE ls (k+1)).length:Int)<=100000:=by have:=HN.out;omega
   have hs:=catE_succ hlt;have hsl:((catE ls (k+1)).length:Int)=(catE ls k).length+ls[k].2.length:=by rw[hs,List.length_append];omega
   rw[hsl]at hle';have HSL:=iH hsl;rw[ha]at hc;have hp0:¬(((catE ls k).length:Int)+(ls[k].2.length:Int)<0):=by omega
   clear hs hsl hle;go_wp2_with fail
   go_roundw
   case rel=>exact⟨k+1,by omega,by simp,by rw[HSL.out],trivial⟩
   case measure=>simp[intOf];omega
  ·obtain rfl:k=ls.length:=by omega
   obtain⟨N,hN⟩:∃N,N=(catE ls ls.length).length:=⟨_,rfl⟩
   have HGR:=iH (gr_val N (by have:=HN.out;omega) w);have HNN:=iH hN;rw[<-hN];clear hN;go_wp2_with (go_at_call 165;refine HGR.out.mono ?_;rintro e w1 ⟨v1,rfl,ho1,hb1⟩;have HO1:=iH ho1;have HB1:=iH hb1;clear ho1 hb1)
   go_loopw [6,27] (fun nv i wr=>∃k:Nat,k<=ls.length/\i=.int .i64 k/\Hid (wr.ownsRow w.heap.size 35 4 nv (catE ls k).length (en enc (catE ls k)))/\Hid (Below w.heap.size w wr)) (fun _ i _=>ls.length-(intOf i).toNat)
   case atStart=>exact⟨0,Nat.zero_le _,rfl,HO1,HB1⟩
   case round=>
    clear HO1 HB1;obtain⟨k,hk,rfl,HO,HB⟩:=hrel;by_cases hlt:k<ls.length
    ·have hc:=(HB.out.cell (p:=⟨B,k,none⟩) (World.block_lt_of_cell? _ _ (HC.out k hlt))).trans (HC.out k hlt)
     have HCUT:=iH ((HS.out _ (List.getElem_mem hlt)).later HB.out);have hle:=catE_le (ls:=ls) (k+1) hlt (Nat.le_refl _);have HS2:=iH (catE_succ hlt);have HLE:Hid ((catE ls k).length+ls[k].2.length<=100000):=by show _<=_;rw[HS2.out,List.length_append]at hle;have:=HN.out;omega
     clear hle;go_wp2_with (refine wpList_append_cut rfl _ _ 52 rfl w.heap.size 35 i (.agg (celC zeroV)) 40 Tryz.underlying52 HI.out.1 HI.out.2.1 HI.out.2.2.1 HI.out.2.2.2 rfl (by decide) rfl HO.out rfl HCUT.out (en_one hone _) (by have:=HLE.out;unfold maxLen;omega) (by have:=HLE.out;omega) HB.out.size ?_;intro v2 w2 ho2 hg2;have HO2:=iH ho2;have HB2:=iH (HB.out.trans (below_of_grown hg2 HB.out.size (ownsRow_low HO.out)));clear ho2 hg2)
     go_roundw
     case rel=>exact⟨k+1,by omega,by simp,by rw[HS2.out,List.length_append,en_app];exact HO2,HB2⟩
     case measure=>simp[intOf];omega
    ·obtain rfl:k=ls.length:=by omega
     go_wp2_with fail
     go_ret;exact⟨_,rfl,by rw[HNN.out];exact ownsRow_cut HO.out,HB.out⟩
theorem gr_node (n:Nat) (hn:n<=200000) (w:World):Calls Tryz.prog 164 #[.slice none 0 0,.int .i64 (n:Int)] w fun e w'=>∃v,e=.returned v/\w'.ownsRow w.heap.size 86 4 v 0 []/\Below w.heap.size w w':=by
 by_cases h0:n=0
 ·subst h0
  go_enter Tryz.func164,Tryz.ntmps164;go_wp2
  go_ret;exact⟨_,rfl,World.ownsRow_nil _ _ _ _,Below.refl _ _⟩
 ·obtain⟨i,hi,hz,h1,h2⟩:=info_parts rnode_info
  have hrun:∀ty,(Builtin.append_ #[84,3] ty #[.slice none 0 0,.int .i64 (n:Int)]).run Tryz.prog w=.ok (.slice (some ⟨w.heap.size,0,none⟩) n (grownCap w n 0 86)) (w.drew.alloc (.cells (Builtin.zeroCells (.agg #[.int .i64 0,.int .i64 0,.slice none 0 0,.slice none 0 0]:Value).cells n++Builtin.zeroCells (.agg #[.int .i64 0,.int .i64 0,.slice none 0 0,.slice none 0 0]:Value).cells (grownCap w n 0 86-n)) 86)):=fun ty=>by
   have h:=Lib.run_append_grow_zeros (P:=Tryz.prog) w 84 3 ty 86 i (.agg #[.int .i64 0,.int .i64 0,.slice none 0 0,.slice none 0 0]) .i64 .i64 Tryz.underlying84 Tryz.underlying3 hi hz none 0 0 [] (run_firstCells_none w.drew i.size 0 0 0) n (by omega) (by omega) (by omega) (by omega) (by rw[h2];omega)
    (by rw[Nat.zero_add,h2];exact growslice_fits (by omega) (by omega))
   simpa using h
  have hG1:=grownCap_ge w n 0 86;have hG2:=grownCap_le_maxLen w n 0 86 (by unfold maxLen;omega);obtain⟨G,hG⟩:∃G,G=grownCap w n 0 86:=⟨_,rfl⟩
  rw[<-hG]at hrun hG1 hG2;have hG3:(G:Int)<=9223372036854775807:=by unfold maxLen at hG2;omega
  have hn3:(n:Int)<=200000:=by omega
  have hn0:(0:Int)<n:=by omega
  have HRUN:=iH hrun;have HG1:=iH hG1;have HG2:=iH hG2;have HN:=iH hn;clear hrun hG1 hG2 h0 hG hn;go_enter Tryz.func164,Tryz.ntmps164;go_wp2_with (refine wpList_append_known rfl _ _ _ _ rfl rfl rfl HRUN.out ?_)
  go_ret;refine⟨_,rfl,World.ownsRow_made w.drew _ G (Nat.le_refl _) HG2.out ?_,Below.more (drawn_below w) _⟩;have:=HG1.out;rw[Array.size_append,size_zeroCells,size_zeroCells];show n*4+(G-n)*4=G*4;omega
theorem cc_node {α:Type} {enc:α->List Value} (hone:∀x,∀u∈enc x,u.oneCell'=true) (w:World) {S:Nat->Prop} (B:Nat) (ls:List (Value×List α))
  (hcells:∀k (hk:k<ls.length),w.cell? ⟨B,k,none⟩=some ls[k].1) (hcut:∀p∈ls,CutAt S w 4 p.1 (en enc p.2) p.2.length) (hN:(catE ls ls.length).length<=100000) (hl:ls.length<=1000):
  Calls Tryz.prog 141 #[.slice (some ⟨B,0,none⟩) ls.length ls.length] w fun e w'=>∃v,e=.returned v/\CutAt (fun g=>w.heap.size<=g) w' 4 v (en enc (catE ls ls.length)) (catE ls ls.length).length/\Below w.heap.size w w':=by
 obtain⟨i,hi,hz,h1,h2⟩:=info_parts rnode_info;have HS:=iH hcut;have HC:=iH hcells;have HN:=iH hN;have HI:=iH (And.intro hi (And.intro hz (And.intro h1 h2)));clear hcut hcells hi hz h1 h2 hN;go_enter Tryz.func141,Tryz.ntmps141;go_wp2_with fail
 go_loopw [3,11] (fun n i wr=>∃k:Nat,k<=ls.length/\i=.int .i64 k/\n=.int .i64 ((catE ls k).length:Nat)/\w=wr) (fun _ i _=>ls.length-(intOf i).toNat)
 case atStart=>exact⟨0,Nat.zero_le _,rfl,rfl,rfl⟩
 case round=>
  obtain⟨k,hk,rfl,rfl,rfl⟩:=hrel;by_cases hlt:k<ls.length
  ·have hc:=HC.out k hlt
   obtain⟨a,cap,ha,_⟩:=HS.out _ (List.getElem_mem hlt);have hle:=catE_le (ls:=ls) (k+1) hlt (Nat.le_refl _);have hle':((catE ls (k+1)).length:Int)<=100000:=by have:=HN.out;omega
   have hs:=catE_succ hlt;have hsl:((catE ls (k+1)).length:Int)=(catE ls k).length+ls[k].2.length:=by rw[hs,List.length_append];omega
   rw[hsl]at hle';have HSL:=iH hsl;rw[ha]at hc;have hp0:¬(((catE ls k).length:Int)+(ls[k].2.length:Int)<0):=by omega
   clear hs hsl hle;go_wp2_with fail
   go_roundw
   case rel=>exact⟨k+1,by omega,by simp,by rw[HSL.out],trivial⟩
   case measure=>simp[intOf];omega
  ·obtain rfl:k=ls.length:=by omega
   obtain⟨N,hN⟩:∃N,N=(catE ls ls.length).length:=⟨_,rfl⟩
   have HGR:=iH (gr_node N (by have:=HN.out;omega) w);have HNN:=iH hN;rw[<-hN];clear hN;go_wp2_with (go_at_call 164;refine HGR.out.mono ?_;rintro e w1 ⟨v1,rfl,ho1,hb1⟩;have HO1:=iH ho1;have HB1:=iH hb1;clear ho1 hb1)
   go_loopw [6,27] (fun nv i wr=>∃k:Nat,k<=ls.length/\i=.int .i64 k/\Hid (wr.ownsRow w.heap.size 86 4 nv (catE ls k).length (en enc (catE ls k)))/\Hid (Below w.heap.size w wr)) (fun _ i _=>ls.length-(intOf i).toNat)
   case atStart=>exact⟨0,Nat.zero_le _,rfl,HO1,HB1⟩
   case round=>
    clear HO1 HB1;obtain⟨k,hk,rfl,HO,HB⟩:=hrel;by_cases hlt:k<ls.length
    ·have hc:=(HB.out.cell (p:=⟨B,k,none⟩) (World.block_lt_of_cell? _ _ (HC.out k hlt))).trans (HC.out k hlt)
     have HCUT:=iH ((HS.out _ (List.getElem_mem hlt)).later HB.out);have hle:=catE_le (ls:=ls) (k+1) hlt (Nat.le_refl _);have HS2:=iH (catE_succ hlt);have HLE:Hid ((catE ls k).length+ls[k].2.length<=100000):=by show _<=_;rw[HS2.out,List.length_append]at hle;have:=HN.out;omega
     clear hle;go_wp2_with (refine wpList_append_cut rfl _ _ 84 rfl w.heap.size 86 i (.agg #[.int .i64 0,.int .i64 0,.slice none 0 0,.slice none 0 0]) 64 Tryz.underlying84 HI.out.1 HI.out.2.1 HI.out.2.2.1 HI.out.2.2.2 rfl (by decide) rfl HO.out rfl HCUT.out (en_one hone _) (by have:=HLE.out;unfold maxLen;omega) (by have:=HLE.out;omega) HB.out.size ?_;intro v2 w2 ho2 hg2;have HO2:=iH ho2;have HB2:=iH (HB.out.trans (below_of_grown hg2 HB.out.size (ownsRow_low HO.out)));clear ho2 hg2)
     go_roundw
     case rel=>exact⟨k+1,by omega,by simp,by rw[HS2.out,List.length_append,en_app];exact HO2,HB2⟩
     case measure=>simp[intOf];omega
    ·obtain rfl:k=ls.length:=by omega
     go_wp2_with fail
     go_ret;exact⟨_,rfl,by rw[HNN.out];exact ownsRow_cut HO.out,HB.out⟩
end Go.Proofs.YtengibnpebfblaaGreatDoor
namespace Go.Proofs
open Go.Shelf
def Tryz.searchL_ren:Go.Shelf.Ren:=⟨fun|14=>144|n=>n,fun|22=>94|24=>161|29=>9|32=>200|3=>3|4=>4|35=>134|0=>0|n=>n,fun|n=>n⟩
theorem Tryz.searchL:Go.Proofs.SlLaysG2.n14 Tryz.prog Tryz.searchL_ren:={
 mixed:=by kernel_rfl
 f14:=⟨Tryz.f144.name,by decide,Tryz.func144.trans (congrArg some (by kernel_rfl))⟩
 t0:=Tryz.underlying0
 a0:=Tryz.isAgg0
 z0:=Tryz.sizeOf0
 v0:=Tryz.zeroValue0
 t3:=Tryz.underlying3
 a3:=Tryz.isAgg3
 z3:=Tryz.sizeOf3
 v3:=Tryz.zeroValue3
 t4:=Tryz.underlying4
 a4:=Tryz.isAgg4
 z4:=Tryz.sizeOf4
 v4:=Tryz.zeroValue4
 t22:=Tryz.underlying94
 a22:=Tryz.isAgg94
 z22:=Tryz.sizeOf94
 v22:=Tryz.zeroValue94
 a24:=Tryz.isAgg161
 z24:=Tryz.sizeOf161
 a29:=Tryz.isAgg9
 z29:=Tryz.sizeOf9
 t32:=Tryz.underlying200
 a32:=Tryz.isAgg200
 z32:=Tryz.sizeOf200
 v32:=Tryz.zeroValue200
 t35:=Tryz.underlying134
 a35:=Tryz.isAgg134
 z35:=Tryz.sizeOf134
 v35:=Tryz.zeroValue134}
end Go.Proofs
