import Derived.Test.YtengibnpebfblaaGreatDoorQ0
import Derived.Test.YtengibnpebfblaaGreatDoorQ4
set_option maxRecDepth 1000000
set_option maxHeartbeats 8000000
set_option linter.unusedSimpArgs false
namespace Go.Proofs.YtengibnpebfblaaGreatDoor
open Go.RowKit
theorem yC:(Tryz.prog.info? 35).map (fun i=>(i.zero,i.size,i.bytes))=some (some (.agg (aX gT)),4,40):=by kernel_rfl
theorem aR:(Tryz.prog.info? 35).map (·.size)=some 4:=by kernel_rfl
abbrev ivV (l:List Cel):List Value:=en enV l
open Go.Shelf
attribute [local go_sem] fK
theorem pQ {A B:World} {X:Nat} {t:TypeId} {v:Value} {row:Option Nat} (h:Boxed A X t v) (hg:A.grownBy B row) (hr:∀r,row=some r->∃o:Obj,A.heap[r]? =some o/\o.isCells=false):Boxed B X t v:=
 aED (β:=Unit) X t (fun _=>v) () A B row h hg hr
theorem oS {A B:World} {k:Nat} {cs:Array Value} {T:TypeId} {fr:Nat×Nat} {row:Option Nat} (h:A.heap[k]? =some (.cells cs T fr)) (hg:A.grownBy B row) (hr:∀r,row=some r->∃o:Obj,A.heap[r]? =some o/\o.isCells=false):B.heap[k]? =some (.cells cs T fr):=by
 refine(hg.block _ (gZ h) fun e=> ?_).trans h;obtain⟨o,ho,hc⟩:=hr k e.symm;rw[h]at ho;cases ho
 cases hc
theorem aAt {A B:World} (h:Below A.heap.size A B):KeepsOthers A B:=⟨h.size,fun k _ hk _=>(h.block k (gZ hk)).trans hk⟩
end Go.Proofs.YtengibnpebfblaaGreatDoor
namespace Go.Proofs.YtengibnpebfblaaGreatDoor
open Go.RowKit
theorem gB (a:List UInt8):¬a<a:=List.lt_irrefl a
theorem iU (a b:List UInt8):dM a b= -1\/dM a b=0\/dM a b=1:=by
 unfold dM;split
 ·exact .inr (.inl rfl)
 ·split
  ·exact .inl rfl
  ·exact .inr (.inr rfl)
theorem gJ (a b:List UInt8):dM a b=0↔a=b:=by
 unfold dM;split
 ·simp[*]
 ·split<;>simp[*]
theorem iD (a b:List UInt8):dM a b= -1↔a<b:=by
 unfold dM;split
 ·rename_i h;subst h;simp[gB]
 ·split<;>simp[*]
theorem aDN (a b:List UInt8) (h:¬a=b):a<b\/b<a:=by
 rcases List.le_total a b with h1|h1
 ·rcases vZ (a<b)with h2|h2
  ·exact .inl h2
  ·exact absurd (aJF h1 (List.not_lt.1 h2)) h
 ·rcases vZ (b<a)with h2|h2
  ·exact .inr h2
  ·exact absurd (aJF (List.not_lt.1 h2) h1) h
theorem xL (a b:List UInt8):dM a b= -dM b a:=by
 by_cases h:a=b
 ·subst h
  rw[(gJ a a).2 rfl];rfl
 ·rcases aDN a b h with h1|h1
  ·have h2:¬b<a:=fun h2=>gB a (iG h1 h2)
   have:=iU b a;rw[(iD a b).2 h1];have h3:=gJ b a;have h4:=iD b a;rcases this with e|e|e
   ·exact absurd (h4.1 e) h2
   ·exact absurd (h3.1 e).symm h
   ·rw[e]
  ·have h2:¬a<b:=fun h2=>gB a (iG h2 h1)
   have:=iU a b;rw[(iD b a).2 h1];have h3:=gJ a b;have h4:=iD a b;rcases this with e|e|e
   ·exact absurd (h4.1 e) h2
   ·exact absurd (h3.1 e) h
   ·rw[e];rfl
theorem yO (a b c:List UInt8) (h1:dM a b<=0) (h2:dM b c<=0):dM a c<=0/\(dM a b=0/\dM b c=0\/dM a c<0):=by
 have le:∀x y,dM x y<=0->x=y\/x<y:=fun x y h=>by
  rcases iU x y with e|e|e
  ·exact .inr ((iD x y).1 e)
  ·exact .inl ((gJ x y).1 e)
  ·omega
 rcases le a b h1 with rfl|e1
 ·have e:=(gJ a a).2 rfl
  refine⟨h2,?_⟩;rcases iU a c with e2|e2|e2
  ·exact .inr uAu
  ·exact .inl ⟨e,e2⟩
  ·omega
 ·rcases le b c h2 with rfl|e2
  ·have:=(iD a b).2 e1
   exact⟨h1,.inr uAu⟩
  ·have:=(iD a c).2 (iG e1 e2)
   exact⟨by omega,.inr uAu⟩
end Go.Proofs.YtengibnpebfblaaGreatDoor
namespace Go.Proofs.YtengibnpebfblaaGreatDoor
open Go.RowKit Go.Shelf
attribute [local go_sem] fK
theorem wZ {P:Program} {Q:Exit->Act->World->Prop} {n:Nat} {o:Oper} {a:Act} {w:World} {K:Act->World->Prop} (hd:∀c,o.op≠.defer c) (h:o.wp P a w K Q):o.wpIn Fence.wide n P a w K Q:=by
 unfold Oper.wpIn;refine⟨fun _ _=>trivial,?_⟩;rw[Oper.semAt_eq _ _ _ hd];unfold Oper.wp at h;generalize(execOp a.eval o).run P w=r at h ⊢;cases r with
 |ok x w'=>
  cases x with
  |value v=>exact h
  |skip=>exact h
  |defer d=>exact h
  |enter f args=>exact⟨fun hh=>by simp[Fence.wide]at hh,cY.2 h⟩
  |row row args=>exact⟨fun hh=>by simp[Fence.wide]at hh,fun c cs _=>by obtain⟨v,w',r,s⟩:=h c cs;exact⟨v,w',r,stepsIn_wide.2 s⟩⟩
  |_=>exact h.elim
 |halt x w'=>
  cases x with
  |panic v=>exact h
  |_=>exact h.elim
theorem yV {ops:Array Oper} {rest:List Oper} {o:Oper} {a:Act} {w:World} {Q:Exit->Act->World->Prop} {n:Nat} (hgd:o.guard=none) (ty:TypeId) (x:Operand) (ho:o.op=.load ty x)
  (X:Nat) (hx:a.eval x=.pointer (some ⟨X,0,none⟩)) (T:TypeId) (c:Array Value) (fr:Nat×Nat) (d:TypeDesc) (hB:w.heap[X]? =some (.cells c T fr))
  (hu:Tryz.prog.underlying ty=some d) (hd:d.isRow=true) (hi:(Tryz.prog.info? ty).map (·.size)=some c.size)
  (h:wpListIn Fence.wide n Tryz.prog ops Q rest (a.put o.dst (.agg c)) w):wpListIn Fence.wide n Tryz.prog ops Q (o::rest) a w:=
 aDv hgd fun _ hK=>wZ (fun c' hc=>by rw[ho]at hc;cases hc) (wp_load_row ty x ho X hx T c fr d hB hu uHw hi (hK _ _ h))
end Go.Proofs.YtengibnpebfblaaGreatDoor
namespace Go.Proofs
open Go.Shelf
def Tryz.lays106_ren:Go.Shelf.Ren:=⟨fun|106=>70|213=>100|265=>120|n=>n,fun|9=>9|3=>3|n=>n,fun|n=>n⟩
theorem Tryz.lays106:Go.Proofs.Lays.n106 Tryz.prog Tryz.lays106_ren:={
 mixed:=by kernel_rfl
 f106:=Tryz.func70.trans (bH some hO)
 f213:=Tryz.func100.trans (bH some hO)
 f265:=Tryz.func120.trans (bH some hO)
 t3:=Tryz.underlying3
 a3:=Tryz.isAgg3
 z3:=Tryz.sizeOf3
 v3:=Tryz.zeroValue3
 t9:=Tryz.underlying9
 a9:=Tryz.isAgg9
 z9:=Tryz.sizeOf9
 v9:=Tryz.zeroValue9}
open Go.RowKit in
theorem Tryz.strings_Compare (a b:ByteArray) (w:World):
  Calls Tryz.prog 70 #[.string a,.string b] w fun e w'=>e=.returned (.int .i64 (Lib.compareBytes a.data.toList b.data.toList))/\w'=w:=Any.strings_Compare Tryz.lays106 a b w
def Tryz.lays190_ren:Go.Shelf.Ren:=⟨fun|190=>135|125=>140|258=>148|128=>162|129=>163|302=>168|303=>169|304=>170|305=>171|306=>172|307=>173|308=>174|309=>175|310=>176|333=>186|329=>181|330=>182|334=>187|335=>188|336=>189|344=>193|n=>n,fun|31=>25|9=>9|3=>3|46=>134|0=>0|51=>90|53=>22|4=>4|183=>210|182=>209|131=>58|5=>5|218=>229|222=>233|228=>241|229=>166|n=>n,fun|n=>n⟩
theorem Tryz.lays190:Go.Proofs.Lays.n190 Tryz.prog Tryz.lays190_ren:={
 mixed:=by kernel_rfl
 f125:=Tryz.func140.trans (bH some hO)
 f128:=Tryz.func162.trans (bH some hO)
 f129:=Tryz.func163.trans (bH some hO)
 f190:=Tryz.func135.trans (bH some hO)
 f258:=Tryz.func148.trans (bH some hO)
 f302:=Tryz.func168.trans (bH some hO)
 f303:=Tryz.func169.trans (bH some hO)
 f304:=Tryz.func170.trans (bH some hO)
 f305:=Tryz.func171.trans (bH some hO)
 f306:=Tryz.func172.trans (bH some hO)
 f307:=Tryz.func173.trans (bH some hO)
 f308:=Tryz.func174.trans (bH some hO)
 f309:=Tryz.func175.trans (bH some hO)
 f310:=Tryz.func176.trans (bH some hO)
 f329:=Tryz.func181.trans (bH some hO)
 f330:=Tryz.func182.trans (bH some hO)
 f333:=Tryz.func186.trans (bH some hO)
 f334:=Tryz.func187.trans (bH some hO)
 f335:=Tryz.func188.trans (bH some hO)
 f336:=Tryz.func189.trans (bH some hO)
 f344:=Tryz.func193.trans (bH some hO)
 t0:=Tryz.underlying0
 a0:=Tryz.isAgg0
 z0:=Tryz.sizeOf0
 v0:=Tryz.zeroValue0
 t3:=Tryz.underlying3
 a3:=Tryz.isAgg3
 z3:=Tryz.sizeOf3
 v3:=Tryz.zeroValue3
 t4:=Tryz.underlying4
 a4:=Tryz.isAgg4
 z4:=Tryz.sizeOf4
 v4:=Tryz.zeroValue4
 t5:=Tryz.underlying5
 a5:=Tryz.isAgg5
 z5:=Tryz.sizeOf5
 v5:=Tryz.zeroValue5
 t9:=Tryz.underlying9
 a9:=Tryz.isAgg9
 z9:=Tryz.sizeOf9
 v9:=Tryz.zeroValue9
 t31:=Tryz.underlying25
 a31:=Tryz.isAgg25
 z31:=Tryz.sizeOf25
 v31:=Tryz.zeroValue25
 t46:=Tryz.underlying134
 a46:=Tryz.isAgg134
 z46:=Tryz.sizeOf134
 v46:=Tryz.zeroValue134
 t51:=Tryz.underlying90
 a51:=Tryz.isAgg90
 z51:=Tryz.sizeOf90
 v51:=Tryz.zeroValue90
 t53:=Tryz.underlying22
 a53:=Tryz.isAgg22
 z53:=Tryz.sizeOf22
 v53:=Tryz.zeroValue22
 t131:=Tryz.underlying58
 a131:=Tryz.isAgg58
 z131:=Tryz.sizeOf58
 v131:=Tryz.zeroValue58
 t182:=Tryz.underlying209
 a182:=Tryz.isAgg209
 z182:=Tryz.sizeOf209
 v182:=Tryz.zeroValue209
 t183:=Tryz.underlying210
 a183:=Tryz.isAgg210
 z183:=Tryz.sizeOf210
 v183:=Tryz.zeroValue210
 t218:=Tryz.underlying229
 a218:=Tryz.isAgg229
 z218:=Tryz.sizeOf229
 v218:=Tryz.zeroValue229
 t222:=Tryz.underlying233
 a222:=Tryz.isAgg233
 z222:=Tryz.sizeOf233
 v222:=Tryz.zeroValue233
 t228:=Tryz.underlying241
 a228:=Tryz.isAgg241
 z228:=Tryz.sizeOf241
 v228:=Tryz.zeroValue241
 t229:=Tryz.underlying166
 a229:=Tryz.isAgg166
 z229:=Tryz.sizeOf166
 v229:=Tryz.zeroValue166}
open Go.Sort Go.RowKit in
theorem Tryz.slices_Sort_string (blk off cap:Nat) (ss:List (List UInt8)) (w:World) (hH:Holds encStr w blk off ss.toArray) (hblk:blk<w.heap.size) (hsz:ss.length<4611686018427387904):
  Calls Tryz.prog 135 #[.slice (some ⟨blk,off,none⟩) ss.length cap] w fun e w'=>
   e=.returned (.tuple #[])/\∃n os,w'=grow (putRow encStr (Sort.ahead w n) blk off (ss.mergeSort fun x y=>decide (x<=y)).toArray) os:=Any.slices_Sort_string Tryz.lays190 blk off cap ss w hH hblk hsz
def Tryz.laysNm216_ren:Go.Shelf.Ren:=⟨fun|16=>134|n=>n,fun|24=>25|9=>9|4=>4|n=>n,fun|n=>n⟩
theorem Tryz.laysNm216:Go.Proofs.Lays2.n16 Tryz.prog Tryz.laysNm216_ren:={
 mixed:=by kernel_rfl
 f16:=Tryz.func134.trans (bH some hO)
 t4:=Tryz.underlying4
 a4:=Tryz.isAgg4
 z4:=Tryz.sizeOf4
 v4:=Tryz.zeroValue4
 t9:=Tryz.underlying9
 a9:=Tryz.isAgg9
 z9:=Tryz.sizeOf9
 v9:=Tryz.zeroValue9
 t24:=Tryz.underlying25
 a24:=Tryz.isAgg25
 z24:=Tryz.sizeOf25
 v24:=Tryz.zeroValue25
 i9:=by kernel_rfl}
open Go.RowKit Go.Lib in
theorem Tryz.slices_Clone_string (b off n c:Nat) (zs:List ByteArray) (w:World) (hz:n<=zs.length) (hbig:n*16<=140737488355328) (hc:∀j,j<zs.length->w.cell? ⟨b,off+j,none⟩=some (.string (zs.getD j ByteArray.empty))):
  Calls Tryz.prog 134 #[.slice (some ⟨b,off,none⟩) n c] w fun e w'=>∃v',e=.returned v'/\w'.ownsRow w.heap.size 9 1 v' n ((zs.take n).map (Value.string))/\v'≠.slice none 0 0/\Below w.heap.size w w':=Any.slices_Clone_string Tryz.laysNm216 b off n c zs w hz hbig hc
open Go.RowKit Go.Lib in
theorem Tryz.slices_Clone_string_nil (n c:Nat) (w:World):
  Calls Tryz.prog 134 #[.slice none n c] w fun e w'=>e=.returned (.slice none 0 0)/\w'=w:=Any.slices_Clone_string_nil Tryz.laysNm216 n c w
open Go.RowKit Go.Lib in
theorem Tryz.slices_Clone_string_zero (a:Addr) (c:Nat) (w:World):
  Calls Tryz.prog 134 #[.slice (some a) 0 c] w fun e w'=>∃v',e=.returned v'/\w'.ownsRow w.heap.size 9 1 v' 0 []/\v'≠.slice none 0 0/\Below w.heap.size w w':=Any.slices_Clone_string_zero Tryz.laysNm216 a c w
def Tryz.lays194_ren:Go.Shelf.Ren:=⟨fun|194=>136|n=>n,fun|31=>25|9=>9|3=>3|4=>4|0=>0|n=>n,fun|n=>n⟩
theorem Tryz.lays194:Go.Proofs.Lays.n194 Tryz.prog Tryz.lays194_ren:={
 mixed:=by kernel_rfl
 f194:=Tryz.func136.trans (bH some hO)
 t0:=Tryz.underlying0
 a0:=Tryz.isAgg0
 z0:=Tryz.sizeOf0
 v0:=Tryz.zeroValue0
 t3:=Tryz.underlying3
 a3:=Tryz.isAgg3
 z3:=Tryz.sizeOf3
 v3:=Tryz.zeroValue3
 t4:=Tryz.underlying4
 a4:=Tryz.isAgg4
 z4:=Tryz.sizeOf4
 v4:=Tryz.zeroValue4
 t9:=Tryz.underlying9
 a9:=Tryz.isAgg9
 z9:=Tryz.sizeOf9
 v9:=Tryz.zeroValue9
 t31:=Tryz.underlying25
 a31:=Tryz.isAgg25
 z31:=Tryz.sizeOf25
 v31:=Tryz.zeroValue25}
open Go.RowKit Go.Lib Go.Sort in
theorem Tryz.slices_Compact_string (blk off cap:Nat) (zs:List (List UInt8)) (w:World) (hH:Holds encStr w blk off zs.toArray) (hsz:zs.length<=9223372036854775807) (hcap:zs.length<=cap):
  Calls Tryz.prog 136 #[.slice (some ⟨blk,off,none⟩) zs.length cap] w fun e w'=>e=.returned (.slice (some ⟨blk,off,none⟩) (Lib.compact zs).length cap)/\∃q,w'=putRow encStr (Sort.ahead w q) blk off (Lib.compact zs++List.replicate (zs.length-(Lib.compact zs).length) []).toArray:=Any.slices_Compact_string Tryz.lays194 blk off cap zs w hH hsz hcap
open Go.RowKit Go.Lib Go.Sort in
theorem Tryz.slices_Compact_string_empty (a:Option Addr) (cap:Nat) (w:World):
  Calls Tryz.prog 136 #[.slice a 0 cap] w fun e w'=>e=.returned (.slice a 0 cap)/\w'=w:=Any.slices_Compact_string_empty Tryz.lays194 a cap w
open Go.RowKit Go.Sort in
theorem Tryz.slices_Sort_string_none (p:Option Addr) (cap:Nat) (w:World):
  Calls Tryz.prog 135 #[.slice p 0 cap] w fun e w'=>e=.returned (.tuple #[])/\w'=w:=Any.slices_Sort_string_none Tryz.lays190 p cap w
end Go.Proofs
namespace Go.Proofs.YtengibnpebfblaaGreatDoor
open Go.RowKit
theorem aCE:∀a b:List UInt8,Lib.compareBytes a b=dM a b:=by
 intro a;induction a with
 |nil=>
  intro b;cases b<;>simp[Lib.compareBytes,dM]
 |cons x l ih=>
  intro b;cases b with
  |nil=>simp[Lib.compareBytes,dM]
  |cons y r=>
   simp only[Lib.compareBytes];by_cases h1:x<y
   ·have hne:¬x=y:=fun e=>by rw[e]at h1;exact absurd h1 (mV _)
    rw[if_pos h1];unfold dM;rw[if_neg (by simp[hne]),if_pos (by rw[kR];exact .inl h1)]
   ·rw[if_neg h1]
    by_cases h2:y<x
    ·have hne:¬x=y:=fun e=>by rw[e]at h2;exact absurd h2 (mV _)
     rw[if_pos h2];unfold dM;rw[if_neg (by simp[hne]),if_neg (by
      rw[kR];rintro(h|⟨h,_⟩)
      ·exact h1 h
      ·exact hne h)]
    ·rw[if_neg h2,ih]
     have e:x=y:=by
      rw[sY]at h1 h2;exact uE.1 uAu
     subst e;unfold dM;have e1:(x::l=x::r)↔l=r:=by simp
     have e2:(x::l<x::r)↔l<r:=by
      exact Ad1
     simp only[e1,e2]
theorem yM (a b:ByteArray) (w:World):Calls Tryz.prog 40 #[.string a,.string b] w fun e w'=>e=.returned (.int .i64 (dM a.data.toList b.data.toList))/\w=w':=by
 have HC:=aJ (fun w=>Tryz.strings_Compare a b w);rw[aCE]at HC;go_enter Tryz.func40,Tryz.ntmps40;go_wp2_with fail
 refine(HC.out _).mono ?_;rintro e w1 ⟨rfl,rfl⟩;go_wp2_with fail
 go_ret;exact⟨rfl,rfl⟩
theorem pG {P:Program} {ops:Array Oper} {rest:List Oper} {o:Oper} {a:Act} {Q:Exit->Act->World->Prop} {w w':World} (hgd:o.guard=none) (p x:Operand) (t t':TypeId)
  (ho:o.op=.call {callee:=.builtin .append,args:=#[p,x],argTypes:=#[t,t']}) {vp vx v':Value} (hp:a.eval p=vp) (hx:a.eval x=vx)
  (hr:∀ty,(Builtin.append_ #[t,t'] ty #[vp,vx]).run P w=.ok v' w') (h:wpList P ops Q rest (a.put o.dst v') w'):wpList P ops Q (o::rest) a w:=by
 refine cW hgd fun K hK=> ?_
 unfold Oper.wp execOp;simp only[ho,resolve,invoke,builtin,fF,fR,cS,iA,cG,iL,hp,hx,hr];exact hK _ _ h
theorem tH:(Tryz.prog.info? 86).map (fun i=>(i.zero,i.size,i.bytes))=some (some (.agg #[.int .i64 0,.int .i64 0,.slice none 0 0,.slice none 0 0]),4,64):=by kernel_rfl
theorem dY:(Tryz.prog.info? 86).map (·.size)=some 4:=by kernel_rfl
theorem lQ {B:Nat} {w w':World} {row:Option Nat} (hg:w.grownBy w' row) (hB:B<=w.heap.size) (hr:∀k,row=some k->B<=k):Below B w w':=(aY B w).grown hg hB (fun k e=>hr k e)
theorem aO3 (n:Nat) (hn:n<=200000) (w:World):Calls Tryz.prog 165 #[.slice none 0 0,.int .i64 (n:Int)] w fun e w'=>∃v,e=.returned v/\w'.ownsRow w.heap.size 35 4 v 0 []/\Below w.heap.size w w':=by
 by_cases h0:n=0
 ·subst h0
  go_enter Tryz.func165,Tryz.ntmps165;exact Ah0
 ·obtain⟨i,hi,hz,h1,h2⟩:=dV yC
  have hrun:∀ty,(Builtin.append_ #[52,3] ty #[.slice none 0 0,.int .i64 (n:Int)]).run Tryz.prog w=.ok (.slice (some ⟨w.heap.size,0,none⟩) n (grownCap w n 0 35)) (w.drew.alloc (.cells (Builtin.zeroCells (.agg (aX gT):Value).cells n++Builtin.zeroCells (.agg (aX gT):Value).cells (grownCap w n 0 35-n)) 35)):=fun ty=>by
   have h:=xY (P:=Tryz.prog) w 52 3 ty 35 i (.agg (aX gT)) .i64 .i64 Tryz.underlying52 Tryz.underlying3 hi hz none 0 0 [] (aEE w.drew i.size 0 0 0) n uAu uAu uAu uAu uKz
    uJv
   simpa using h
  have hG1:=grownCap_ge w n 0 35;have hG2:=aGn w n 0 35 uCw;obtain⟨G,hG⟩:∃G,G=grownCap w n 0 35:=⟨_,rfl⟩
  rw[<-hG]at hrun hG1 hG2;have hG3:(G:Int)<=9223372036854775807:=by unfold maxLen at hG2;omega
  have hn3:(n:Int)<=200000:=by omega
  have hn0:(0:Int)<n:=by omega
  have HRUN:=iH hrun;have HG1:=iH hG1;have HG2:=iH hG2;have HN:=iH hn;clear hrun hG1 hG2 h0 hG hn;go_enter Tryz.func165,Tryz.ntmps165;exact Ac8
theorem aOc {α:Type} {enc:α->List Value} (hone:∀x,∀u∈enc x,u.oneCell'=true) (w:World) {S:Nat->Prop} (B:Nat) (ls:List (Value×List α))
  (hcells:∀k (hk:k<ls.length),w.cell? ⟨B,k,none⟩=some ls[k].1) (hcut:∀p∈ls,bZ S w 4 p.1 (en enc p.2) p.2.length) (hN:(eZ ls ls.length).length<=100000) (hl:ls.length<=1000):
  Calls Tryz.prog 142 #[.slice (some ⟨B,0,none⟩) ls.length ls.length] w fun e w'=>∃v,e=.returned v/\bZ (fun g=>w.heap.size<=g) w' 4 v (en enc (eZ ls ls.length)) (eZ ls ls.length).length/\Below w.heap.size w w':=by
 obtain⟨i,hi,hz,h1,h2⟩:=dV yC;have HS:=iH hcut;have HC:=iH hcells;have HN:=iH hN;have HI:=iH (And.intro hi (And.intro hz (And.intro h1 h2)));clear hcut hcells hi hz h1 h2 hN;go_enter Tryz.func142,Tryz.ntmps142;go_wp2_with fail
 go_loopw [3,11] (fun n i wr=>∃k:Nat,k<=ls.length/\i=.int .i64 k/\n=.int .i64 ((eZ ls k).length:Nat)/\w=wr) (fun _ i _=>ls.length-(intOf i).toNat)
 case atStart=>exact⟨0,aQ _,rfl,rfl,rfl⟩
 case round=>
  obtain⟨k,hk,rfl,rfl,rfl⟩:=hrel;by_cases hlt:k<ls.length
  ·exact Aa4
  ·obtain rfl:k=ls.length:=by omega
   obtain⟨N,hN⟩:∃N,N=(eZ ls ls.length).length:=⟨_,rfl⟩
   have HGR:=iH (aO3 N uTv w);have HNN:=iH hN;rw[<-hN];clear hN;go_wp2_with (go_at_call 165;refine HGR.out.mono ?_;rintro e w1 ⟨v1,rfl,ho1,hb1⟩;have HO1:=iH ho1;have HB1:=iH hb1;clear ho1 hb1)
   go_loopw [6,27] (fun nv i wr=>∃k:Nat,k<=ls.length/\i=.int .i64 k/\Hid (wr.ownsRow w.heap.size 35 4 nv (eZ ls k).length (en enc (eZ ls k)))/\Hid (Below w.heap.size w wr)) (fun _ i _=>ls.length-(intOf i).toNat)
   case atStart=>exact⟨0,aQ _,rfl,HO1,HB1⟩
   case round=>
    clear HO1 HB1;obtain⟨k,hk,rfl,HO,HB⟩:=hrel;by_cases hlt:k<ls.length
    ·have hc:=(HB.out.cell (p:=⟨B,k,none⟩) (aM _ _ (HC.out k hlt))).trans (HC.out k hlt)
     have HCUT:=iH ((HS.out _ (aO hlt)).later HB.out);have hle:=tV (ls:=ls) (k+1) hlt (aE _);have HS2:=iH (oB hlt);have HLE:Hid ((eZ ls k).length+ls[k].2.length<=100000):=by show _<=_;rw[HS2.out,aD]at hle;have:=HN.out;omega
     clear hle;go_wp2_with (refine nC rfl _ _ 52 rfl w.heap.size 35 i (.agg (aX gT)) 40 Tryz.underlying52 HI.out.1 HI.out.2.1 HI.out.2.2.1 HI.out.2.2.2 rfl uAv rfl HO.out rfl HCUT.out (xR hone _) uLw uKy HB.out.size ?_;intro v2 w2 ho2 hg2;have HO2:=iH ho2;have HB2:=iH (HB.out.trans (lQ hg2 HB.out.size (uN HO.out)));clear ho2 hg2)
     exact Ad0
    ·exact Ah5
theorem aMW (n:Nat) (hn:n<=200000) (w:World):Calls Tryz.prog 164 #[.slice none 0 0,.int .i64 (n:Int)] w fun e w'=>∃v,e=.returned v/\w'.ownsRow w.heap.size 86 4 v 0 []/\Below w.heap.size w w':=by
 by_cases h0:n=0
 ·subst h0
  go_enter Tryz.func164,Tryz.ntmps164;exact Ah0
 ·obtain⟨i,hi,hz,h1,h2⟩:=dV tH
  have hrun:∀ty,(Builtin.append_ #[84,3] ty #[.slice none 0 0,.int .i64 (n:Int)]).run Tryz.prog w=.ok (.slice (some ⟨w.heap.size,0,none⟩) n (grownCap w n 0 86)) (w.drew.alloc (.cells (Builtin.zeroCells (.agg #[.int .i64 0,.int .i64 0,.slice none 0 0,.slice none 0 0]:Value).cells n++Builtin.zeroCells (.agg #[.int .i64 0,.int .i64 0,.slice none 0 0,.slice none 0 0]:Value).cells (grownCap w n 0 86-n)) 86)):=fun ty=>by
   have h:=xY (P:=Tryz.prog) w 84 3 ty 86 i (.agg #[.int .i64 0,.int .i64 0,.slice none 0 0,.slice none 0 0]) .i64 .i64 Tryz.underlying84 Tryz.underlying3 hi hz none 0 0 [] (aEE w.drew i.size 0 0 0) n uAu uAu uAu uAu uKz
    uJv
   simpa using h
  have hG1:=grownCap_ge w n 0 86;have hG2:=aGn w n 0 86 uCw;obtain⟨G,hG⟩:∃G,G=grownCap w n 0 86:=⟨_,rfl⟩
  rw[<-hG]at hrun hG1 hG2;have hG3:(G:Int)<=9223372036854775807:=by unfold maxLen at hG2;omega
  have hn3:(n:Int)<=200000:=by omega
  have hn0:(0:Int)<n:=by omega
  have HRUN:=iH hrun;have HG1:=iH hG1;have HG2:=iH hG2;have HN:=iH hn;clear hrun hG1 hG2 h0 hG hn;go_enter Tryz.func164,Tryz.ntmps164;exact Ac8
theorem aNa {α:Type} {enc:α->List Value} (hone:∀x,∀u∈enc x,u.oneCell'=true) (w:World) {S:Nat->Prop} (B:Nat) (ls:List (Value×List α))
  (hcells:∀k (hk:k<ls.length),w.cell? ⟨B,k,none⟩=some ls[k].1) (hcut:∀p∈ls,bZ S w 4 p.1 (en enc p.2) p.2.length) (hN:(eZ ls ls.length).length<=100000) (hl:ls.length<=1000):
  Calls Tryz.prog 141 #[.slice (some ⟨B,0,none⟩) ls.length ls.length] w fun e w'=>∃v,e=.returned v/\bZ (fun g=>w.heap.size<=g) w' 4 v (en enc (eZ ls ls.length)) (eZ ls ls.length).length/\Below w.heap.size w w':=by
 obtain⟨i,hi,hz,h1,h2⟩:=dV tH;have HS:=iH hcut;have HC:=iH hcells;have HN:=iH hN;have HI:=iH (And.intro hi (And.intro hz (And.intro h1 h2)));clear hcut hcells hi hz h1 h2 hN;go_enter Tryz.func141,Tryz.ntmps141;go_wp2_with fail
 go_loopw [3,11] (fun n i wr=>∃k:Nat,k<=ls.length/\i=.int .i64 k/\n=.int .i64 ((eZ ls k).length:Nat)/\w=wr) (fun _ i _=>ls.length-(intOf i).toNat)
 case atStart=>exact⟨0,aQ _,rfl,rfl,rfl⟩
 case round=>
  obtain⟨k,hk,rfl,rfl,rfl⟩:=hrel;by_cases hlt:k<ls.length
  ·exact Aa4
  ·obtain rfl:k=ls.length:=by omega
   obtain⟨N,hN⟩:∃N,N=(eZ ls ls.length).length:=⟨_,rfl⟩
   have HGR:=iH (aMW N uTv w);have HNN:=iH hN;rw[<-hN];clear hN;go_wp2_with (go_at_call 164;refine HGR.out.mono ?_;rintro e w1 ⟨v1,rfl,ho1,hb1⟩;have HO1:=iH ho1;have HB1:=iH hb1;clear ho1 hb1)
   go_loopw [6,27] (fun nv i wr=>∃k:Nat,k<=ls.length/\i=.int .i64 k/\Hid (wr.ownsRow w.heap.size 86 4 nv (eZ ls k).length (en enc (eZ ls k)))/\Hid (Below w.heap.size w wr)) (fun _ i _=>ls.length-(intOf i).toNat)
   case atStart=>exact⟨0,aQ _,rfl,HO1,HB1⟩
   case round=>
    clear HO1 HB1;obtain⟨k,hk,rfl,HO,HB⟩:=hrel;by_cases hlt:k<ls.length
    ·have hc:=(HB.out.cell (p:=⟨B,k,none⟩) (aM _ _ (HC.out k hlt))).trans (HC.out k hlt)
     have HCUT:=iH ((HS.out _ (aO hlt)).later HB.out);have hle:=tV (ls:=ls) (k+1) hlt (aE _);have HS2:=iH (oB hlt);have HLE:Hid ((eZ ls k).length+ls[k].2.length<=100000):=by show _<=_;rw[HS2.out,aD]at hle;have:=HN.out;omega
     clear hle;go_wp2_with (refine nC rfl _ _ 84 rfl w.heap.size 86 i (.agg #[.int .i64 0,.int .i64 0,.slice none 0 0,.slice none 0 0]) 64 Tryz.underlying84 HI.out.1 HI.out.2.1 HI.out.2.2.1 HI.out.2.2.2 rfl uAv rfl HO.out rfl HCUT.out (xR hone _) uLw uKy HB.out.size ?_;intro v2 w2 ho2 hg2;have HO2:=iH ho2;have HB2:=iH (HB.out.trans (lQ hg2 HB.out.size (uN HO.out)));clear ho2 hg2)
     exact Ad0
    ·exact Ah5
end Go.Proofs.YtengibnpebfblaaGreatDoor
namespace Go.Proofs
open Go.Shelf
def Tryz.searchL_ren:Go.Shelf.Ren:=⟨fun|14=>144|n=>n,fun|22=>94|24=>161|29=>9|32=>200|3=>3|4=>4|35=>134|0=>0|n=>n,fun|n=>n⟩
theorem Tryz.searchL:Go.Proofs.SlLaysG2.n14 Tryz.prog Tryz.searchL_ren:={
 mixed:=by kernel_rfl
 f14:=⟨Tryz.f144.name,by decide,Tryz.func144.trans (bH some hO)⟩
 t0:=Tryz.underlying0
 a0:=Tryz.isAgg0
 z0:=Tryz.sizeOf0
 v0:=Tryz.zeroValue0
 t3:=Tryz.underlying3
 a3:=Tryz.isAgg3
 z3:=Tryz.sizeOf3
 v3:=Tryz.zeroValue3
 t4:=Tryz.underlying4
 a4:=Tryz.isAgg4
 z4:=Tryz.sizeOf4
 v4:=Tryz.zeroValue4
 t22:=Tryz.underlying94
 a22:=Tryz.isAgg94
 z22:=Tryz.sizeOf94
 v22:=Tryz.zeroValue94
 a24:=Tryz.isAgg161
 z24:=Tryz.sizeOf161
 a29:=Tryz.isAgg9
 z29:=Tryz.sizeOf9
 t32:=Tryz.underlying200
 a32:=Tryz.isAgg200
 z32:=Tryz.sizeOf200
 v32:=Tryz.zeroValue200
 t35:=Tryz.underlying134
 a35:=Tryz.isAgg134
 z35:=Tryz.sizeOf134
 v35:=Tryz.zeroValue134}
end Go.Proofs
