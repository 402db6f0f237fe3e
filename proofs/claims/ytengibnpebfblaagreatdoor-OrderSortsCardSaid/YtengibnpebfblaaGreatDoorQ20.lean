import Derived.Test.YtengibnpebfblaaGreatDoorQ0
import Derived.Test.YtengibnpebfblaaGreatDoorQ17
import Derived.Test.YtengibnpebfblaaGreatDoorQ19
set_option maxRecDepth 1000000
set_option maxHeartbeats 8000000
set_option linter.unusedSimpArgs false
namespace Go.Proofs.YtengibnpebfblaaGreatDoor
open Go.RowKit
theorem aLJ {ops:Array Oper} {rest:List Oper} {o:Oper} {a:Act} {Q:Exit->Act->World->Prop} {w:World} (hgd:o.guard=none) (l c:Operand) (hop:o.op=.makeSlice 129 l c)
  {B:Nat} (kl kc:IntKind) (C:Int) (n:Nat) (hl:a.eval l=.int kl 0) (hc:a.eval c=.int kc C) (hC:C=(n:Int)) (hn:n<=10000000) (hB:B<=w.heap.size)
  (h:∀v w',Buf B v [] w'->Below w.heap.size w w'->wpList Tryz.prog ops Q rest (a.put o.dst v) w'):wpList Tryz.prog ops Q (o::rest) a w:=by
 obtain⟨i,hi,hz,h1,h2⟩:=dV aAR;refine wpList_make_own w hgd l c 129 hop B 5 i (.int .u8 0) 1 Tryz.underlying129 hi hz h1 kl kc C n hl hc hC uKz uCw hB fun w' r1 r2=> ?_
 have hb:Below w.heap.size w w':=(aY _ _).grown r2 (aE _) (fun k hk=>by cases hk);exact h _ _ ⟨nM r1,aG hB hb.size⟩ hb
open Go.Shelf
def Eps (B:Nat) (v:Value) (ps:List Nat) (w:World):Prop:=w.ownsRow B 161 1 v ps.length (en enE ps)/\B<=w.heap.size
structure Ap (n₀:Nat) (w w':World):Prop where
 below:Below n₀ w w'
 kept:∀(g:Nat) (o:Obj),w.heap[g]? =some o->(∀cs fr,o≠.cells cs 161 fr)->w'.heap[g]? =some o
section
variable {B : Nat} {v : Value} {ps : List Nat} {w w1 : World}
theorem Eps.nil (h:B<=w.heap.size):Eps B (.slice none 0 0) [] w:=⟨rI _ _ _ _,h⟩
theorem Eps.grown {row:Option Nat} (h:Eps B v ps w) (hg:w.grownBy w1 row) (hne:v.ownBlock=none\/v.ownBlock≠row):Eps B v ps w1:=⟨h.1.kept hg hne,aG h.2 hg.size⟩
theorem Eps.later (h:Eps B v ps w) (hb:Below w.heap.size w w1):Eps B v ps w1:=h.grown (row:=none) ⟨hb.os,hb.tape,hb.output,hb.size,fun k hk _=>hb.block k hk⟩ uGx
theorem Eps.low {B':Nat} (h:Eps B v ps w) (hB:B'<=B):Eps B' v ps w:=by
 exact Ac5
theorem Eps.len (h:Eps B v ps w):∃a c,v=.slice a ps.length c:=by
 exact Ad3
theorem Eps.cut (h:Eps B v ps w):bZ (fun _=>True) w 1 v (en enE ps) ps.length:=(oT h.1).weak fun _ _=>trivial
theorem aFW {A C:World} {row:Option Nat} (h:Eps B v ps A) (hg:A.grownBy C row) (hr:∀r,row=some r->∃o:Obj,A.heap[r]? =some o/\o.isCells=false):Eps B v ps C:=by
 refine h.grown hg ?_;cases hv:v.ownBlock with
 |none=>exact .inl rfl
 |some k=>
  refine .inr fun e=> ?_
  obtain⟨o,ho,hc⟩:=hr k e.symm;obtain⟨⟨_,h2⟩,_⟩:=h;rcases h2 with⟨rfl,_⟩|⟨g,cap,cur,rfl,_,hb,_⟩
  ·cases hv
  ·obtain rfl:g=k:=by simpa[Value.ownBlock]using hv
   rw[hb]at ho;cases ho
   cases hc
theorem aN0 {L:Nat} {cs:Array Value} {T:TypeId} {fr:Nat×Nat} (h:Eps B v ps w) (hb:w.heap[L]? =some (.cells cs T fr)) (hT:T≠161):v.ownBlock≠some L:=by
 exact Ae7
theorem Eps.only {L:Nat} {cs:Array Value} {T:TypeId} {fr:Nat×Nat} (h:Eps B v ps w) (k:jK L w w1) (hb:w.heap[L]? =some (.cells cs T fr)) (hT:T≠161):Eps B v ps w1:=h.grown k.by_ (.inr (aN0 h hb hT))
theorem Ap.refl (n₀:Nat) (w:World):Ap n₀ w w:=⟨aY _ _,fun _ _ h _=>h⟩
theorem Ap.trans {n₀:Nat} {a b c:World} (h:Ap n₀ a b) (k:Ap n₀ b c):Ap n₀ a c:=⟨h.below.trans k.below,fun g o hg ho=>k.kept g o (h.kept g o hg ho) ho⟩
theorem Ap.later {n₀:Nat} {a b:World} (h:Below a.heap.size a b) (hn:n₀<=a.heap.size):Ap n₀ a b:=⟨h.mono hn,fun g _ hg _=>(h.block g (gZ hg)).trans hg⟩
theorem Ap.grown {n₀:Nat} (h:Eps n₀ v ps w) (hg:w.grownBy w1 v.ownBlock):Ap n₀ w w1:=by
 obtain⟨⟨_,h2⟩,hB⟩:=h;refine⟨⟨hg.os,hg.tape,hg.output,hg.size,fun k hk=>hg.block k uAu ?_⟩,fun g o ho hne=>(hg.block g (gZ ho) ?_).trans ho⟩
 ·rcases h2 with⟨rfl,_⟩|⟨g,cap,cur,rfl,hB,_⟩
  ·simp[Value.ownBlock]
  ·simp[Value.ownBlock]
   omega
 ·rcases h2 with⟨rfl,_⟩|⟨g',cap,cur,rfl,_,hgg,_⟩
  ·simp[Value.ownBlock]
  ·intro e
   obtain rfl:g=g':=by simpa[Value.ownBlock]using e
   rw[hgg]at ho;cases ho
   exact hne _ _ rfl
theorem Ap.keeps {n₀:Nat} {a b:World} (h:Ap n₀ a b):KeepsOthers a b:=⟨h.below.size,fun k o hk ho=>h.kept k o hk (fun cs fr e=>by subst e;cases ho)⟩
theorem Ap.row {n₀ X:Nat} {a b:World} {cs:Array Value} {T:TypeId} {fr:Nat×Nat} (h:Ap n₀ a b) (hX:a.heap[X]? =some (.cells cs T fr)) (hT:T≠161):b.heap[X]? =some (.cells cs T fr):=
 h.kept X _ hX (fun _ _ e=>by cases e;exact hT rfl)
theorem Ap.tab {n₀:Nat} {a b:World} (h:Ap n₀ a b) (hn:1<n₀) (hT:fW a):fW b:=fun j hj=>(h.below.cell (p:=⟨1,j,none⟩) hn).trans (hT j hj)
theorem Ap.kp {n₀:Nat} {a b:World} {S:Nat->Prop} (h:Ap n₀ a b) (hS:∀g,S g->g<n₀):Kp S a b:=Kp.low h.below hS
theorem Ap.wrote {n₀ X:Nat} {a b c:World} (h:Ap n₀ a b) (k:jK X b c) (hn:a.heap.size<=X) (hn':n₀<=a.heap.size):Ap n₀ a c:=
 ⟨h.below.trans (k.below uAu),fun g o hg ho=>k.other (h.kept g o hg ho) (fun e=>by have:=(gZ hg);omega)⟩
end
theorem aGV {w w1:World} {c:Array Value} {T:TypeId} (h:w.alloc (.cells c T)=w1):Below w.heap.size w w1/\w1.heap[w.heap.size]? =some (.cells c T (0,0))/\w1.heap.size=w.heap.size+1:=by
 exact Al1
theorem bZ.low {S:Nat->Prop} {n₀:Nat} {W W':World} {s n:Nat} {v:Value} {cs:List Value} (h:bZ S W s v cs n) (hb:Below n₀ W W') (hS:∀g,S g->g<n₀):bZ S W' s v cs n:=by
 obtain⟨a,c,h1,h2,h3,h4⟩:=h;refine⟨a,c,h1,h2,h3,h4.imp_right ?_⟩;rintro⟨g,o,e,hg,hlt,h5⟩;exact⟨g,o,e,hg,cQ hlt hb.size,fun j u hu=>(hb.cell (p:=⟨g,o+j,none⟩) (hS g hg)).trans (h5 j u hu)⟩
theorem aLv {o:Oper} {a:Act} {K:Act->World->Prop} {Q:Exit->Act->World->Prop} {w:World} (s x:Operand)
  (ho:o.op=.call {callee:=.builtin .append,args:=#[s,x],argTypes:=#[94,94]})
  {B:Nat} {v vr:Value} {ps rs:List Nat} (hs:a.eval s=v) (hb:Eps B v ps w) (hx:a.eval x=vr) {S:Nat->Prop} (hc:bZ S w 1 vr (en enE rs) rs.length) (hlen:ps.length+rs.length<=17592186044416)
  (h:∀v' w',Eps B v' (ps++rs) w'->Ap B w w'->K (a.put o.dst v') w'):o.wp Tryz.prog a w K Q:=by
 obtain⟨i,hi,hz,h1,h2⟩:=dV sJ;obtain⟨v',w',r1,r2,r3⟩:=qF (P:=Tryz.prog) (w:=w) B 94 o.type 161 i (.pointer none) 8 Tryz.underlying94 hi hz h1 h2 rfl uAv hb.1 hc (xR aHY _)
  uCw uAu hb.2
 unfold Oper.wp execOp;simp only[ho,resolve,invoke,builtin,fF,fR,cS,iA,cG,iL,hs,hx,r1];exact h v' w' ⟨by rw[aD,aC0];exact r2,aG hb.2 r3.size⟩ (Ap.grown hb r3)
theorem aLw {ops:Array Oper} {rest:List Oper} {o:Oper} {a:Act} {Q:Exit->Act->World->Prop} {w:World} (hgd:o.guard=none) (s x:Operand)
  (ho:o.op=.call {callee:=.builtin .append,args:=#[s,x],argTypes:=#[94,94]})
  {B:Nat} {v vr:Value} {ps rs:List Nat} (hs:a.eval s=v) (hb:Eps B v ps w) (hx:a.eval x=vr) {S:Nat->Prop} (hc:bZ S w 1 vr (en enE rs) rs.length) (hlen:ps.length+rs.length<=17592186044416)
  (h:∀v' w',Eps B v' (ps++rs) w'->Ap B w w'->wpList Tryz.prog ops Q rest (a.put o.dst v') w'):wpList Tryz.prog ops Q (o::rest) a w:=
 cW hgd fun _ hK=>aLv s x ho hs hb hx hc hlen fun v' w' h1 h2=>hK _ _ (h v' w' h1 h2)
theorem aO7 {ops:Array Oper} {rest:List Oper} {o:Oper} {a:Act} {Q:Exit->Act->World->Prop} {w:World} {n l:Nat} (hgd:o.guard=none) (s x:Operand)
  (ho:o.op=.call {callee:=.builtin .append,args:=#[s,x],argTypes:=#[94,94]})
  {B:Nat} {v vr:Value} {ps rs:List Nat} (hs:a.eval s=v) (hb:Eps B v ps w) (hx:a.eval x=vr) {S:Nat->Prop} (hc:bZ S w 1 vr (en enE rs) rs.length) (hlen:ps.length+rs.length<=17592186044416)
  (h:∀v' w',Eps B v' (ps++rs) w'->Ap B w w'->wpListIn (Fence.wide.inRound l) n Tryz.prog ops Q rest (a.put o.dst v') w'):wpListIn (Fence.wide.inRound l) n Tryz.prog ops Q (o::rest) a w:=
 pP hgd (fun c' hc=>by rw[ho]at hc;cases hc) fun _ hK=>aLv s x ho hs hb hx hc hlen fun v' w' h1 h2=>hK _ _ (h v' w' h1 h2)
end Go.Proofs.YtengibnpebfblaaGreatDoor
namespace Go.Proofs.YtengibnpebfblaaGreatDoor
open Go.RowKit
theorem kG {w:World} {y:Tr} {v:Value} (h:TrV w y v):∃k n t a l c a' l' c',v=.agg (trC k n t (.slice a l c) (.slice a' l' c')):=by
 obtain⟨k,n,t,ks,xs⟩:=y;obtain⟨kv,xv,rfl,_,_,_,⟨a,c,_,_,rfl,_⟩,a',c',_,_,rfl,_⟩:=h.open';exact⟨_,_,_,_,_,_,_,_,_,rfl⟩
theorem sO {ks:List Kid} {k:Nat} (hk:k<ks.length):eV ks=eV (ks.take k)++ks[k].l++eV (ks.drop (k+1)):=by
 rw[<-zK ks[k],<-kT,<-kT,<-aS hk,jB]
def WayAt (i:Nat) (ks:List Kid) (k r:Nat):Prop:=∃hk:k<ks.length,i=(eV (ks.take k)).length+r/\r<=ks[k].l.length/\(i<(eV ks).length->r<ks[k].l.length)
theorem aKi (w:World) {S:Nat->Prop} (h n i:Nat) (p:Kid) (ks:List Kid) (hh:dP S w 86 4 p.a (en (iC h) ks) n) (hkl:ks.length=n) (hn1:1<=n) (hn16:n<=16) (hi:i<=(eV ks).length) (hN:(eV ks).length<=200000):
  Calls Tryz.prog 111 #[.agg (iC (h+1) p).toArray,.int .i64 (i:Int)] w fun e w'=>∃k r:Nat,e=.returned (.tuple #[.int .i64 (k:Int),.int .i64 (r:Int)])/\
   WayAt i ks k r/\Below w.heap.size w w':=by
 obtain⟨w1,hw1⟩:∃w1,w.alloc (.cells (iC (h+1) p).toArray 86)=w1:=⟨_,rfl⟩
 obtain⟨hb1,hx1,hs1⟩:=sB hw1;obtain⟨g,c,cur,fr,hpa,hcap,hS,hg,hcs⟩:=hh.pos hn1;have ca2:w1.cell? ⟨w.heap.size,2,none⟩=some (.slice (some ⟨g,0,none⟩) n c):=by rw[<-hpa];exact aK hx1 rfl
 have hg1:=(hb1.block g (gZ hg)).trans hg;have HC:Hid (∀k (hk:k<ks.length),w1.cell? ⟨g,k*4,none⟩=some (.int .i64 (ks[k].l.length:Int))):=fun k hk=>by
  have:=sK (h:=h) hg1 hcs hk 0 _ rfl;rwa[kA]at this
 have HB1:=iH hb1;have HKL:=iH (And.intro hkl (And.intro hn1 hi));have HN:=iH hN;have hn16':(n:Int)<=16:=by omega
 have hi5:(i:Int)<=200000:=by omega
 clear hh hkl hn1 hn16 hi hN hb1 hx1 hs1 hpa hcap hS hg hcs hg1;go_enter Tryz.func111,Tryz.ntmps111;go_upto_region 1 with fail
 clear hw1;go_wp2_with fail
 go_loopw [1,6] (fun iv kv wr=>∃k r:Nat,kv=.int .i64 (k:Int)/\iv=.int .i64 (r:Int)/\k<n/\Hid (i=(eV (ks.take k)).length+r)/\w1=wr) (fun _ kv _=>n-(intOf kv).toNat)
 case atStart=>exact⟨0,i,rfl,rfl,by have:=HKL.out;omega,(by show _=_;simp[eV]),rfl⟩
 case round=>
  obtain⟨k,r,rfl,rfl,hk,HI,rfl⟩:=hrel;have hkl:=HKL.out;have hkk:k<ks.length:=by omega
  have hc:=HC.out k hkk;have hsum:=oL hkk;have hsp:=bH List.length (sO hkk);rw[aD,aD]at hsp;obtain⟨z,hz⟩:∃z,z=ks[k].l.length:=⟨_,rfl⟩
  rw[<-hz]at hc hsum hsp;have hr5:(r:Int)<=200000:=by have:=HI.out;omega
  have HZ:=iH hz;have HSP:=iH hsp;have HSUM:=iH hsum;have hki:(k:Int)<(n:Int):=by omega
  clear hz hsp hsum hkl;by_cases h1:k+1<n
  ·have h1':(k:Int)<(n:Int)-1:=by omega
   by_cases h2:z<=r
   ·have h2':(r:Int)>=(z:Int):=by omega
    have h2d:(z:Int)<=(r:Int):=by omega
    obtain⟨d,hd⟩:∃d:Nat,(r:Int)-(z:Int)=d:=⟨r-z,by omega⟩
    have HD:Hid (r=z+d):=(by show _=_;omega)
    clear h2;go_wp2_with fail
    go_roundw
    case rel=>exact⟨k+1,d,by simp,by first|rfl|rw[hd],by omega,(by show _=_;have:=HI.out;have:=HSUM.out;have:=HD.out;omega),trivial⟩
    case measure=>simp[intOf];omega
   ·have h2':¬(r:Int)>=(z:Int):=by omega
    have h2d:¬(z:Int)<=(r:Int):=by omega
    have H2:=iH h2;clear h2;go_wp2_with fail
    go_ret2;exact⟨k,r,rfl,⟨hkk,HI.out,by have:=H2.out;have:=HZ.out;omega,fun _=>by have:=H2.out;have:=HZ.out;omega⟩,HB1.out⟩
  ·have h1':¬(k:Int)<(n:Int)-1:=by omega
   go_wp2_with fail
   go_ret2;have hkl:=HKL.out;have hd:eV (ks.drop (k+1))=[]:=by rw[eD uAu];rfl
   have hsp:=HSP.out;rw[hd,bG]at hsp;have hz:=HZ.out;have hI:=HI.out;exact⟨k,r,rfl,⟨hkk,hI,by omega,fun h=>by omega⟩,HB1.out⟩
theorem aGT (p:Addr) (n c:Nat) (w:World):(binOp .eql 84 (.slice (some p) n c) (.slice none 0 0)).run Tryz.prog w=.ok (.bool false) w:=by
 exact Ab1
theorem aGU (w:World):(binOp .eql 84 (.slice none 0 0) (.slice none 0 0)).run Tryz.prog w=.ok (.bool true) w:=by
 exact Ab1
theorem aFt (p:Addr) (n c:Nat) (w:World):(binOp .neq 84 (.slice (some p) n c) (.slice none 0 0)).run Tryz.prog w=.ok (.bool true) w:=by
 exact Ab1
theorem aFu (w:World):(binOp .neq 84 (.slice none 0 0) (.slice none 0 0)).run Tryz.prog w=.ok (.bool false) w:=by
 exact Ab1
end Go.Proofs.YtengibnpebfblaaGreatDoor
set_option maxRecDepth 1000000
set_option maxHeartbeats 8000000
set_option linter.unusedSimpArgs false
namespace Go.Proofs.YtengibnpebfblaaGreatDoor
open Go.ChangeShapes Go.WideShapes Go.ChangeAt Go.RowKit
open Go.ChangeMaps (open_string)
section
variable {H : Type} {enc : TypeId × Value → H} {P : Program}
theorem wM (hl:laidOutB P=true) {W W':World} (hb:Below W.heap.size W W'):∀{ts:List TypeId} {vs:List Value} {ds:List (DataW H)} {ps:List MemPlace},
  (ts.all fun t=>P.readableRec t&&decide (t<P.types.size))=true->DataW.TrodAll enc P W 0 (fun _=>true) true ts vs ds ps->(∀x∈ps,x.block<W.heap.size)->
  DataW.TrodAll enc P W' 0 (fun b=>decide (b<W.heap.size)) true ts vs ds ps
 |[],_,_,_,_,h,_=>by
  obtain⟨rfl,rfl,rfl⟩:=trodAll_nil h;exact trodAll_mk0
 |t::ts,_,_,_,ht,h,hlt=>by
  obtain⟨v,vs,d,ds,p,q,rfl,rfl,rfl,h1,h2⟩:=trodAll_cons h;simp only[List.all_cons,fB,iJ]at ht;refine trodAll_cons_mk (Below.trod hl ht.1.1 ht.1.2 h1 hb fun x hx=>hlt x (nU _ hx)) (wM hl hb ?_ h2 fun x hx=>hlt x (List.mem_append_right _ hx));simpa using ht.2
theorem law_post {f:Func} {s:ChangeSpec} {W W':World} {args:Array Value} {ds:List (DataW H)} {before:List MemPlace} {T:TypeId} (hl:laidOutB P=true)
  (hrows:(f.params.toList.all fun t=>P.readableRec t&&decide (t<P.types.size))=true) (hv:s.vars=[]) (hfn:s.fn H (ds++[])={results:=[.lit (.bool true)],args:=ds})
  (hr:f.resultTypes=#[T]) (hT:P.underlying T=some .bool) (hW:DataW.Whole enc P f.params.toList s.vars false W args.toList ds [] before) (hb:Below W.heap.size W W'):
  s.post enc P f false true false false W args (.bool true) W':=by
 have hlt:=hW.lt;have hW':=hW;obtain⟨p,q,hA,hV,rfl,_,_⟩:=hW';rw[hv]at hV;obtain⟨_,rfl⟩:=trodVars_none hV;simp only[mX]at hlt;refine⟨ds,[],p++[],[],p,[],hW,?_,?_,?_,hb.frame _,fun h=>by cases h⟩
 ·rw[hfn,hr];exact trodAll_mk1 (shut_bool hT _)
 ·rw[hfn];exact wM hl hb hrows hA hlt
 ·rw[hfn,hv];rfl
end
theorem own:ownKnob Tryz.prog.godebug=none:=by kernel_rfl
theorem laid_out:laidOutB Tryz.prog=true:=by kernel_rfl
theorem aJ8 {P:Program} {W:World}:∀(i:Nat) {l:List (String×DataW Unit)},laidMet P l W->laidMet P (l.drop i) W
 |0,_,h=>by rw[rM];exact h
 |_+1,[],h=>h
 |i+1,_::_,h=>aJ8 i h.tail
end Go.Proofs.YtengibnpebfblaaGreatDoor
namespace Go.Proofs.YtengibnpebfblaaGreatDoor
open Go.ChangeShapes Go.WideShapes Go.ChangeAt Go.RowKit
theorem aJc {W:World} {a:Addr} {len cap:Nat} {zs:List Int} (hl:len<=zs.length) (hm:len<=maxLen)
  (hcell:∀i,i<zs.length->W.cell? (a.add i)=some (.int .i64 (zs.getD i 0))) (hw:∀n∈zs,(Lit.int .i64 n).wf=true):
  ∃ys,xW W (.slice (some a) len cap) ys:=by
 have hlen:(zs.take len).length=len:=by rw[aV];omega
 refine⟨zs.take len,some a,cap,a.block,a.off,by rw[hlen],?_,?_,?_,by rw[hlen];exact hm⟩
 ·intro h0
  rw[hlen]at h0;obtain⟨b,off,spot⟩:=a;have hspot:spot=none:=by simpa[Addr.add]using World.cell?_spot (hcell 0 uAu)
  subst hspot;rfl
 ·intro j hj
  rw[hlen]at hj;have hspot:a.spot=none:=by
   have:=World.cell?_spot (hcell 0 uAu);simpa[Addr.add]using this
  have ha:a.add j=⟨a.block,a.off+j,none⟩:=by
   unfold Addr.add;split
   ·subst_vars;obtain⟨b,off,spot⟩:=a;simp only at hspot;subst hspot;rfl
   ·rfl
  rw[<-ha,hcell j uAu];congr 2
  rw[List.getD_eq_getElem?_getD,List.getD_eq_getElem?_getD,List.getElem?_take_of_lt hj]
 ·intro n hn
  exact bounds_i64 (hw n (dI hn))
theorem aOm {H:Type} {enc:TypeId×Value->H} {P:Program} {W:World} {sp:Nat->Bool} {held:Bool} {r:Reach} {b0 base:Nat} {t e:TypeId} {v:Value} {d:DataW H} {ps:List MemPlace}
  (ht:P.underlying t=some (.slice e)) (he:P.underlying e=some (.int .i64)) (hc:P.cellsOf e=1) (hval:Value.okWide P W r b0 t v) (hd:DataW.Trod enc P W base sp held t v d ps):∃ys,xW W v ys:=by
 obtain⟨a0,len,cap,rfl⟩:=okWide_slice ht hval;obtain⟨fuel,hf⟩:=hd;rcases open_ints ht he hc hf with⟨hcs,_⟩|⟨a,len',cap',zs,hcs,_,hl,hm,hz,_,hcell,hwz⟩
 ·simp[Value.cells]at hcs
  obtain⟨rfl,rfl,rfl⟩:=hcs;exact⟨[],none,0,0,0,rfl,fun h=>absurd h uBu,fun j h=>absurd h uBu,fun n h=>absurd h uBu,by simp⟩
 ·simp[Value.cells]at hcs
  obtain⟨rfl,rfl,rfl⟩:=hcs;exact aJc (by rw[hz];split<;>omega) uAu hcell hwz
end Go.Proofs.YtengibnpebfblaaGreatDoor
namespace Go.Proofs.YtengibnpebfblaaGreatDoor
open Go.RowKit Go.Shelf
def aLX {α:Type} (P:Program) (gf:Nat) (lb:Array Value) (encs:α->Array Value) (RK IK:Nat->World->World->Prop) (S Sp Pr:List α->Prop) (w0:World):Prop:=
 ∀(l:Nat) (J Jx:List α->World->Prop) (W:World),Below w0.heap.size w0 W->(∀s A B,J s A->IK W.heap.size A B->J s B)->
  (∀m pre x V,J pre V->W.heap.size+2<=V.heap.size->Pr (pre++[x])->YieldAt Fence.wide m P l (encs x) V fun e V'=>
   (e=.returned (.bool true)/\J (pre++[x]) V'/\RK W.heap.size V V')\/(e=.returned (.bool false)/\Jx (pre++[x]) V'))->
  J [] W->∀m,CallsIn Fence.wide m P gf (#[.func (.yield l) #[] #[]]++lb) W fun e W'=>(∃v,e=.returned v)/\((∃ys,S ys/\J ys W')\/(∃pre,Sp pre/\Jx pre W'))
def IterM {α:Type} (P:Program) (gf:Nat) (lb:Array Value) (encs:α->Array Value) (RK IK:Nat->World->World->Prop) (S Pr:List α->Prop) (w0:World):Prop:=
 ∀(l:Nat) (J:List α->World->Prop) (W:World),Below w0.heap.size w0 W->(∀s A B,J s A->IK W.heap.size A B->J s B)->
  (∀m pre x V,J pre V->W.heap.size+2<=V.heap.size->Pr (pre++[x])->YieldAt Fence.wide m P l (encs x) V fun e V'=>e=.returned (.bool true)/\J (pre++[x]) V'/\RK W.heap.size V V')->
  J [] W->∀m,CallsIn Fence.wide m P gf (#[.func (.yield l) #[] #[]]++lb) W fun e W'=>(∃v,e=.returned v)/\∃ys,S ys/\J ys W'
theorem aLX.n {α:Type} {P:Program} {gf:Nat} {lb:Array Value} {encs:α->Array Value} {RK IK:Nat->World->World->Prop} {S Sp Pr:List α->Prop} {w0:World} (h:aLX P gf lb encs RK IK S Sp Pr w0):IterM P gf lb encs RK IK S Pr w0:=fun l J W hW hA hY h0 m=>
 (h l J (fun _ _=>False) W hW hA (fun m pre x V a b c=>(hY m pre x V a b c).mono fun _ _ h=>.inl h) h0 m).mono fun _ _ ⟨h1,h2⟩=>⟨h1,h2.elim id fun⟨_,_,h⟩=>h.elim⟩
end Go.Proofs.YtengibnpebfblaaGreatDoor
namespace Go.Proofs.YtengibnpebfblaaGreatDoor
open Go.RowKit
noncomputable def cv1X (w:World) (a:Addr):Result Value:=(convert 129 9 (.slice (some a) 1 1)).run Tryz.prog w
open Classical in
noncomputable def cv1 (w:World) (a:Addr) (c:Option Value):Result Value:=if∃v,0<=v/\v<256/\c=some (.int .u8 v)then
 match c with
 |some (.int .u8 v)=>.ok (.string ⟨#[bt8 v]⟩) w
 |_=>cv1X w a
 else cv1X w a
theorem vV (w:World) (a:Addr):(convert 129 9 (.slice (some a) 1 1)).run Tryz.prog w=cv1 w a (w.cell? a):=by
 unfold cv1;split
 ·rename_i h
  obtain⟨v,h0,h1,hc⟩:=h;rw[hc];have:=rG (P:=Tryz.prog) w 129 9 5 a 1 [bt8 v] Tryz.underlying129 Tryz.underlying5 Tryz.underlying9 (fun j hj=>by
   have hj':j=0:=by simp at hj;exact hj
   subst hj';rw[show a.add 0=a from by simp[Addr.add],hc];simp[kV];omega)
  exact this
 ·rfl
theorem aA8 (w:World) (a:Addr) (v:Int) (h0:0<=v) (h1:v<256):cv1 w a (some (.int .u8 v))=.ok (.string ⟨#[bt8 v]⟩) w:=by
 unfold cv1;rw[if_pos ⟨v,h0,h1,rfl⟩]
theorem qL (l r:List UInt8):(⟨l.toArray⟩:ByteArray)++⟨r.toArray⟩=⟨(l++r).toArray⟩:=by
 apply nA;simp[ByteArray.data_append]
theorem eF:(Tryz.prog.info? 28).map (·.size)=some 5:=by kernel_rfl
theorem lM {ops:Array Oper} {rest:List Oper} {o:Oper} {a:Act} {w:World} {Q:Exit->Act->World->Prop} (hwd:Region.wanted o (yielded ops a.tmps)=true) (y:Operand) (ho:o.op=.load 28 y)
  (b k:Nat) (hx:a.eval y=.pointer (some ⟨b,k,none⟩)) (cs:Array Value) (hR:w.rangeAt b k cs.toList) (hs:cs.size=5)
  (h:wpList Tryz.prog ops Q rest (a.put o.dst (.agg cs)) w):wpList Tryz.prog ops Q (o::rest) a w:=
 wpList_step fun _ hK=>by
  rw[if_pos hwd];exact wp_load_mid 28 y ho b k hx _ _ hR Tryz.underlying28 rfl (by rw[eF,bB,hs]) (hK _ _ h)
theorem TrV.cells {w:World} {y:Tr} {cs:Array Value} (h:TrV w y (.agg cs)):∃k n t a l c a' l' c',cs=trC k n t (.slice a l c) (.slice a' l' c'):=by
 cases y with
 |nd k n t ks xs=>
  obtain⟨kv,xv,e,_,_,_,⟨a,c,_,_,rfl,_⟩,a',c',_,_,rfl,_⟩:=h.open';exact⟨k,n,t,a,_,c,a',_,c',mZ e⟩
mutual
def wP:Tr->Tr->Bool
 | .nd k n t ks xs,b=>decide (k=b.k)&&(decide (n=b.n)&&(decide (t=b.t)&&(decide (ks=b.ks)&&rA xs b.xs)))
def rA:List Tr->List Tr->Bool
 |[],l=>l.isEmpty
 |x::r,l=>match l with
  |[]=>false
  |y::s=>wP x y&&rA r s
end
theorem aF9 (a:Tr):∀b,wP a b=true↔a=b:=by
 induction a using fS with
 |h k n t ks xs ih=>
  intro b;obtain⟨k',n',t',ks',xs'⟩:=b;have hL:∀(xs xs':List Tr),(∀x∈xs,∀b,wP x b=true↔x=b)->(rA xs xs'=true↔xs=xs'):=by
   intro xs;induction xs with
   |nil=>intro xs' _;rw[rA];cases xs'<;>simp
   |cons x r ih2=>
    intro xs' hi;cases xs' with
    |nil=>rw[rA];simp
    |cons y s=>
     rw[rA,fB,hi x (aW ..),ih2 s fun z hz=>hi z (aU _ hz)];simp
  rw[wP];show(decide (k=k')&&(decide (n=n')&&(decide (t=t')&&(decide (ks=ks')&&rA xs xs'))))=true↔_;rw[fB,fB,fB,fB,hL xs xs' ih,Tr.nd.injEq,mO,mO,mO,mO]
def pN (a:Tr):Tr×Int:=if 64<iX a then(iE,7)else if 16384<fU a then(iE,8)else(a,0)
def aNj (a:Tr):Prop:=jR a/\iX a<=64/\fU a<=16384
theorem aNj.part {a x:Tr} (h:aNj a) (hx:x∈a.xs):aNj x:=by
 have h1:=uP hx;have h2:=aC1 hx;have h3:=pO a;have h4:=vU a;exact⟨h.1.part hx,by have:=h.2.1;omega,by have:=h.2.2;omega⟩
def mE (ks:List ByteArray) (t:ByteArray):Nat:=(ks.takeWhile fun y=>decide (kb y<kb t)).length
def iQ {β:Type} (n:Nat) (l:List β) (x:β):List β:=l.take n++x::l.drop n
theorem vH {β:Type} (n:Nat) (l:List β) (x:β):(iQ n l x).Perm (x::l):=by
 unfold iQ;refine mC.trans ?_;rw[jB]
theorem aFh {β:Type} (n:Nat) (l:List β) (x:β):(iQ n l x).length=l.length+1:=(vH n l x).length_eq
theorem aMe {β:Type} (p:β->Bool) (l:List β):l.take (l.takeWhile p).length=l.takeWhile p:=by
 have h:=rS (p:=p) (l:=l)
 conv=>lhs;rw[<-h]
 conv=>lhs;rw[h]
 conv=>lhs;arg 2;rw[<-h]
 rw[mB]
theorem aMf {β:Type} (p:β->Bool) (l:List β):l.drop (l.takeWhile p).length=l.dropWhile p:=by
 have h:=rS (p:=p) (l:=l)
 conv=>lhs;arg 2;rw[<-h]
 rw[wY]
def insT (a:Tr) (i:Int) (x:Tr):Tr×Int:=
 if a.k≠4 then(iE,3)else if i<0\/(a.xs.length:Int)<i then(iE,4)
 else pN (.nd 4 0 ⟨#[]⟩ [] (iQ i.toNat a.xs x))
theorem jR.vec {a:Tr} (h:jR a) (h4:a.k=4):a.ks=[]/\a=.nd 4 0 ⟨#[]⟩ [] a.xs:=by
 obtain⟨k,n,t,ks,xs⟩:=a;have h4':k=4:=h4;rcases(gO.1 h).2 with h|⟨h1,h2,h|h|h⟩<;>simp only[Tr.k,Tr.n,Tr.t,Tr.ks,Tr.xs]at* <;>first|omega|skip
 obtain⟨rfl,rfl⟩:=h;subst h1 h2;exact⟨rfl,rfl⟩
theorem jR.mapD {a:Tr} (h:jR a) (h5:a.k=5):a.ks.length=a.xs.length/\a.ks.Pairwise (fun a b=>kb a<kb b)/\a=.nd 5 0 ⟨#[]⟩ a.ks a.xs:=by
 obtain⟨k,n,t,ks,xs⟩:=a;have h5':k=5:=h5;rcases(gO.1 h).2 with h|⟨h1,h2,h|h|h⟩<;>simp only[Tr.k,Tr.n,Tr.t,Tr.ks,Tr.xs]at* <;>first|omega|skip
 obtain⟨rfl,h3,h4⟩:=h;subst h1 h2;exact⟨h3,h4,rfl⟩
theorem jR.setD {a:Tr} (h:jR a) (h6:a.k=6):a.ks=[]/\a.xs.Pairwise (fun a b=>dG a<dG b)/\a=.nd 6 0 ⟨#[]⟩ [] a.xs:=by
 obtain⟨k,n,t,ks,xs⟩:=a;have h6':k=6:=h6;rcases(gO.1 h).2 with h|⟨h1,h2,h|h|h⟩<;>simp only[Tr.k,Tr.n,Tr.t,Tr.ks,Tr.xs]at* <;>first|omega|skip
 obtain⟨rfl,rfl,h4⟩:=h;subst h1 h2;exact⟨rfl,h4,rfl⟩
theorem zE {k sk:Int} (h:xQ k sk=0):(sk=0/\k=4)\/(sk=1/\k=5)\/(sk=2/\k=6):=by
 unfold xQ at h;split at h
 ·split at h
  ·exact .inl ⟨by assumption,by assumption⟩
  ·cases h
 ·split at h
  ·split at h
   ·exact .inr (.inl ⟨by assumption,by assumption⟩)
   ·cases h
  ·split at h
   ·split at h
    ·exact .inr (.inr ⟨by assumption,by assumption⟩)
    ·cases h
   ·cases h
def kB (a:Tr):ByteArray:=⟨(dG a).toArray⟩
theorem aBL (a:Tr):kb (kB a)=dG a:=by simp[kb,kB]
theorem aNX {a:Tr} {t:ByteArray}:kB a=t↔dG a=kb t:=⟨fun h=>by rw[<-h,aBL],fun h=>uV (by rw[aBL,h])⟩
mutual
def jQ (B:Nat):Tr->Prop
 | .nd _ _ t ks xs=>t.size<=B/\(∀k∈ks,k.size<=B)/\aCe B xs
def aCe (B:Nat):List Tr->Prop
 |[]=>True
 |x::r=>jQ B x/\aCe B r
end
theorem aK1 {B:Nat} {l:List Tr}:aCe B l↔∀x∈l,jQ B x:=by
 induction l with
 |nil=>simp[aCe]
 |cons x l ih=>rw[aCe,ih];simp
theorem eT {B:Nat} {a:Tr}:jQ B a↔a.t.size<=B/\(∀k∈a.ks,k.size<=B)/\∀x∈a.xs,jQ B x:=by
 cases a with
 |nd k n t ks xs=>rw[jQ,aK1];rfl
theorem jQ.part {B:Nat} {a x:Tr} (h:jQ B a) (hx:x∈a.xs):jQ B x:=(eT.1 h).2.2 x hx
theorem jQ.mono {B C:Nat} (hBC:B<=C) (a:Tr):jQ B a->jQ C a:=by
 induction a using fS with
 |h k n t ks xs ih=>
  intro h;obtain⟨h1,h2,h3⟩:=eT.1 h;exact eT.2 ⟨aG h1 hBC,fun k hk=>aG (h2 k hk) hBC,fun x hx=>ih x hx (h3 x hx)⟩
theorem aDc (s:Sc):(kX s).length<=2*s.2.2.length+20:=aG (aMQ s) uAu
theorem aFI (k:ByteArray):(wF k).length<=2*k.size+20:=aDc (3,0,kb k)
theorem aL7 {B:Nat} (a:Tr):jQ B a->pE a->(dG a).length+(2*B+20)<=fU a*(4*B+50):=by
 induction a using fS with
 |h k n t ks xs ih=>
  intro h hr;obtain⟨h1,h2,h3⟩:=eT.1 h;obtain⟨_,r2⟩:=nE.1 hr;have hL:∀(l:List Tr) (ks:List ByteArray),(∀x∈l,jQ B x->pE x->(dG x).length+(2*B+20)<=fU x*(4*B+50))->(∀x∈l,jQ B x)->(∀x∈l,pE x)->(∀k∈ks,k.size<=B)->(eP k ks l).length<=eO l*(4*B+50):=by
   intro l;induction l with
   |nil=>intro ks _ _ _ _;rw[eP];simp
   |cons x r ih2=>
    intro ks hi ht hrr hk;have a1:=hi x (aW ..) (ht x (aW ..)) (hrr x (aW ..));have a2:=ih2 ks.tail (fun y hy=>hi y (aU _ hy)) (fun y hy=>ht y (aU _ hy)) (fun y hy=>hrr y (aU _ hy)) (fun y hy=>hk y (List.mem_of_mem_tail hy));have a3:(if k=5 then wF (ks.headD ⟨#[]⟩)else[]).length<=2*B+20:=by
     split
     ·have h4:(ks.headD ⟨#[]⟩).size<=B:=by
       cases ks with
       |nil=>exact aQ _
       |cons y ys=>exact hk y (aW ..)
      exact aG (aFI _) uAu
     ·simp
    rw[eP,aD,aD,eO,gW];omega
  have h4:=hL xs ks ih h3 r2 h2;have e:(Tr.nd k n t ks xs).t=t:=rfl;rw[e]at h1;rw[dG,fU,gW,Nat.one_mul];split
  ·have:=aDc (k,n,kb t)
   have e2:(kb t).length=t.size:=bB;rw[e2]at this;omega
  ·rw[aL,aD,bM]
   omega
theorem aBS (a:Tr):jR a->pE a:=by
 induction a using fS with
 |h k n t ks xs ih=>
  intro h;refine nE.2 ⟨?_,fun x hx=>ih x hx (h.part hx)⟩;rcases(gO.1 h).2 with h|⟨h,_⟩
  ·exact h.2.2.2.1
  ·rw[show(Tr.nd k n t ks xs).n=0 from h];exact aLd
def dW (a:Tr):Prop:=aNj a/\jQ 3000 a
theorem dW.part {a x:Tr} (h:dW a) (hx:x∈a.xs):dW x:=⟨h.1.part hx,h.2.part hx⟩
theorem dW.key {a:Tr} (h:dW a):(dG a).length<=200000000:=by
 have h1:=aL7 a h.2 (aBS a h.1.1);have h2:=h.1.2.2;have h3:fU a*(4*3000+50)<=16384*(4*3000+50):=dE _ h2;omega
theorem dW.kB {a:Tr} (h:dW a):(kB a).size<=200000000:=by
 have:=h.key;simp only[Go.Proofs.YtengibnpebfblaaGreatDoor.kB,ByteArray.size,cA];exact this
theorem dW.len {a:Tr} (h:dW a):a.xs.length<=16383:=by
 have h1:=uR a.xs;have h2:=pO a;have h3:=h.1.2.2;omega
theorem dW.kind {a:Tr} (h:dW a):0<=a.k/\a.k<=6:=by
 rcases(gO.1 h.1.1).2 with h|⟨_,_,h|h|h⟩<;>omega
theorem dW.leaf {a:Tr} (h:dW a) (h3:a.k<=3):a.ks=[]/\a.xs=[]:=by
 rcases(gO.1 h.1.1).2 with h|⟨_,_,h|h|h⟩
 ·exact h.2.2.2.2
 all_goals omega
theorem dW.inner {a:Tr} (h:dW a) (h4:4<=a.k):a.n=0/\a.t=⟨#[]⟩:=by
 rcases(gO.1 h.1.1).2 with h|⟨h1,h2,_⟩
 ·omega
 ·exact⟨h1,h2⟩
def wR (k:Int) (ks:List ByteArray) (xs:List Tr):List ByteArray:=if k=5 then ks else if k=6 then xs.map Go.Proofs.YtengibnpebfblaaGreatDoor.kB else[]
theorem dW.mkeys {a:Tr} (h:dW a) (h4:a.k=5\/a.k=6):(wR a.k a.ks a.xs).length=a.xs.length/\(wR a.k a.ks a.xs).Pairwise (fun x y=>kb x<kb y)/\∀y∈wR a.k a.ks a.xs,y.size<=200000000:=by
 rcases h4 with h5|h6
 ·obtain⟨h1,h2,_⟩:=h.1.1.mapD h5
  unfold wR;rw[if_pos h5];exact⟨h1,h2,fun y hy=>aG ((eT.1 h.2).2.1 y hy) uAv⟩
 ·obtain⟨h1,h2,_⟩:=h.1.1.setD h6
  unfold wR;rw[if_neg uAu,if_pos h6];refine⟨by simp,?_,fun y hy=> ?_⟩
  ·rw[iK]
   exact h2.imp fun h=>by rw[aBL,aBL];exact h
  ·obtain⟨x,hx,rfl⟩:=cH.1 hy
   exact(h.part hx).kB
end Go.Proofs.YtengibnpebfblaaGreatDoor
