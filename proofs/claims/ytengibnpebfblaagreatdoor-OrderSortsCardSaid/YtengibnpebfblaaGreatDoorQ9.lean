import Derived.Test.YtengibnpebfblaaGreatDoorQ0
import Derived.Test.YtengibnpebfblaaGreatDoorQ5
set_option maxRecDepth 1000000
set_option maxHeartbeats 8000000
set_option linter.unusedSimpArgs false
namespace Go.Proofs.YtengibnpebfblaaGreatDoor
open Go.RowKit
section
variable {P : Program}
theorem aCz (w:World) (dT sT ty elem:TypeId) (g m s:Nat) (a:Addr) (n sCap:Nat) (cur:Array Value) (t:TypeId) (cs:List Value)
  (hu:P.underlying dT=some (.slice elem)) (hs:(P.info? elem).map (·.size)=some s)
  (hg:w.heap[g]? =some (.cells cur t (0,0))) (hle:m<=n) (hn:cs.length=m*s)
  (hsrc:∀j v,cs[j]? =some v->w.cell? (a.add j)=some v) (hfit:cur.size=m*s) (h1:∀v∈cs,v.oneCell'=true):
  (Builtin.copy_ #[dT,sT] ty #[.slice (some ⟨g,0,none⟩) m m,.slice (some a) n sCap]).run P w=.ok (goInt m) (w.setRow g cs.toArray):=by
 have hl:=aGm (P:=P) w a cs hsrc;have hst:=kZ P g 0 t cs 0 cur w hg uAu h1;have hmin:Nat.min n m=m:=Nat.min_eq_right hle;have e:(cur.toList.take 0++cs++cur.toList.drop (0+cs.length)).toArray=cs.toArray:=by
  rw[eB,bD,eD (by rw[bB];omega),mX]
 cases hq:P.info? elem with
 |none=>simp[hq]at hs
 |some i=>
  have hi:i.size=s:=by simpa[hq]using hs
  rw[hn]at hl;simp only[kA,e]at hst;simp[Builtin.copy_,rF hu,Builtin.lenOf,Builtin.firstCells,sizeOf,typeInfo,hq,hi,hmin,hl,hst]
theorem rT {w:World} {S:Nat->Prop} {ops:Array Oper} {rest:List Oper} {o:Oper} {a:Act} {Q:Exit->Act->World->Prop} (hgd:o.guard=none) (d x:Operand) (dT sT:TypeId)
  (ho:o.op=.call {callee:=.builtin .copy,args:=#[d,x],argTypes:=#[dT,sT]}) (elem:TypeId) (hu:P.underlying dT=some (.slice elem)) (s:Nat) (hsz:(P.info? elem).map (·.size)=some s)
  (g m:Nat) (hd:a.eval d=.slice (some ⟨g,0,none⟩) m m) {v:Value} (hv:a.eval x=v) {cs:List Value} {n:Nat} (hc:bZ S w s v cs n) (hm:m<=n) (h0:0<m)
  (T:TypeId) (cur:Array Value) (hg:w.heap[g]? =some (.cells cur T (0,0))) (hfit:cur.size=m*s) (h1:∀u∈cs,u.oneCell'=true)
  (h:∀w',w'.heap[g]? =some (.cells (cs.take (m*s)).toArray T (0,0))->jK g w w'->wpList P ops Q rest (a.put o.dst (goInt m)) w'):wpList P ops Q (o::rest) a w:=by
 obtain⟨g',o',c',rfl,h2,h3,h4,h5⟩:=hc.pos uAu;have hl:=hc.len;have hrun:=aCz (P:=P) w dT sT o.type elem g m s ⟨g',o',none⟩ n c' cur T (cs.take (m*s)) hu hsz hg hm (by rw[aV,hl,gA (dE _ hm)])
  (fun j u hu=>by
   rw[qQ];refine h5 j u ?_;rw[List.getElem?_take]at hu;split at hu
   ·exact hu
   ·cases hu) hfit (fun u hu=>h1 u (dI hu))
 refine cW hgd fun K hK=> ?_
 unfold Oper.wp;simp[execOp,ho,resolve,invoke,builtin,hd,hv,hrun,Result.andThen];exact hK _ _ (h _ (mK w g _ _ _ _ hg) (jA _ _ _))
end
def aI7 {α:Type} (enc:α->List Value) (S:Nat->Prop) (W:World) (t:TypeId) (s:Nat) (v:Value) (pl:List (Value×List α)):Prop:=
 ∃(a:Option Addr) (g cap:Nat),v=.slice a pl.length cap/\(0<pl.length->a=some ⟨g,0,none⟩)/\(∀k (hk:k<pl.length),W.cell? ⟨g,k,none⟩=some pl[k].1)/\∀p∈pl,dP S W t s p.1 (en enc p.2) p.2.length
theorem aDK:∀w,(sizeOf (Tryz.prog.elem 52)).run Tryz.prog w=.ok 4 w:=fun w=>by
 have e:Tryz.prog.elem 52=35:=by kernel_rfl
 rw[e];obtain⟨i,hi,_,h1,_⟩:=dV yC;simp[sizeOf,typeInfo,hi,h1]
theorem aDO:∀w,(sizeOf (Tryz.prog.elem 84)).run Tryz.prog w=.ok 4 w:=fun w=>by
 have e:Tryz.prog.elem 84=86:=by kernel_rfl
 rw[e];obtain⟨i,hi,_,h1,_⟩:=dV tH;simp[sizeOf,typeInfo,hi,h1]
theorem aK2:Tryz.prog.underlying 52=some (.slice (Tryz.prog.elem 52)):=by kernel_rfl
theorem aK9:Tryz.prog.underlying 84=some (.slice (Tryz.prog.elem 84)):=by kernel_rfl
theorem aIT {α:Type} {enc:α->List Value} {s:Nat} (henc:∀x,(enc x).length=s) {W:World} {T:TypeId} {g m B:Nat} {xs:List α} (hB:B<=g) (hm:m<=xs.length) (h0:0<m)
  (hg:W.heap[g]? =some (.cells ((en enc xs).take (m*s)).toArray T (0,0))):dP (fun g=>B<=g) W T s (.slice (some ⟨g,0,none⟩) m m) (en enc (xs.take m)) m:=by
 rw[zF henc]at hg;refine⟨by rw[oA henc,aV,gA hm],.inr ⟨h0,g,m,_,(0,0),rfl,aE _,hB,hg,fun j u hu=>by simpa using hu⟩⟩
theorem aND {α:Type} {enc:α->List Value} (henc:∀x,(enc x).length=4) (hone:∀x,∀u∈enc x,u.oneCell'=true) (w:World) {S:Nat->Prop} (B:Nat) (ls:List (Value×List α))
  (hcells:∀k (hk:k<ls.length),w.cell? ⟨B,k,none⟩=some ls[k].1) (hcut:∀p∈ls,bZ S w 4 p.1 (en enc p.2) p.2.length) (xs:List α) (hxs:eZ ls ls.length=xs) (hN:xs.length<=100000) (hl:ls.length<=1000):
  Calls Tryz.prog 127 #[.slice (some ⟨B,0,none⟩) ls.length ls.length] w fun e w'=>∃v,e=.returned v/\∃pl,aI7 enc (fun g=>w.heap.size<=g) w' 35 4 v pl/\pl.map (·.2)=iY (kI xs.length) xs/\Below w.heap.size w w':=by
 obtain⟨i,hi,hz,h1,h2⟩:=dV yC;have HCC:=iH (aOc hone w B ls hcells hcut (by rw[hxs];exact hN) hl);rw[hxs]at HCC;have HI:=iH (And.intro hi (And.intro hz (And.intro h1 h2)));obtain⟨N,hN'⟩:∃N,N=xs.length:=⟨_,rfl⟩
 have HN:=iH hN;rw[<-hN']at hN HCC;have hN6:(N:Int)<=100000:=by omega
 have HCNT:Hid (((N:Int)+16-1)/16=(kI N:Nat)):=by show _=_;unfold kI;omega
 have HNN:=iH hN';clear hi hz h1 h2 hcells hcut hxs hN hN';go_enter Tryz.func127,Tryz.ntmps127;go_wp2_with (go_at_call 142;refine HCC.out.mono ?_;rintro e w1 ⟨v1,rfl,hc1,hb1⟩;obtain⟨a1,c1,rfl,_⟩:=hc1.shape;have HC1:=iH hc1;have HB1:=iH hb1;clear hc1 hb1)
 go_loopw [3,4,5] (fun all parts left wr=>∃(c:Nat) (rest:List α) (a:Option Addr) (cp:Nat) (done:List (Value×List α)),left=.int .i64 (c:Int)/\all=.slice a rest.length cp/\Hid ((c=0->rest=[])/\1*c<=rest.length/\rest.length<=N/\done.length+c=kI N/\done.map (·.2)++iY c rest=iY (kI N) xs)/\
  Hid (bZ (fun g=>g<w1.heap.size) wr 4 (.slice a rest.length cp) (en enc rest) rest.length)/\Hid (bP w1.heap.size 52 1 parts (done.map fun p=> #[p.1]) wr)/\Hid (∀p∈done,dP (fun g=>w1.heap.size<=g) wr 35 4 p.1 (en enc p.2) p.2.length)/\Hid (Below w.heap.size w wr)) (fun _ _ left _=>(intOf left).toNat)
 case atStart=>
  exact Ab6
 case round=>
  have HB1':Hid (w.heap.size<=w1.heap.size):=HB1.out.size;clear HC1 HCC HB1;obtain⟨c,rest,a,cp,done,rfl,rfl,HR,HC,HP,HD,HB⟩:=hrel;by_cases h0:c=0
  ·exact Aa6
  ·have hR:=HR.out
   have hc0:((c:Int)>0):=by omega
   have hc1:¬((c:Int)=0):=by omega
   obtain⟨c',hce⟩:∃c',c=c'+1:=⟨c-1,by omega⟩
   obtain⟨m,hm⟩:∃m,m=rest.length/(c'+1):=⟨_,rfl⟩
   rw[hce]at hR;have hm0:0<m:=by have:=(qK hR.2.1).1;omega
   have hmle:m<=rest.length:=by rw[hm];exact uF _ _
   have hq1:(rest.length:Int)/(c:Int)=(m:Int):=by rw[hm,hce];exact(aJH _ _).symm
   have hm5:(m:Int)<=100000:=by omega
   have hcs:((c:Int)-1)=(c':Int):=by omega
   have hc5:(c:Int)<=100000:=by omega
   obtain⟨a3,c3,hc3,hr3⟩:=uW 52 aK2 aDK HC.out (lo:=m) hmle;rw[tS henc]at hc3;have HC3:=iH hc3;have HM:=iH (And.intro hm (And.intro hm0 hmle));have HRN:=iH hR;have hrl:(rest.length:Int)<=100000:=by omega
   have HW1:Hid (w1.heap.size<=wr.heap.size):=HP.out.2.1;have HCE:=iH hce;clear hm hm0 hmle hR hc3 h0 hce HR;go_wp2_with (first
    |(refine mH _ rfl _ _ 52 rfl 35 i (.agg (aX gT)) 4 Tryz.underlying52 HI.out.1 HI.out.2.1 HI.out.2.2.1 .i64 .i64 m rfl rfl uLy uAu ?_)
    |(refine rT rfl _ _ 52 52 rfl 35 Tryz.underlying52 4 aR wr.heap.size m rfl rfl (HC.out.later (Below.newly' _ _)) HM.out.2.2 HM.out.2.1 35 _ (aF _ _) (by simp[nS]) (xR hone _) ?_;intro w4 h4 k4;have HG4:=iH h4;have HB4:Hid (Below wr.heap.size wr w4):=(Below.newly' _ _).trans (k4.below (aE _));clear h4 k4)
    |(refine rY rfl (z:=.slice none 0 0) (by_:=24) 179 52 _ _ rfl rfl ((HP.out.later HB4.out).later (Below.newly' _ _)) w4.heap.size rfl (aF w4 _) rfl uAy Tryz.underlying179 hO rfl uAv uIu uAv ?_;intro v6 w6 hp6 hg6;have HP6:=iH hp6;have HG6:=iH hg6;clear hp6 hg6))
   go_roundw
   case rel=>
    have hm:=HM.out;have hR:=HRN.out;have hw1:=HW1.out;have hb5:Below wr.heap.size wr (w4.alloc (.cells #[.slice (some ⟨wr.heap.size,0,none⟩) m m] 52)):=Below.more HB4.out _;have hp5:bP w1.heap.size 52 1 u4 (done.map fun p=> #[p.1]) (w4.alloc (.cells #[.slice (some ⟨wr.heap.size,0,none⟩) m m] 52)):=HP.out.later hb5;have hdl:(rest.drop m).length=rest.length-m:=bS;have hst:=(qK hR.2.1).2;rw[<-hm.1]at hst;have htl:(rest.take m).length=m:=by rw[aV,gA hm.2.2]
    refine⟨c',rest.drop m,a3,c3,done++[(.slice (some ⟨wr.heap.size,0,none⟩) m m,rest.take m)],rfl,by rw[hdl],⟨fun h=> ?_,by rw[hdl];exact hst,by rw[hdl];omega,?_,?_⟩,?_,?_,iH (fun p hp=> ?_),?_⟩
    ·refine aT ?_
     rw[hdl,hm.1,h];simp
    ·rw[aD,bM]
     omega
    ·exact Ak5
    ·exact Ad4
    ·rw[bQ]
     exact HP6.out
    ·have hT:∀X,u4.ownBlock=some X->∃o:Obj,(w4.alloc (.cells #[.slice (some ⟨wr.heap.size,0,none⟩) m m] 52)).heap[X]? =some o/\∀cs fr,o≠.cells cs 35 fr:=fun X e=>by
      obtain⟨cs,fr,h⟩:=hp5.typed' X e;exact⟨_,h,fun cs' fr' e=>by cases e⟩
     exact Ad7
    ·exact Ah2
   case measure=>have:=HCE.out;simp[intOf];omega
theorem aMr {α:Type} {enc:α->List Value} (henc:∀x,(enc x).length=4) (hone:∀x,∀u∈enc x,u.oneCell'=true) (w:World) {S:Nat->Prop} (B:Nat) (ls:List (Value×List α))
  (hcells:∀k (hk:k<ls.length),w.cell? ⟨B,k,none⟩=some ls[k].1) (hcut:∀p∈ls,bZ S w 4 p.1 (en enc p.2) p.2.length) (xs:List α) (hxs:eZ ls ls.length=xs) (hN:xs.length<=100000) (hl:ls.length<=1000):
  Calls Tryz.prog 126 #[.slice (some ⟨B,0,none⟩) ls.length ls.length] w fun e w'=>∃v,e=.returned v/\∃pl,aI7 enc (fun g=>w.heap.size<=g) w' 86 4 v pl/\pl.map (·.2)=iY (kI xs.length) xs/\Below w.heap.size w w':=by
 obtain⟨i,hi,hz,h1,h2⟩:=dV tH;have HCC:=iH (aNa hone w B ls hcells hcut (by rw[hxs];exact hN) hl);rw[hxs]at HCC;have HI:=iH (And.intro hi (And.intro hz (And.intro h1 h2)));obtain⟨N,hN'⟩:∃N,N=xs.length:=⟨_,rfl⟩
 have HN:=iH hN;rw[<-hN']at hN HCC;have hN6:(N:Int)<=100000:=by omega
 have HCNT:Hid (((N:Int)+16-1)/16=(kI N:Nat)):=by show _=_;unfold kI;omega
 have HNN:=iH hN';clear hi hz h1 h2 hcells hcut hxs hN hN';go_enter Tryz.func126,Tryz.ntmps126;go_wp2_with (go_at_call 141;refine HCC.out.mono ?_;rintro e w1 ⟨v1,rfl,hc1,hb1⟩;obtain⟨a1,c1,rfl,_⟩:=hc1.shape;have HC1:=iH hc1;have HB1:=iH hb1;clear hc1 hb1)
 go_loopw [3,4,5] (fun all parts left wr=>∃(c:Nat) (rest:List α) (a:Option Addr) (cp:Nat) (done:List (Value×List α)),left=.int .i64 (c:Int)/\all=.slice a rest.length cp/\Hid ((c=0->rest=[])/\1*c<=rest.length/\rest.length<=N/\done.length+c=kI N/\done.map (·.2)++iY c rest=iY (kI N) xs)/\
  Hid (bZ (fun g=>g<w1.heap.size) wr 4 (.slice a rest.length cp) (en enc rest) rest.length)/\Hid (bP w1.heap.size 84 1 parts (done.map fun p=> #[p.1]) wr)/\Hid (∀p∈done,dP (fun g=>w1.heap.size<=g) wr 86 4 p.1 (en enc p.2) p.2.length)/\Hid (Below w.heap.size w wr)) (fun _ _ left _=>(intOf left).toNat)
 case atStart=>
  exact Ab6
 case round=>
  have HB1':Hid (w.heap.size<=w1.heap.size):=HB1.out.size;clear HC1 HCC HB1;obtain⟨c,rest,a,cp,done,rfl,rfl,HR,HC,HP,HD,HB⟩:=hrel;by_cases h0:c=0
  ·exact Aa6
  ·have hR:=HR.out
   have hc0:((c:Int)>0):=by omega
   have hc1:¬((c:Int)=0):=by omega
   obtain⟨c',hce⟩:∃c',c=c'+1:=⟨c-1,by omega⟩
   obtain⟨m,hm⟩:∃m,m=rest.length/(c'+1):=⟨_,rfl⟩
   rw[hce]at hR;have hm0:0<m:=by have:=(qK hR.2.1).1;omega
   have hmle:m<=rest.length:=by rw[hm];exact uF _ _
   have hq1:(rest.length:Int)/(c:Int)=(m:Int):=by rw[hm,hce];exact(aJH _ _).symm
   have hm5:(m:Int)<=100000:=by omega
   have hcs:((c:Int)-1)=(c':Int):=by omega
   have hc5:(c:Int)<=100000:=by omega
   obtain⟨a3,c3,hc3,hr3⟩:=uW 84 aK9 aDO HC.out (lo:=m) hmle;rw[tS henc]at hc3;have HC3:=iH hc3;have HM:=iH (And.intro hm (And.intro hm0 hmle));have HRN:=iH hR;have hrl:(rest.length:Int)<=100000:=by omega
   have HW1:Hid (w1.heap.size<=wr.heap.size):=HP.out.2.1;have HCE:=iH hce;clear hm hm0 hmle hR hc3 h0 hce HR;go_wp2_with (first
    |(refine mH _ rfl _ _ 84 rfl 86 i (.agg #[.int .i64 0,.int .i64 0,.slice none 0 0,.slice none 0 0]) 4 Tryz.underlying84 HI.out.1 HI.out.2.1 HI.out.2.2.1 .i64 .i64 m rfl rfl uLy uAu ?_)
    |(refine rT rfl _ _ 84 84 rfl 86 Tryz.underlying84 4 dY wr.heap.size m rfl rfl (HC.out.later (Below.newly' _ _)) HM.out.2.2 HM.out.2.1 86 _ (aF _ _) (by simp[nS]) (xR hone _) ?_;intro w4 h4 k4;have HG4:=iH h4;have HB4:Hid (Below wr.heap.size wr w4):=(Below.newly' _ _).trans (k4.below (aE _));clear h4 k4)
    |(refine rY rfl (z:=.slice none 0 0) (by_:=24) 177 84 _ _ rfl rfl ((HP.out.later HB4.out).later (Below.newly' _ _)) w4.heap.size rfl (aF w4 _) rfl uAy Tryz.underlying177 hO rfl uAv uIu uAv ?_;intro v6 w6 hp6 hg6;have HP6:=iH hp6;have HG6:=iH hg6;clear hp6 hg6))
   go_roundw
   case rel=>
    have hm:=HM.out;have hR:=HRN.out;have hw1:=HW1.out;have hb5:Below wr.heap.size wr (w4.alloc (.cells #[.slice (some ⟨wr.heap.size,0,none⟩) m m] 84)):=Below.more HB4.out _;have hp5:bP w1.heap.size 84 1 u4 (done.map fun p=> #[p.1]) (w4.alloc (.cells #[.slice (some ⟨wr.heap.size,0,none⟩) m m] 84)):=HP.out.later hb5;have hdl:(rest.drop m).length=rest.length-m:=bS;have hst:=(qK hR.2.1).2;rw[<-hm.1]at hst;have htl:(rest.take m).length=m:=by rw[aV,gA hm.2.2]
    refine⟨c',rest.drop m,a3,c3,done++[(.slice (some ⟨wr.heap.size,0,none⟩) m m,rest.take m)],rfl,by rw[hdl],⟨fun h=> ?_,by rw[hdl];exact hst,by rw[hdl];omega,?_,?_⟩,?_,?_,iH (fun p hp=> ?_),?_⟩
    ·refine aT ?_
     rw[hdl,hm.1,h];simp
    ·rw[aD,bM]
     omega
    ·exact Ak5
    ·exact Ad4
    ·rw[bQ]
     exact HP6.out
    ·have hT:∀X,u4.ownBlock=some X->∃o:Obj,(w4.alloc (.cells #[.slice (some ⟨wr.heap.size,0,none⟩) m m] 84)).heap[X]? =some o/\∀cs fr,o≠.cells cs 86 fr:=fun X e=>by
      obtain⟨cs,fr,h⟩:=hp5.typed' X e;exact⟨_,h,fun cs' fr' e=>by cases e⟩
     exact Ad7
    ·exact Ah2
   case measure=>have:=HCE.out;simp[intOf];omega
end Go.Proofs.YtengibnpebfblaaGreatDoor
set_option maxRecDepth 1000000
set_option maxHeartbeats 8000000
set_option linter.unusedSimpArgs false
namespace Go.Proofs.YtengibnpebfblaaGreatDoor
open Go.RowKit
structure Kid where
 a:Value
 b:Value
 l:List Cel
 k:Nat
 ha:a.oneCell'=true
 hb:b.oneCell'=true
def iC (h:Nat) (p:Kid):List Value:=[.int .i64 (p.l.length:Int),.int .i64 ((h+1:Nat):Int),p.a,p.b]
theorem uS (h:Nat) (p:Kid):(iC h p).length=4:=rfl
theorem yW (h:Nat) (p:Kid):∀u∈iC h p,u.oneCell'=true:=by
 intro u hu;simp only[iC,bA,gX,wV]at hu;rcases hu with rfl|rfl|rfl|rfl
 ·rfl
 ·rfl
 ·exact p.ha
 ·exact p.hb
def eV (ks:List Kid):List Cel:=ks.flatMap (·.l)
theorem kT (xs ys:List Kid):eV (xs++ys)=eV xs++eV ys:=by simp[eV]
theorem aAd (x:Kid) (ys:List Kid):eV (x::ys)=x.l++eV ys:=by simp[eV]
theorem zK (x:Kid):eV [x]=x.l:=by simp[eV]
def fD (S:Nat->Prop) (W:World):Nat->Kid->Prop
 |0,p=>p.a=.slice none 0 0/\p.k=p.l.length/\1<=p.k/\p.k<=16/\dP S W 35 4 p.b (ivV p.l) p.k
 |h+1,p=>p.b=.slice none 0 0/\1<=p.k/\p.k<=16/\∃ks:List Kid,dP S W 86 4 p.a (en (iC h) ks) p.k/\ks.length=p.k/\p.l=eV ks/\∀q∈ks,8<=q.k/\fD S W h q
section
variable {S S' : Nat → Prop} {W W' : World} {n₀ : Nat}
theorem fD.weak (hs:∀g,S g->S' g):∀{h:Nat} {p:Kid},fD S W h p->fD S' W h p
 |0,_,⟨h1,h2,h3,h4,h5⟩=>⟨h1,h2,h3,h4,h5.weak hs⟩
 |_+1,_,⟨h1,h2,h3,ks,h4,h5,h6,h7⟩=>⟨h1,h2,h3,ks,h4.weak hs,h5,h6,fun q hq=>⟨(h7 q hq).1,(h7 q hq).2.weak hs⟩⟩
theorem fD.old:∀{h:Nat} {p:Kid},fD S W h p->fD (fun g=>S g/\g<W.heap.size) W h p
 |0,_,⟨h1,h2,h3,h4,h5⟩=>⟨h1,h2,h3,h4,h5.old⟩
 |_+1,_,⟨h1,h2,h3,ks,h4,h5,h6,h7⟩=>⟨h1,h2,h3,ks,h4.old,h5,h6,fun q hq=>⟨(h7 q hq).1,(h7 q hq).2.old⟩⟩
theorem fD.kept {row:Option Nat} (hg:W.grownBy W' row) (hr:∀X,row=some X->¬S X):∀{h:Nat} {p:Kid},fD S W h p->fD S W' h p
 |0,_,⟨h1,h2,h3,h4,h5⟩=>⟨h1,h2,h3,h4,h5.kept hg hr⟩
 |_+1,_,⟨h1,h2,h3,ks,h4,h5,h6,h7⟩=>⟨h1,h2,h3,ks,h4.kept hg hr,h5,h6,fun q hq=>⟨(h7 q hq).1,(h7 q hq).2.kept hg hr⟩⟩
theorem fD.keptT {row:Option Nat} (hg:W.grownBy W' row) (hT:∀X,row=some X->∃o:Obj,W.heap[X]? =some o/\∀cs fr,o≠.cells cs 35 fr/\o≠.cells cs 86 fr):∀{h:Nat} {p:Kid},fD S W h p->fD S W' h p
 |0,_,⟨h1,h2,h3,h4,h5⟩=>⟨h1,h2,h3,h4,h5.keptT hg fun X e=>by obtain⟨o,h1,h2⟩:=hT X e;exact⟨o,h1,fun cs fr=>(h2 cs fr).1⟩⟩
 |_+1,_,⟨h1,h2,h3,ks,h4,h5,h6,h7⟩=>⟨h1,h2,h3,ks,h4.keptT hg fun X e=>by obtain⟨o,h1,h2⟩:=hT X e;exact⟨o,h1,fun cs fr=>(h2 cs fr).2⟩,h5,h6,fun q hq=>⟨(h7 q hq).1,(h7 q hq).2.keptT hg hT⟩⟩
theorem fD.later {h:Nat} {p:Kid} (hn:fD S W h p) (hb:Below W.heap.size W W'):fD S W' h p:=
 hn.kept (row:=none) ⟨hb.os,hb.tape,hb.output,hb.size,fun k hk _=>hb.block k hk⟩ (fun _ e=>by cases e)
theorem fD.low (hb:Below n₀ W W'):∀{h:Nat} {p:Kid},fD (fun g=>g<n₀) W h p->fD (fun g=>g<n₀) W' h p
 |0,_,⟨h1,h2,h3,h4,h5⟩=>⟨h1,h2,h3,h4,h5.low hb⟩
 |_+1,_,⟨h1,h2,h3,ks,h4,h5,h6,h7⟩=>⟨h1,h2,h3,ks,h4.low hb,h5,h6,fun q hq=>⟨(h7 q hq).1,(h7 q hq).2.low hb⟩⟩
theorem fD.wid {h:Nat} {p:Kid} (hn:fD S W h p):1<=p.k/\p.k<=16:=by
 cases h with
 |zero=>exact⟨hn.2.2.1,hn.2.2.2.1⟩
 |succ h=>exact⟨hn.2.1,hn.2.2.1⟩
theorem fD.shape {h:Nat} {p:Kid} (hn:fD S W h p):(∃q k c,p.a=.slice q k c)/\∃q k c,p.b=.slice q k c:=by
 cases h with
 |zero=>obtain⟨q,c,e,_⟩:=hn.2.2.2.2.shape;exact⟨⟨_,_,_,hn.1⟩,_,_,_,e⟩
 |succ h=>obtain⟨h1,_,_,ks,h4,_⟩:=hn;obtain⟨q,c,e,_⟩:=h4.shape;exact⟨⟨_,_,_,e⟩,_,_,_,h1⟩
end
theorem sP {c:Nat}:∀ks:List Kid,(∀q∈ks,c<=q.l.length)->ks.length*c<=(eV ks).length
 |[],_=>by simp[eV]
 |q::ks,h=>by
  have h1:=sP ks (fun x hx=>h x (aU _ hx));exact Ai1
theorem aDp {c:Nat}:∀ks:List Kid,(∀q∈ks,q.l.length<=c)->(eV ks).length<=ks.length*c
 |[],_=>by simp[eV]
 |q::ks,h=>by
  have h1:=aDp ks (fun x hx=>h x (aU _ hx));exact Ai1
theorem fD.least {S:Nat->Prop} {W:World}:∀{h:Nat} {p:Kid},fD S W h p->p.k*8^h<=p.l.length
 |0,p,hn=>by rw[hn.2.1];simp
 |h+1,p,⟨_,_,_,ks,_,h5,h6,h7⟩=>by
  rw[h6,<-h5];refine aG ?_ (sP (c:=8^(h+1)) ks fun q hq=> ?_)
  ·exact aE _
  ·have h1:=fD.least (h7 q hq).2
   have h2:8*8^h<=q.k*8^h:=dE _ (h7 q hq).1;rw[aB1];omega
theorem fD.most {S:Nat->Prop} {W:World}:∀{h:Nat} {p:Kid},fD S W h p->p.l.length<=p.k*16^h
 |0,p,hn=>by rw[hn.2.1];simp
 |h+1,p,⟨_,_,_,ks,_,h5,h6,h7⟩=>by
  rw[h6,<-h5];refine aG (aDp (c:=16^(h+1)) ks fun q hq=> ?_) (aE _);have h1:=fD.most (h7 q hq).2;have h2:q.k*16^h<=16*16^h:=dE _ (h7 q hq).2.wid.2;rw[aB1];omega
theorem fD.high {S:Nat->Prop} {W:World} {h:Nat} {p:Kid} (hn:fD S W h p):h<p.l.length:=by
 have h1:=hn.least;have h2:h<8^h:=Nat.lt_pow_self uAv;have h3:1*8^h<=p.k*8^h:=dE _ hn.wid.1;omega
theorem fD.len0 {S:Nat->Prop} {W:World} {h:Nat} {p:Kid} (hn:fD S W h p):0<p.l.length:=by have:=hn.high;omega
def jH (S:Nat->Prop) (W:World) (h:Nat) (v:Value) (ks:List Kid):Prop:=bZ S W 4 v (en (iC h) ks) ks.length/\∀p∈ks,fD S W h p
section
variable {S S' : Nat → Prop} {W W' : World} {h : Nat} {v : Value} {ks : List Kid}
theorem jH.weak (hn:jH S W h v ks) (hs:∀g,S g->S' g):jH S' W h v ks:=⟨hn.1.weak hs,fun p hp=>(hn.2 p hp).weak hs⟩
theorem jH.old (hn:jH S W h v ks):jH (fun g=>S g/\g<W.heap.size) W h v ks:=⟨hn.1.old,fun p hp=>(hn.2 p hp).old⟩
theorem jH.kept {row:Option Nat} (hn:jH S W h v ks) (hg:W.grownBy W' row) (hr:∀X,row=some X->¬S X):jH S W' h v ks:=⟨hn.1.kept hg hr,fun p hp=>(hn.2 p hp).kept hg hr⟩
theorem jH.later (hn:jH S W h v ks) (hb:Below W.heap.size W W'):jH S W' h v ks:=⟨hn.1.later hb,fun p hp=>(hn.2 p hp).later hb⟩
end
def Fit (N:Nat) (ks:List Kid):Prop:=ks.length=kI N/\∀p∈ks,(2<=ks.length->8<=p.k)/\(ks.length=1->p.k=N)
def qC:Array Value:=#[.int .i64 0,.int .i64 0,.slice none 0 0,.slice none 0 0]
def dS (S:Nat->Prop) (W:World) (c:Array Value) (l:List Cel):Prop:=
 (l=[]/\c=qC)\/∃h p,c=(iC h p).toArray/\p.l=l/\fD S W h p/\(h=0\/2<=p.k)
section
variable {S S' : Nat → Prop} {W W' : World} {c : Array Value} {l : List Cel} {n₀ : Nat}
theorem dS.weak (hn:dS S W c l) (hs:∀g,S g->S' g):dS S' W c l:=by
 rcases hn with hn|⟨h,p,h1,h2,h3,h4⟩
 ·exact .inl hn
 ·exact .inr ⟨h,p,h1,h2,h3.weak hs,h4⟩
theorem dS.old (hn:dS S W c l):dS (fun g=>S g/\g<W.heap.size) W c l:=by
 rcases hn with hn|⟨h,p,h1,h2,h3,h4⟩
 ·exact .inl hn
 ·exact .inr ⟨h,p,h1,h2,h3.old,h4⟩
theorem dS.kept {row:Option Nat} (hn:dS S W c l) (hg:W.grownBy W' row) (hr:∀X,row=some X->¬S X):dS S W' c l:=by
 rcases hn with hn|⟨h,p,h1,h2,h3,h4⟩
 ·exact .inl hn
 ·exact .inr ⟨h,p,h1,h2,h3.kept hg hr,h4⟩
theorem dS.keptT {row:Option Nat} (hn:dS S W c l) (hg:W.grownBy W' row) (hT:∀X,row=some X->∃o:Obj,W.heap[X]? =some o/\∀cs fr,o≠.cells cs 35 fr/\o≠.cells cs 86 fr):dS S W' c l:=by
 rcases hn with hn|⟨h,p,h1,h2,h3,h4⟩
 ·exact .inl hn
 ·exact .inr ⟨h,p,h1,h2,h3.keptT hg hT,h4⟩
theorem dS.later (hn:dS S W c l) (hb:Below W.heap.size W W'):dS S W' c l:=by
 rcases hn with hn|⟨h,p,h1,h2,h3,h4⟩
 ·exact .inl hn
 ·exact .inr ⟨h,p,h1,h2,h3.later hb,h4⟩
theorem dS.low (hn:dS (fun g=>g<n₀) W c l) (hb:Below n₀ W W'):dS (fun g=>g<n₀) W' c l:=by
 rcases hn with hn|⟨h,p,h1,h2,h3,h4⟩
 ·exact .inl hn
 ·exact .inr ⟨h,p,h1,h2,h3.low hb,h4⟩
theorem dS.but {X:Nat} {cs:Array Value} {T:TypeId} {fr:Nat×Nat} (hn:dS S W c l) (k:jK X W W') (hX:W.heap[X]? =some (.cells cs T fr)) (h1:T≠35) (h2:T≠86):dS S W' c l:=
 hn.keptT k.by_ fun Y e=>by
  cases e
  exact⟨_,hX,fun cs fr=>⟨fun e=>(by simp only[dU]at e;exact h1 e.2.1),fun e=>(by simp only[dU]at e;exact h2 e.2.1)⟩⟩
theorem dS.size (hn:dS S W c l):c.size=4:=by
 rcases hn with⟨_,rfl⟩|⟨h,p,rfl,_⟩<;>rfl
theorem dS.one (hn:dS S W c l):c.all (·.oneCell')=true:=by
 rcases hn with⟨_,rfl⟩|⟨h,p,rfl,_⟩
 ·simp[qC,Value.oneCell']
 ·exact Ai8
theorem dS.n (hn:dS S W c l):c[0]? =some (.int .i64 (l.length:Int)):=by
 rcases hn with⟨rfl,rfl⟩|⟨h,p,rfl,rfl,_⟩<;>rfl
theorem dS.cells (hn:dS S W c l):∃(d:Nat) (q1:Option Addr) (n1 c1:Nat) (q2:Option Addr) (n2 c2:Nat),c=#[.int .i64 (l.length:Int),.int .i64 (d:Int),.slice q1 n1 c1,.slice q2 n2 c2]/\d<=l.length/\(d=0↔l.length=0)/\(2<=d->2*8^(d-1)<=l.length)/\l.length<=16^d:=by
 rcases hn with⟨rfl,rfl⟩|⟨h,p,rfl,rfl,h3,h4⟩
 ·exact⟨0,_,_,_,_,_,_,rfl,aE _,Iff.rfl,fun h=>absurd h uAu,by simp⟩
 ·obtain⟨⟨q1,n1,c1,e1⟩,q2,n2,c2,e2⟩:=h3.shape
  have h5:=h3.high;have h6:=h3.most;have h7:=h3.wid;refine⟨h+1,q1,n1,c1,q2,n2,c2,by rw[iC,e1,e2],by omega,by constructor<;>(intro;omega),fun h8=> ?_,?_⟩
  ·have h9:=h3.least
   have:2*8^h<=p.k*8^h:=dE _ (by rcases h4 with h4|h4<;>omega);rw[Nat.add_sub_cancel];omega
  ·have:p.k*16^h<=16*16^h:=dE _ h7.2
   rw[aB1];omega
end
end Go.Proofs.YtengibnpebfblaaGreatDoor
namespace Go.Proofs.YtengibnpebfblaaGreatDoor
open Go.RowKit
theorem aFb {B:Nat} {e:TypeId} {s:Nat} {v:Value} {cs:List (Array Value)} {w:World} (h:bP B e s v cs w):bZ (fun g=>B<=g) w s v (cs.flatMap Array.toList) cs.length:=by
 obtain⟨h1,h2,h3⟩:=h;have h1':=h1;obtain⟨hl,h4⟩:=h1;rcases h4 with⟨rfl,e0⟩|⟨g,cap,cur,fz,rfl,a2,a3,a4,a5,a6,a7⟩
 ·rw[e0]
  exact⟨none,0,rfl,aE _,by rw[hl,e0],.inl ⟨rfl,rfl⟩⟩
 ·refine⟨_,cap,rfl,by omega,hl,.inr ⟨g,0,rfl,a2,(gZ a3),fun j u hu=> ?_⟩⟩
  have:=h1'.cells (g:=g) rfl j u hu;rwa[qQ]at this
theorem aDb (h:Nat) (ks:List Kid):(ks.map fun p=>(iC h p).toArray).flatMap Array.toList=en (iC h) ks:=by
 unfold en;induction ks with
 |nil=>rfl
 |cons p ks ih=>rw[cG,cN,cN,ih]
theorem aLs {α:Type} {xs:List α} {kq:List (Kid×List α)} (h:kq.map (·.2)=iY (kI xs.length) xs) (hk:∀x∈kq,x.1.k=x.2.length):Fit xs.length (kq.map (·.1)):=by
 have hl:kq.length=kI xs.length:=by
  exact Ak7
 refine⟨by rw[aH,hl],fun p hp=> ?_⟩;obtain⟨x,hx,rfl⟩:=cH.1 hp;have hm:x.2∈iY (kI xs.length) xs:=by rw[<-h];exact cH.2 ⟨x,hx,rfl⟩
 rw[aH,hl,hk x hx];refine⟨(uX xs _ hm).2.2,fun h1=> ?_⟩;rw[aHc xs h1,cB]at hm;rw[hm]
theorem aGc:∀kq:List (Kid×List Cel),(∀x∈kq,x.1.l=x.2)->eV (kq.map (·.1))=(kq.map (·.2)).flatten
 |[],_=>rfl
 |x::kq,h=>by
  rw[cG,cG,aAd,rL,h x (aW ..),aGc kq fun y hy=>h y (aU _ hy)]
theorem aDq:∀kq:List (Kid×List Kid),(∀x∈kq,x.1.l=eV x.2)->eV (kq.map (·.1))=eV ((kq.map (·.2)).flatten)
 |[],_=>rfl
 |x::kq,h=>by
  rw[cG,cG,aAd,rL,kT,h x (aW ..),aDq kq fun y hy=>h y (aU _ hy)]
theorem tU {α:Type} (xs:List α):(iY (kI xs.length) xs).flatten=xs:=
 aAw _ _ fun h=>aT (by unfold kI at h;omega)
theorem aFm {α:Type} {xs:List α} {pl:List (Value×List α)} (h:pl.map (·.2)=iY (kI xs.length) xs) {k:Nat} (hk:k<pl.length):1<=pl[k].2.length/\pl[k].2.length<=16:=by
 have hm:pl[k].2∈iY (kI xs.length) xs:=by rw[<-h];exact cH.2 ⟨pl[k],aO hk,rfl⟩
 exact⟨(uX xs _ hm).1,(uX xs _ hm).2.1⟩
theorem aD2 {α:Type} {xs:List α} {pl:List (Value×List α)} (h:pl.map (·.2)=iY (kI xs.length) xs):pl.length=kI xs.length:=by
 exact Ak7
theorem aIJ (w:World) {S:Nat->Prop} (B:Nat) (ls:List (Value×List Cel)) (hcells:∀k (hk:k<ls.length),w.cell? ⟨B,k,none⟩=some ls[k].1) (hcut:∀p∈ls,bZ S w 4 p.1 (ivV p.2) p.2.length)
  (xs:List Cel) (hxs:eZ ls ls.length=xs) (hN:xs.length<=100000) (hl:ls.length<=1000):
  Calls Tryz.prog 110 #[.slice (some ⟨B,0,none⟩) ls.length ls.length] w fun e w'=>∃v,e=.returned v/\∃ks,jH (fun g=>w.heap.size<=g) w' 0 v ks/\eV ks=xs/\Fit xs.length ks/\Below w.heap.size w w':=by
 have HSP:=iH (aND vT aN1 w B ls hcells (fun p hp=>by exact hcut p hp) xs hxs hN hl);have HN:=iH hN;clear hcells hcut hxs hN;go_enter Tryz.func110,Tryz.ntmps110;go_wp2_with (go_at_call 127;refine HSP.out.mono ?_;rintro e w1 ⟨v1,rfl,pl,⟨a1,g1,cap1,rfl,ha1,hc1,hh1⟩,hpl,hb1⟩;have HA1:=iH ha1;have HC1:=iH hc1;have HH1:=iH hh1;have HPL:=iH hpl;have HB1:=iH hb1;clear ha1 hc1 hh1 hpl hb1)
 clear HSP;have hpl5:(pl.length:Int)<=100000:=by have:=aD2 HPL.out;have:=HN.out;unfold kI at*;omega
 go_loopw [3,9] (fun nv iv wr=>∃(k:Nat) (kq:List (Kid×List Cel)),iv=.int .i64 (k:Int)/\k<=pl.length/\Hid (bP w1.heap.size 86 4 nv ((kq.map (·.1)).map fun p=>(iC 0 p).toArray) wr)/\
  Hid ((∀x∈kq,fD (fun g=>w.heap.size<=g/\g<w1.heap.size) wr 0 x.1/\x.1.l=x.2)/\kq.map (·.2)=(pl.take k).map (·.2))/\Hid (Below w1.heap.size w1 wr)) (fun _ iv _=>pl.length-(intOf iv).toNat)
 case atStart=>exact⟨0,[],rfl,aQ _,⟨kM _ _ _ _,aE _,fun c h=>uQu⟩,⟨fun x h=>uQu,rfl⟩,aY _ _⟩
 case round=>
  obtain⟨k,kq,rfl,hk,HP,HK,HB⟩:=hrel;by_cases hlt:k<pl.length
  ·have hpp:=aFm HPL.out hlt
   obtain rfl:a1=some ⟨g1,0,none⟩:=HA1.out uAu;have hc:=(HB.out.cell (p:=⟨g1,k,none⟩) (aM _ _ (HC1.out k hlt))).trans (HC1.out k hlt);have HH:=iH (HH1.out _ (aO hlt));obtain⟨q,hq⟩:∃q,q=pl[k]:=⟨_,rfl⟩
   rw[<-hq]at hc hpp HH;obtain⟨qv,ql⟩:=q;dsimp only at hc hpp HH;obtain⟨n,hn⟩:∃n,n=ql.length:=⟨_,rfl⟩
   rw[<-hn]at hpp HH;obtain⟨g,c,cur,fr,rfl,hcap,_⟩:=HH.out.pos hpp.1;have HQ:=iH hq;have HNN:=iH hn;have HPP:=iH hpp;have hn16:(n:Int)<=16:=by omega
   have HLEN:Hid (kq.length<=100000):=by
    exact Ah7
   clear hq hn hpp hcap hk;go_wp2_with (first
    |(refine nK rfl 84 86 _ rfl #[.int .i64 (n:Int),.int .i64 1,.slice none 0 0,.slice (some ⟨g,0,none⟩) n c] 4 (.agg qC) rfl rfl uAv uAv Tryz.underlying84 hO ?_;intro w3 h3 hb3 hs3;have HG3:=iH h3;have HB3:=iH hb3;clear h3 hb3 hs3)
    |(refine rY rfl (z:=.agg qC) (by_:=64) 84 86 _ _ rfl rfl (HP.out.later HB3.out) wr.heap.size rfl HG3.out rfl uAy Tryz.underlying84 hO rfl uAv (by rw[aH,aH];exact HLEN.out) uAv ?_;intro v6 w6 hp6 hg6;have HP6:=iH hp6;have HG6:=iH hg6;clear hp6 hg6))
   go_roundw
   case rel=>
    have hp3:=HP.out.later HB3.out;have hkT:∀X,_=some X->w1.heap.size<=X:=fun X e=>by
     exact Ag7
    refine⟨k+1,kq++[(⟨.slice none 0 0,.slice (some ⟨g,0,none⟩) n c,ql,n,rfl,rfl⟩,ql)],by simp,by omega,?_,⟨fun x hx=> ?_,?_⟩,?_⟩
    ·rw[bQ,bQ]
     have e:((iC 0 ⟨.slice none 0 0,.slice (some ⟨g,0,none⟩) n c,ql,n,rfl,rfl⟩).toArray:Array Value)=#[.int .i64 (n:Int),.int .i64 1,.slice none 0 0,.slice (some ⟨g,0,none⟩) n c]:=by rw[HNN.out];rfl
     rw[qB,qB,e];exact HP6.out
    ·rcases cP.1 hx with hx|hx
     ·exact⟨((HK.out.1 x hx).1.later HB3.out).kept HG6.out (fun X e h=>by have:=hkT X e;omega),(HK.out.1 x hx).2⟩
     ·rw[cB]at hx
      subst hx;refine⟨⟨rfl,HNN.out,HPP.out.1,HPP.out.2,?_⟩,rfl⟩;have hh:=HH.out.old;exact((hh.later (tW HB.out HB3.out)).kept HG6.out (fun X e h=>by have:=hkT X e;omega))
    ·exact Ai4
    ·exact(tW HB.out HB3.out).trans (lQ HG6.out (by have:=HB.out.size;have:=HB3.out.size;omega) hkT)
   case measure=>simp[intOf];omega
  ·obtain rfl:k=pl.length:=by omega
   go_wp2_with fail
   go_ret;have hk:=HK.out;rw[eN,HPL.out]at hk;refine⟨_,rfl,kq.map (·.1),⟨?_,fun p hp=> ?_⟩,?_,aLs hk.2 fun x hx=> ?_,tW HB1.out HB.out⟩
   ·have h:=(aFb HP.out).weak (S':=fun g=>w.heap.size<=g) (fun g hg=>aG HB1.out.size hg)
    rw[aDb,aH]at h;exact h
   ·exact Aj5
   ·rw[aGc _ fun x hx=>(hk.1 x hx).2,hk.2,tU]
   ·have h:=(hk.1 x hx)
    rw[h.1.2.1,h.2]
end Go.Proofs.YtengibnpebfblaaGreatDoor
