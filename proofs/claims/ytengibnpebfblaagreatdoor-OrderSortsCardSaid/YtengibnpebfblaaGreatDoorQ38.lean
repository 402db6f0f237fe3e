import Derived.Test.YtengibnpebfblaaGreatDoorQ0
import Derived.Test.YtengibnpebfblaaGreatDoorQ34
import Derived.Test.YtengibnpebfblaaGreatDoorQ37
set_option maxRecDepth 1000000
set_option maxHeartbeats 8000000
set_option linter.unusedSimpArgs false
namespace Go.Proofs.YtengibnpebfblaaGreatDoor
open Go.RowKit
theorem aNB {α β γ δ ε:Type} {Q P:α->β->γ->δ->ε->Prop} {G:Prop} (main:(∀a b c d e,Q a b c d e->P a b c d e)->G) (rest:∀a b c d e,Q a b c d e->P a b c d e):G:=main rest
section
variable {B : Nat} {e T : TypeId} {s s' : Nat} {v u : Value} {cs ds : List (Array Value)} {w w' : World}
theorem lK {g:Nat} (hB:B<=g) (hw:B<=w.heap.size) (hg:w.heap[g]? =some (.cells #[] e (0,0))):dC B e s (.slice (some ⟨g,0,none⟩) 0 0) [] w:=
 ⟨⟨by simp,.inr ⟨g,0,#[],rfl,hB,hg,aE _,by decide,by simp,by simp⟩⟩,hw,fun c hc=>by cases hc⟩
theorem dC.apart3 (h:dC B e s v cs w) (h':dC B T s' u ds w) (hg:w.grownBy w' u.ownBlock) (hT:e≠T):dC B e s v cs w':=by
 refine h.grown hg ?_;cases hv:v.ownBlock with
 |none=>exact .inl rfl
 |some g=>exact .inr fun e'=>h.own.apart2 h'.own hT hv e'.symm
theorem dC.below' (h:dC B e s v cs w) (hg:w.grownBy w' v.ownBlock) {X:Nat} (hX:X<=B) (hw:X<=w.heap.size):Below X w w':=h.own.below hg hX hw
theorem jN {o:Oper} {a:Act} {K:Act->World->Prop} {Q:Exit->Act->World->Prop} (t e:TypeId) (p q:Operand)
  (ho:o.op=.call {callee:=.builtin .append,args:=#[p,q],argTypes:=#[t,t]})
  {B s by_ n:Nat} {z v vr:Value} {cs ds:List (Array Value)} (hs:a.eval p=v) (hb:dC B e s v cs w) (hx:a.eval q=vr) {S:Nat->Prop} (hc:bZ S w s vr (ds.flatMap Array.toList) n)
  (h5:n=ds.length/\∀c∈ds,c.size=s) (h1:∀u∈ds.flatMap Array.toList,u.oneCell'=true) (hu:Tryz.prog.underlying t=some (.slice e)) (hi:(Tryz.prog.info? e).map (fun i=>(i.zero,i.size,i.bytes))=some (some z,s,by_))
  (hzs:z.cells.size=s) (hsz:0<s) (hlen:cs.length+ds.length<=1000000) (hby:by_<=1000000)
  (h:∀v' w',dC B e s v' (cs++ds) w'->w.grownBy w' v.ownBlock->K (a.put o.dst v') w'):o.wp Tryz.prog a w K Q:=by
 obtain⟨i,hi0,hz,h2,h3⟩:=dV hi;obtain⟨rfl,h5⟩:=h5;have hbytes:(cs.length+ds.length)*by_<=140737488355328:=by
  exact Aj1
 obtain⟨v',w',r1,r2,r3⟩:=qF (P:=Tryz.prog) (w:=w) B t o.type e i z by_ hu hi0 hz h2 h3 hzs hsz hb.1 hc h1 uCw hbytes hb.2.1;unfold Oper.wp execOp;simp only[ho,resolve,invoke,builtin,fF,fR,cS,iA,cG,iL,hs,hx,r1];refine h v' w' ⟨?_,aG hb.2.1 r3.size,fun x hx=> ?_⟩ r3
 ·rw[aD,gF]
  exact r2
 ·rcases cP.1 hx with hx|hx
  ·exact hb.2.2 x hx
  ·exact h5 x hx
end
theorem aBx {ds:List (Array Value)} (h:∀c∈ds,c.all (·.oneCell')=true):∀u∈ds.flatMap Array.toList,u.oneCell'=true:=fun u hu=>by
 obtain⟨c,h1,h2⟩:=aJE.1 hu;exact(cO.1 (h c h1)) u uRz
theorem yP {l:List ByteArray}:l.length=(l.map fun y=>(#[.string y]:Array Value)).length/\∀c∈(l.map fun y=>(#[.string y]:Array Value)),c.size=1:=⟨by simp,fun c hc=>by obtain⟨y,_,rfl⟩:=cH.1 hc;rfl⟩
theorem aD3 {l:List ByteArray}:∀u∈(l.map fun y=>(#[.string y]:Array Value)).flatMap Array.toList,u.oneCell'=true:=aBx fun c hc=>by obtain⟨y,_,rfl⟩:=cH.1 hc;simp[Value.oneCell']
theorem aHF {y:ByteArray}:1=([#[.string y]]:List (Array Value)).length/\∀c∈([#[.string y]]:List (Array Value)),c.size=1:=⟨rfl,fun c hc=>by simp at hc;subst hc;rfl⟩
theorem aBw {c:Array Value} (h:c.size=5):1=([c]:List (Array Value)).length/\∀d∈([c]:List (Array Value)),d.size=5:=⟨rfl,fun d hd=>by rw[cB.1 hd];exact h⟩
theorem aFq {y:ByteArray}:∀u∈([#[.string y]]:List (Array Value)).flatMap Array.toList,u.oneCell'=true:=by simp[Value.oneCell']
theorem aG1 {W:World} {g s:Nat} {c:Array Value} {T:TypeId} (h:W.heap[g]? =some (.cells c T (0,0))) (hc:c.size=s):bZ (fun _=>True) W s (.slice (some ⟨g,0,none⟩) 1 1) (([c]:List (Array Value)).flatMap Array.toList) 1:=
 ⟨_,1,rfl,aE _,by simp[hc],.inr ⟨g,0,rfl,trivial,(gZ h),fun j u hu=>by
  rw[dL];refine aK h ?_;simpa using hu⟩⟩
theorem aC2 {W:World} {g:Nat} {c:Array Value} (h:W.heap[g]? =some (.cells c 28 (0,0))) (hc:c.size=5):bZ (fun _=>True) W 5 (.slice (some ⟨g,0,none⟩) 1 1) (([c]:List (Array Value)).flatMap Array.toList) 1:=aG1 h hc
theorem aG2 {W:World} {g:Nat} {y:ByteArray} (h:W.heap[g]? =some (.cells #[.string y] 9 (0,0))):bZ (fun _=>True) W 1 (.slice (some ⟨g,0,none⟩) 1 1) (([#[.string y]]:List (Array Value)).flatMap Array.toList) 1:=aG1 h rfl
theorem aIt {S:Nat->Prop} {W:World} {xs:List Tr} {l:List (Array Value)} (h:iS S W xs l) (n:Nat):iS S W (xs.take n) (l.take n):=
 yJ (by rw[aV,aV,oQ h]) fun j hj hl=>by
  simp only[rK];exact oH h _ _
theorem aIu {S:Nat->Prop} {W:World} {xs:List Tr} {l:List (Array Value)} (h:iS S W xs l) (n:Nat):iS S W (xs.drop n) (l.drop n):=
 yJ (by rw[bS,bS,oQ h]) fun j hj hl=>by
  simp only[nN];exact oH h _ _
theorem aKI {K:List ByteArray} {k:ByteArray}:∀(j:Nat) (hj:j<K.length),(j<mE K k->kb K[j]<kb k)/\(j=mE K k->¬kb K[j]<kb k):=by
 unfold mE;induction K with
 |nil=>intro j hj;simp at hj
 |cons y r ih=>
  intro j hj;rw[eX];by_cases h:kb y<kb k
  ·rw[lY h,if_pos rfl,aL]
   cases j with
   |zero=>exact⟨fun _=>h,fun e=>absurd e uAu⟩
   |succ j=>
    have:=ih j uDx;simp only[aB3];exact⟨fun e=>this.1 uAu,fun e=>this.2 uAu⟩
  ·rw[fA h,if_neg uBu,bG]
   exact⟨fun e=>absurd e uAu,fun e=>by subst e;exact h⟩
theorem tL {S:Nat->Prop} {w:World} {T:TypeId} {s n:Nat} {v:Value} {cs:List Value} (h:LsT S w T s v cs n):bZ (fun g=>S g/\g<w.heap.size) w s v cs n:=by
 obtain⟨h1,h2,a,c,h3,h4,h5⟩:=h;refine⟨a,c,h3,h4,h1,h5.imp_right ?_⟩;rintro⟨g,o,cur,fr,e,hg,hb,h⟩;exact⟨g,o,e,⟨hg,(gZ hb)⟩,(gZ hb),fun j u hu=>aK hb (h j u hu)⟩
theorem tQ (s:Nat):∀(cs:List (Array Value)) (k:Nat),(∀c∈cs,c.size=s)->(cs.flatMap Array.toList).take (k*s)=(cs.take k).flatMap Array.toList
 |[],k,_=>by simp
 |c::r,0,_=>by simp
 |c::r,k+1,h=>by
  have hc:c.toList.length=s:=by rw[bB];exact h c (aW ..)
  rw[fP,cN,cN,<-tQ s r k (fun x hx=>h x (aU _ hx)),show(k+1)*s=c.toList.length+k*s by rw[hc,Nat.succ_mul,aB2],List.take_length_add_append]
theorem qJ (s:Nat):∀(cs:List (Array Value)) (k:Nat),(∀c∈cs,c.size=s)->(cs.flatMap Array.toList).drop (k*s)=(cs.drop k).flatMap Array.toList
 |[],k,_=>by simp
 |c::r,0,_=>by simp
 |c::r,k+1,h=>by
  have hc:c.toList.length=s:=by rw[bB];exact h c (aW ..)
  rw[List.drop_succ_cons,cN,<-qJ s r k (fun x hx=>h x (aU _ hx)),show(k+1)*s=c.toList.length+k*s by rw[hc,Nat.succ_mul,aB2],List.drop_length_add_append]
theorem aKL (a b:ByteArray):(dM a.data.toList b.data.toList<0)↔kb a<kb b:=by
 have h1:=iD a.data.toList b.data.toList;rcases iU a.data.toList b.data.toList with h|h|h
 ·exact⟨fun _=>h1.1 h,fun _=>by omega⟩
 ·exact⟨fun h2=>by omega,fun h2=>by have:=h1.2 h2;omega⟩
 ·exact⟨fun h2=>by omega,fun h2=>by have:=h1.2 h2;omega⟩
theorem aKt {S:Nat->Prop} (w:World) (kv iv:Value) (K:List ByteArray) (ys:List Tr) (css:List (Array Value)) (k:ByteArray) (x:Tr) (xv:Value) (hk:LsT S w 9 1 kv (K.map Value.string) K.length) (hi:LsT S w 28 5 iv (css.flatMap Array.toList) ys.length) (hys:iS S w ys css) (hx:TrS S w x xv) (hl:K.length=ys.length) (hlen:K.length<=20000) (hsz:∀y∈K,y.size<=maxLen):
  Calls Tryz.prog 37 #[kv,iv,.string k,xv] w fun r w'=>∃kv' iv' xc,xv=.agg xc/\r=.returned (.tuple #[kv',iv'])/\LsT (fun g=>w.heap.size<=g) w' 9 1 kv' ((iQ (mE K k) K k).map Value.string) (iQ (mE K k) K k).length/\LsT (fun g=>w.heap.size<=g) w' 28 5 iv' ((iQ (mE K k) css xc).flatMap Array.toList) (iQ (mE K k) ys x).length/\iS S w' (iQ (mE K k) ys x) (iQ (mE K k) css xc)/\Below w.heap.size w w':=by
 obtain⟨xk,xn,xt,xa,xl,xq,xd,xm,xe,rfl⟩:=kG hx.trv;have hcl:=oQ hys;have hc5:=aCK hys;have hc1:∀c∈css,c.all (·.oneCell')=true:=fun c hc=>by
  obtain⟨i,hi',rfl⟩:=lB.1 hc;obtain⟨_,h2⟩:=oH hys uAu hi';obtain⟨kk,nn,tt,aa,ll,cc,dd,mm,ee,e⟩:=h2.trv.cells;rw[e];simp[Value.oneCell']
 have hck:=tL hk;have hci:=tL hi;obtain⟨p,hp⟩:∃p,p=mE K k:=⟨_,rfl⟩
 rw[<-hp];obtain⟨N,hN⟩:∃N,N=K.length:=⟨_,rfl⟩
 have hpN:p<=N:=by rw[hp,hN];exact(List.takeWhile_prefix _).length_le
 rw[<-hl,<-hN]at hi hci;rw[<-hN]at hk hck;obtain⟨w1,hw1⟩:∃w1,w.alloc (.cells (trC xk xn xt (.slice xa xl xq) (.slice xd xm xe)) 28)=w1:=⟨_,rfl⟩
 obtain⟨hb1,hx1,hs1⟩:=eA hw1;have HBS:Hid (w1.heap.size=w.heap.size+1):=hs1;have hlow:∀V,Below (w.heap.size+1) w1 V->Below w.heap.size w V:=fun V hb=>hb1.trans (hb.mono uAu)
 obtain⟨ka2,kc2,hk2,hk2r⟩:=aC3 25 (P:=Tryz.prog) hO (fun w=>by kernel_rfl) hck hpN;obtain⟨ia2,ic2,hi2,hi2r⟩:=aC3 26 (P:=Tryz.prog) hO (fun w=>by kernel_rfl) hci hpN;obtain⟨ka3,kc3,hk3,hk3r⟩:=uW 25 (P:=Tryz.prog) hO (fun w=>by kernel_rfl) hck hpN;obtain⟨ia3,ic3,hi3,hi3r⟩:=uW 26 (P:=Tryz.prog) hO (fun w=>by kernel_rfl) hci hpN;rw[tQ 5 css p hc5]at hi2;rw[qJ 5 css p hc5]at hi3;rw[<-pX,tQ 1 _ p yP.2,<-uA]at hk2;rw[<-pX,qJ 1 _ p yP.2,<-pK]at hk3;obtain⟨ka,kc,rfl,_⟩:=hck.shape;obtain⟨ia,ic,rfl,_⟩:=hci.shape;have hcell:∀j (_:j<K.length),∃g o,ka=some ⟨g,o,none⟩/\∀V,Below (w.heap.size+1) w1 V->V.cell? ⟨g,o+j,none⟩=some (.string K[j]):=fun j hj=>by
  obtain⟨g,o,c,e,_,_,_,h⟩:=hck.pos uAu;have h2:=h j (.string K[j]) uLv;refine⟨g,o,?_,fun V hb=>((hlow V hb).cell (aM w _ h2)).trans h2⟩;injection e with e1 e2 e3
 have HCEL:=iH hcell;have HCK:Hid (∀V,Below (w.heap.size+1) w1 V->bZ (fun _=>True) V 1 (.slice ka2 p kc2) (((K.take p).map fun y=>(#[.string y]:Array Value)).flatMap Array.toList) p):=fun V hb=>(hk2.later (hlow V hb)).weak fun _ _=>trivial
 have HCK2:Hid (∀V,Below (w.heap.size+1) w1 V->bZ (fun _=>True) V 1 (.slice ka3 (N-p) kc3) (((K.drop p).map fun y=>(#[.string y]:Array Value)).flatMap Array.toList) (N-p)):=fun V hb=>(hk3.later (hlow V hb)).weak fun _ _=>trivial
 have HCI:Hid (∀V,Below (w.heap.size+1) w1 V->bZ (fun _=>True) V 5 (.slice ia2 p ic2) ((css.take p).flatMap Array.toList) p):=fun V hb=>(hi2.later (hlow V hb)).weak fun _ _=>trivial
 have HCI2:Hid (∀V,Below (w.heap.size+1) w1 V->bZ (fun _=>True) V 5 (.slice ia3 (N-p) ic3) ((css.drop p).flatMap Array.toList) (N-p)):=fun V hb=>(hi3.later (hlow V hb)).weak fun _ _=>trivial
 have HP1:Hid (p=((K.take p).map fun y=>(#[.string y]:Array Value)).length/\∀c∈((K.take p).map fun y=>(#[.string y]:Array Value)),c.size=1):=⟨by rw[aH,aV];omega,yP.2⟩
 have HP2:Hid (N-p=((K.drop p).map fun y=>(#[.string y]:Array Value)).length/\∀c∈((K.drop p).map fun y=>(#[.string y]:Array Value)),c.size=1):=⟨by rw[aH,bS];omega,yP.2⟩
 have HC5:Hid (p=(css.take p).length/\∀c∈css.take p,c.size=5):=⟨by rw[aV];omega,fun c hc=>hc5 c (dI hc)⟩
 have HC5b:Hid (N-p=(css.drop p).length/\∀c∈css.drop p,c.size=5):=⟨by rw[bS];omega,fun c hc=>hc5 c (gY hc)⟩
 have HC1:Hid (∀c∈css.take p,c.all (·.oneCell')=true):=fun c hc=>hc1 c (dI hc)
 have HC1b:Hid (∀c∈css.drop p,c.all (·.oneCell')=true):=fun c hc=>hc1 c (gY hc)
 have HPN:Hid (p<=N/\N=K.length/\K.length=css.length/\K.length<=20000):=⟨hpN,hN,by omega,hlen⟩
 have HPP:=iH hp;have HKSZ:=iH hsz;have HK2:=iH hk2r;have HI2:=iH hi2r;have HK3:=iH hk3r;have HI3:=iH hi3r;have HKS:Hid (∀V,Below (w.heap.size+1) w1 V->V.heap[w.heap.size]? =some (.cells (trC xk xn xt (.slice xa xl xq) (.slice xd xm xe)) 28 (0,0))):=fun V hb=>(hb.block _ uAu).trans hx1
 have HOUT:Hid (∀(v8 v9:Value) (W:World),dC (w.heap.size+1) 9 1 v8 ((([]++(K.take p).map fun y=>(#[.string y]:Array Value))++[#[.string k]])++(K.drop p).map fun y=>(#[.string y]:Array Value)) W->dC (w.heap.size+1) 28 5 v9 ((([]++css.take p)++[(trC xk xn xt (.slice xa xl xq) (.slice xd xm xe))])++css.drop p) W->Below (w.heap.size+1) w1 W->
   LsT (fun g=>w.heap.size<=g) W 9 1 v8 ((iQ p K k).map Value.string) (iQ p K k).length/\LsT (fun g=>w.heap.size<=g) W 28 5 v9 ((iQ p css (trC xk xn xt (.slice xa xl xq) (.slice xd xm xe))).flatMap Array.toList) (iQ p ys x).length/\iS S W (iQ p ys x) (iQ p css (trC xk xn xt (.slice xa xl xq) (.slice xd xm xe)))/\Below w.heap.size w W):=fun v8 v9 W h8 h9 hb=>by
  have hKp:(([]++(K.take p).map fun y=>(#[.string y]:Array Value))++[#[.string k]])++(K.drop p).map (fun y=>(#[.string y]:Array Value))=(iQ p K k).map fun y=>(#[.string y]:Array Value):=by simp[iQ]
  have hCp:(([]++css.take p)++[(trC xk xn xt (.slice xa xl xq) (.slice xd xm xe))])++css.drop p=iQ p css (trC xk xn xt (.slice xa xl xq) (.slice xd xm xe)):=by simp[iQ]
  rw[hKp]at h8;rw[hCp]at h9;have l8:=h8.own.lsT;rw[pX,aH]at l8;have l9:=h9.own.lsT;rw[show(iQ p css (trC xk xn xt (.slice xa xl xq) (.slice xd xm xe))).length=(iQ p ys x).length by rw[aFh,aFh,hcl]]at l9;have hbw:=hlow W hb;have hold:=fun(xs:List Tr) (l:List (Array Value)) (h:iS S w xs l)=>h.old.imp (KT.low hbw fun g h=>h.2) (S':=S) fun g hg _=>hg.1
  refine⟨l8.imp (.inl rfl) KT.refl fun g hg _=> ?_,l9.imp (.inr rfl) KT.refl fun g hg _=> ?_,?_,hbw⟩
  ·have:=(h8.own.lt hg).1;omega
  ·have:=(h9.own.lt hg).1;omega
  ·unfold iQ
   have hx2:iS S W [x] [(trC xk xn xt (.slice xa xl xq) (.slice xd xm xe))]:=hold _ _ (aBa rfl hx);have h3:=uI (hold _ _ (aIt hys p)) (uI hx2 (hold _ _ (aIu hys p)));simpa using h3
 have HW:Hid (Below (w.heap.size+1) w1 w1):=aY _ _;clear hk2 hk3 hi2 hi3 hk2r hi2r hk3r hi3r hck hci hk hi hcell hc1 hc5 hcl hys hx hl hlen hsz hp hpN hN hlow hb1 hx1 hs1;go_enter Tryz.func37,Tryz.ntmps37;go_upto_region 1 with fail
 clear hw1;go_wp2_with fail
 go_loopw [10] (fun at_ wl=>∃j:Nat,j<=p/\at_=.int .i64 (j:Int)/\Hid (Below (w.heap.size+1) w1 wl)) (fun at_ _=>p+1-(intOf at_).toNat)
 case atStart=>exact⟨0,aQ _,rfl,HW.out⟩
 case round=>
  clear HW;obtain⟨j,hj,rfl,HW⟩:=hrel;by_cases hjN:j<N
  ·have hlt':(j:Int)<(N:Int):=by omega
   have i0:(0:Int)<=(j:Int):=by omega
   have hN2:(N:Int)<=20000:=by have:=HPN.out;omega
   have hjK:j<K.length:=by rw[<-HPN.out.2.1];exact hjN
   obtain⟨g,o,rfl,hce⟩:=HCEL.out j hjK;have hcc:=hce wr HW.out;have hpa:=aKI (k:=k) j hjK;rw[<-HPP.out]at hpa;obtain⟨y,hy⟩:∃y,y=K[j]:=⟨_,rfl⟩
   have hys:y.size<=maxLen:=by rw[hy];exact HKSZ.out _ (aO hjK)
   rw[<-hy]at hcc hpa;obtain⟨od,hod⟩:∃od,od=dM y.data.toList k.data.toList:=⟨_,rfl⟩
   have hol:=aKL y k;rw[<-hod]at hol;have HOR:Hid (∀W,Calls Tryz.prog 39 #[.string y,.string k] W fun e w'=>e=.returned (.int .i64 od)/\Below W.heap.size W w'):=fun W=>by
    rw[hod];exact(aCX y k W hys).mono fun _ _ h=>⟨h.1,h.2.below⟩
   have HPA:=iH hpa;clear hce hpa hy hod hys;by_cases hlt:kb y<kb k
   ·have ho0:od<0:=hol.2 hlt
    have hjp:j<p:=by
     rcases cZ j p with h|h
     ·exact h
     ·exact absurd hlt (HPA.out.2 uAu)
    have HJP:=iH hjp;clear hol hlt;go_wp2_with (first
     |(go_at_call 39;(with_reducible refine(HOR.out _).mono ?_);rintro r V ⟨rfl,hb⟩;replace HW:=iH (HW.out.trans (hb.mono uBv));clear hb))
    go_roundw
    case rel=>exact⟨j+1,HJP.out,by go_num,HW.out⟩
    case measure=>have:=HJP.out;simp[intOf];omega
   ·have ho0:¬od<0:=fun h=>hlt (hol.1 h)
    obtain rfl:p=j:=by
     rcases cZ j p with h|h
     ·exact absurd (HPA.out.1 h) hlt
     ·omega
    clear hol hlt HPA;go_upto_region 4 with(first
     |(go_at_call 39;(with_reducible refine(HOR.out _).mono ?_);rintro r wr2 ⟨rfl,hb⟩;replace HW:=iH (HW.out.trans (hb.mono uBv));clear hb))
    clear HOR hcc;have HER0:Hid (dC (w.heap.size+1) 9 1 (.slice (some ⟨wr2.heap.size,0,none⟩) 0 0) [] (wr2.alloc (.cells #[] 9))):=lK uBv uHv (aF _ _);have hb0:=HW.out.trans ((Below.newly' wr2 (.cells #[] 9)).mono uBv);exact Aa0
  ·have hlt':¬(j:Int)<(N:Int):=by omega
   obtain rfl:p=j:=by have:=HPN.out.1;omega
   go_upto_region 4 with fail
   have HER0:Hid (dC (w.heap.size+1) 9 1 (.slice (some ⟨wr.heap.size,0,none⟩) 0 0) [] (wr.alloc (.cells #[] 9))):=lK uBv uHv (aF _ _);have hb0:=HW.out.trans ((Below.newly' wr (.cells #[] 9)).mono uBv);exact Aa0
end Go.Proofs.YtengibnpebfblaaGreatDoor
