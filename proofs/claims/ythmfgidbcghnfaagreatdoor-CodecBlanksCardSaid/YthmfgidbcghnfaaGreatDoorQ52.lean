import Derived.Test.YthmfgidbcghnfaaGreatDoorQ0
import Derived.Test.YthmfgidbcghnfaaGreatDoorQ37
import Derived.Test.YthmfgidbcghnfaaGreatDoorQ49
set_option maxRecDepth 1000000
set_option maxHeartbeats 8000000
set_option linter.unusedSimpArgs false
namespace Go.Proofs.YthmfgidbcghnfaaGreatDoor
open Go.RowKit
theorem aK7 (x:aA4):(tiC x).all (·.oneCell')=true:=by simp[tiC,Value.oneCell']
theorem aJo (x:aA4) (w:World) (hE:Esc w) (hP:Tab w) (hx:x.t.size<=2000000/\InR x.n):Calls Tryz.prog 60 #[.agg (tiC x)] w fun e w'=>∃S:ByteArray,e=.returned (.string S)/\S.data.toList=yF x/\Below w.heap.size w w':=by
 obtain⟨xk,xa,xe,xn,xt⟩:=x;obtain⟨ai,fl⟩:=hx;dsimp only at ai fl;obtain⟨w1,ag⟩:∃w1,w1=w.alloc (.cells (tiC ⟨xk,xa,xe,xn,xt⟩) 90):=⟨_,rfl⟩
 have af:Below w.heap.size w w1:=by rw[ag];exact Below.newly' _ _
 have h1:w1.heap[w.heap.size]? =some (.cells (tiC ⟨xk,xa,xe,xn,xt⟩) 90 (0,0)):=by rw[ag];exact aC _ _
 have d0:=aG h1 (j:=0) (v:=.int .i64 xk) rfl;have d3:=aG h1 (j:=3) (v:=.int .i64 xn) rfl;have d4:=aG h1 (j:=4) (v:=.string xt) rfl;have Kg:=iH (aCt xn w1 fl (hP.below af));have Nv:=iH (aFF xt w1 ai (hE.below af));have HB:=iH af;clear hE hP ai fl af h1;by_cases c1:xk=1
 case pos=>
  have ri:Hid (yF ⟨xk,xa,xe,xn,xt⟩=xt.data.toList):=if_pos (.inl c1);have gd:(xk==1)=true:=eK.2 c1;clear c1;exact Ad3
 by_cases c2:xk=2
 case pos=>
  have ri:Hid (yF ⟨xk,xa,xe,xn,xt⟩=xt.data.toList):=if_pos (.inr c2);have gd:(xk==1)=false:=aE.2 c1;have jx:(xk==2)=true:=eK.2 c2;clear c1 c2;exact Ad3
 by_cases c3:xk=3
 case pos=>
  have ri:Hid (yF ⟨xk,xa,xe,xn,xt⟩=Lib.itoa xn):=(if_neg (fun h=>h.elim c1 c2)).trans (if_pos c3);have gd:(xk==1)=false:=aE.2 c1;have jx:(xk==2)=false:=aE.2 c2;have nh:(xk==3)=true:=eK.2 c3;clear c1 c2 c3;go_enter Tryz.func60,Tryz.ntmps60;go_upto_region 1 with fail
  rw[<-ag];clear ag;go_wp2_with (go_at_call 73;refine Kg.out.mono ?_;rintro r V ⟨rfl,hb⟩;replace HB:=iH (tW HB.out hb);clear hb)
  go_ret;exact⟨_,rfl,by rw[ri.out],HB.out⟩
 by_cases c4:xk=4
 case pos=>
  have ri:Hid (yF ⟨xk,xa,xe,xn,xt⟩=gI xt.data.toList):=(if_neg (fun h=>h.elim c1 c2)).trans ((if_neg c3).trans (if_pos c4));have gd:(xk==1)=false:=aE.2 c1;have jx:(xk==2)=false:=aE.2 c2;have nh:(xk==3)=false:=aE.2 c3;have wy:(xk==4)=true:=eK.2 c4;clear c1 c2 c3 c4;go_enter Tryz.func60,Tryz.ntmps60;go_upto_region 1 with fail
  rw[<-ag];clear ag;go_wp2_with (go_at_call 74;refine Nv.out.mono ?_;rintro r V ⟨rfl,hb⟩;replace HB:=iH (tW HB.out hb);clear hb)
  go_ret;exact⟨_,rfl,by rw[ri.out],HB.out⟩
 have ri:Hid (yF ⟨xk,xa,xe,xn,xt⟩=[]):=(if_neg (fun h=>h.elim c1 c2)).trans ((if_neg c3).trans (if_neg c4));have gd:(xk==1)=false:=aE.2 c1;have jx:(xk==2)=false:=aE.2 c2;have nh:(xk==3)=false:=aE.2 c3;have wy:(xk==4)=false:=aE.2 c4;clear c1 c2 c3 c4;exact Ad3
theorem aOO (w:World) (v:Value) (l:List aA4) (hT:T13 w) (hP:Tab w) (hv:TiL w v l) (hl:(mW l).length<=200000) (ht:∀x∈l,x.t.size<=5000/\InR x.n):Calls Tryz.prog 34 #[v] w fun e w'=>∃S:ByteArray,e=.returned (.string S)/\S.data.toList=mW l/\Below w.heap.size w w':=by
 obtain⟨oa,c,b,oo,rfl,j5,ha,hr⟩:=hv;obtain⟨N,hN⟩:∃N,N=l.length:=⟨_,rfl⟩
 rw[<-hN]at j5 ha ⊢;have HN:=iH hN;have HA:=iH ha;have D3:=iH hr;have Uj:=iH ht;have HL:=iH hl;have HT:=iH hT;have HP:=iH hP;have Em:(N:Int)<=9223372036854775807:=by have:=j5;unfold maxLen at this;omega
 clear hN ha hr ht hl hT hP j5;go_enter Tryz.func34,Tryz.ntmps34;go_wp2_with fail
 go_loopw [8] (fun i W=>∃j:Nat,j<=N/\i=.int .i64 (j:Int)/\Tx w W (mW (l.take j))) (fun i _=>N-(intOf i).toNat)
 case atStart=>exact⟨0,aS _,rfl,by rw[eF];exact Tx.start w⟩
 case round=>
  obtain⟨j,hj,rfl,ju⟩:=hrel;by_cases hlt:j<N
  case neg=>
   obtain rfl:j=N:=by omega
   rw[HN.out,bC (aA _)]at ju;have Hc:=iH ju;have ng:=iH (aDi w.heap.size w.heap.size _ _ ju.bld ju.le);clear ju;go_wp2_with (go_at_call 43;refine ng.out.mono ?_;rintro r V ⟨rfl,hb⟩;have HB:=iH hb;clear hb)
   go_ret;exact⟨_,rfl,rfl,Hc.out.below.trans HB.out⟩
  have l0:(j:Int)<N:=by omega
  have tp:j<l.length:=by rw[<-HN.out];exact hlt
  obtain rfl:=HA.out hO;have AE:=nJ (D3.out j tp) ju.below;have AF:=Uj.out _ (aX tp);have df:=yJ l tp;have N3:=aJq l tp;obtain⟨x,hx⟩:∃x,x=l[j]:=⟨_,rfl⟩
  rw[<-hx]at AE AF df N3;have FI:=iH AE;have ng:=iH df;have FJ:=iH (fun W (hb:Below w.heap.size w W)=>aJo x W (HT.out.below hb).1 (HP.out.below hb) ⟨by omega,AF.2⟩);have Gw:=iH ju;have Vu:Hid ((mW (l.take j)).length+1+(yF x).length<=200001):=by have:=HL.out;show _<=_;omega
  obtain⟨t0,mi⟩:∃t,t=mW (l.take j):=⟨_,rfl⟩
  rw[<-mi]at Gw Vu ng;have HZ:Hid (j=0->t0=[]):=fun e=>by rw[mi,e];rfl
  have Rr:w.heap.size<wr.heap.size:=Gw.out.bld.lt;clear AE AF df N3 hx ju tp mi;have ew:=iH hlt;by_cases Gc:0<j
  case pos=>
   have Bc:(0:Int)<j:=by omega
   go_wp2_with (first
    |(refine aSF uAz _ rfl b (oo+j*5) rfl (tiC x) FI.out rfl ?_)
    |(refine aV rfl 90 _ _ rfl wr.heap.size (tiC x) rfl rfl 90 (bN ⟨0,0,0,0,[]⟩) (aC _ _) bR rfl (aK7 x) ?_;intro w8 h8 k8;have cj:=iH (Gw.out.more ((Below.newly' wr _).trans (k8.below (aA _))));have H8:=iH h8;clear h8 k8)
    |(go_at_call 58;refine(aSi w.heap.size w.heap.size t0 32 w8 cj.out.bld (by have:=Vu.out;omega) cj.out.le).mono ?_;rintro r V ⟨rfl,bf,hk⟩;have Tg:=iH (cj.out.wrote hk bf);have H9:=iH (pU hk H8.out (fA Rr) uAv);clear bf hk)
    |(refine aW rfl 90 _ rfl wr.heap.size rfl 90 _ _ _ H9.out Tryz.underlying90 rfl bR ?_)
    |(go_at_call 60;refine(FJ.out _ Tg.out.below).mono ?_;rintro r V2 ⟨S,rfl,hS,hb⟩;have Ga:=iH (Tg.out.more hb);have HS:=iH hS;have nm:=iH (show S.size=(yF x).length from(cY S).symm.trans (aU List.length hS));clear hb hS)
    |(go_at_call 59;refine(aAF w.heap.size w.heap.size (t0++[32]) S V2 Ga.out.bld uLy Ga.out.le).mono ?_;rintro r V3 ⟨rfl,bf,hk⟩;have ue:=iH (Ga.out.wrote hk bf);clear bf hk))
   go_roundw
   case rel=>
    refine⟨j+1,by have:=ew.out;omega,by go_num,?_⟩;have h:=ue.out;rw[HS.out]at h;rw[ng.out];rw[if_neg hO];exact h
   case measure=>have:=ew.out;simp[intOf];omega
  have Bc:¬(0:Int)<j:=by omega
  have Nu:Hid (t0=[]):=HZ.out hO;go_wp2_with (first
   |(refine aSF uAz _ rfl b (oo+j*5) rfl (tiC x) FI.out rfl ?_)
   |(refine aV rfl 90 _ _ rfl wr.heap.size (tiC x) rfl rfl 90 (bN ⟨0,0,0,0,[]⟩) (aC _ _) bR rfl (aK7 x) ?_;intro w8 h8 k8;have cj:=iH (Gw.out.more ((Below.newly' wr _).trans (k8.below (aA _))));have H8:=iH h8;clear h8 k8)
   |(refine aW rfl 90 _ rfl wr.heap.size rfl 90 _ _ _ H8.out Tryz.underlying90 rfl bR ?_)
   |(go_at_call 60;refine(FJ.out _ cj.out.below).mono ?_;rintro r V2 ⟨S,rfl,hS,hb⟩;have Ga:=iH (cj.out.more hb);have HS:=iH hS;have nm:=iH (show S.size=(yF x).length from(cY S).symm.trans (aU List.length hS));clear hb hS)
   |(go_at_call 59;refine(aAF w.heap.size w.heap.size t0 S V2 Ga.out.bld uLy Ga.out.le).mono ?_;rintro r V3 ⟨rfl,bf,hk⟩;have ue:=iH (Ga.out.wrote hk bf);clear bf hk))
  go_roundw
  case rel=>
   refine⟨j+1,by have:=ew.out;omega,by go_num,?_⟩;have h:=ue.out;rw[HS.out]at h;rw[ng.out];rw[if_pos hO];rw[Nu.out]at h;exact h
  case measure=>have:=ew.out;simp[intOf];omega
theorem rH.yes {W:World} {E:Value} {c n:Int} (h:rH W E c n) (hc:c≠0):∃u x,E=.iface u x:=by
 rcases h with h|⟨_,l,h,_⟩
 ·exact absurd h.1 hc
 ·obtain⟨u,x,rfl⟩:=h.iface;exact⟨u,x,rfl⟩
theorem aTl (s:ByteArray) (w:World) (hT:T13 w) (hs:s.size<=50000):Calls Tryz.prog 33 #[.string s] w fun e w'=>∃v E,e=.returned (.tuple #[v,E])/\TkL 90 w' v (uJ s.data.toList).1/\rH w' E (uJ s.data.toList).2.2 ((uJ s.data.toList).2.1:Nat)/\Below w.heap.size w w':=by
 have j5:s.data.toList.length=s.size:=cY s;obtain⟨L,hL⟩:∃L,L=s.data.toList:=⟨_,rfl⟩
 rw[<-hL]at j5 ⊢;have hn:=fun p W (hb:Below w.heap.size w W) hp=>aRB s p W (hT.below hb) hp hO
 rw[<-hL]at hn;obtain⟨G,hG⟩:∃G,G=uJ L:=⟨_,rfl⟩
 have Gi:=hG.trans (aSp L);rw[<-hG];clear hG hL hT;obtain⟨g1,g2,g3⟩:=G;dsimp only;have HN:=iH hn;have rl:=iH j5;have Zg:=iH Gi;have Gp:(s.size:Int)<=50000:=by omega
 clear hn j5 Gi;go_enter Tryz.func33,Tryz.ntmps33;go_wp2_with fail
 go_loopw [4,5] (fun v i W=>∃(ts:List Tok) (p:Nat),p<=L.length/\i=.int .i64 (p:Int)/\bW w.heap.size 90 5 v (ts.map bN) W/\(g1,g2,g3)=aHh ts (mR L (L.length+1) p)/\ts.length<=p/\Below w.heap.size w W) (fun _ i _=>L.length-(intOf i).toNat)
 case atStart=>exact⟨[],0,aS _,rfl,aJa (aA _),Zg.out,aA _,bB _ _⟩
 case round=>
  obtain⟨ts,p,hp,rfl,FK,hg,u6,hw⟩:=hrel;have HR:=iH FK;have HW:=iH hw;have df:=aM2 L ts p hp;have hk:=sA L p hp;have pf:=fun W hb=>HN.out p W hb (by have:=rl.out;omega)
  obtain⟨q,hq⟩:∃q,q=cB L p:=⟨_,rfl⟩
  rw[<-hq]at df hk pf;obtain⟨⟨tk,ta,te,tn,tt⟩,qn,qe⟩:=q;dsimp only at df hk;have Cb:∀W,Below w.heap.size w W->Calls Tryz.prog 49 #[.string s,.int .i64 (p:Int)] W fun e w'=>∃E,e=.returned (.tuple #[.agg (bN ⟨tk,ta,te,tn,tt⟩),E])/\rH w' E qe (qn:Nat)/\Below W.heap.size W w':=pf
  have ng:=iH (hg.trans df);have HK:=iH hk;have HP:=iH (And.intro hp u6);clear FK hw df hk pf hq hg u6 hp HN;by_cases c1:qe=0
  case neg=>
   have fk:Hid (∀W,Below w.heap.size w W->Calls Tryz.prog 49 #[.string s,.int .i64 (p:Int)] W fun e w'=>∃u x,e=.returned (.tuple #[.agg (bN ⟨tk,ta,te,tn,tt⟩),.iface u x])/\rH w' (.iface u x) qe (qn:Nat)/\Below W.heap.size W w'):=fun W hb=>
    (Cb W hb).mono fun _ _ ⟨E,h1,h2,h3⟩=>by obtain⟨u,x,rfl⟩:=h2.yes c1;exact⟨u,x,h1,h2,h3⟩
   have HE:Hid ((g1,g2,g3)=([],qn,qe)):=ng.out.trans (if_pos c1);clear c1 ng HK Cb;go_wp2_with (first
    |(go_at_call 49;refine(fk.out _ HW.out).mono ?_;rintro r V ⟨u,x,rfl,he,hb⟩;have HR1:=iH (HR.out.later hb);have Cm:=iH (tW HW.out hb);have sz:=iH he;clear hb he)
    |(refine aV rfl 90 _ _ rfl V.heap.size (bN ⟨tk,ta,te,tn,tt⟩) rfl rfl 90 (bN ⟨0,0,0,0,[]⟩) (aC _ _) bR rfl uBw ?_;intro w8 h8 k8;have xm:Below V.heap.size V w8:=(Below.newly' _ _).trans (k8.below (aA _));have gl:=iH (HR1.out.later xm);have fy:=iH (tW Cm.out xm);replace sz:=iH (sz.out.later xm);have H8:=iH h8;have c0:=aG h8 (j:=0) (v:=.int .i64 tk) rfl;have c2:=aG h8 (j:=2) (v:=.int .i64 (te:Int)) rfl;clear xm k8 h8))
   go_ret2;have he:=HE.out;simp only[cZ]at he;obtain⟨rfl,rfl,rfl⟩:=he;exact⟨_,_,rfl,.nil _ _,sz.out,fy.out⟩
  subst c1;have fk:Hid (∀W,Below w.heap.size w W->Calls Tryz.prog 49 #[.string s,.int .i64 (p:Int)] W fun e w'=>e=.returned (.tuple #[.agg (bN ⟨tk,ta,te,tn,tt⟩),.nilIface])/\Below W.heap.size W w'):=fun W hb=>
   (Cb W hb).mono fun _ _ ⟨E,h1,h2,h3⟩=>by obtain rfl:=h2.no;exact⟨h1,h3⟩
  clear Cb;obtain⟨k1,k2,k3,-,k5,k6⟩:=HK.out rfl;by_cases c2:tk=0
  case pos=>
   have lq:(tk==0)=true:=eK.2 c2;have HE:Hid ((g1,g2,g3)=(ts,0,0)):=ng.out.trans ((if_neg (fun h=>h rfl)).trans (if_pos c2));clear ng HK k1 k2 k3 k5 k6 c2;go_wp2_with (first
    |(go_at_call 49;refine(fk.out _ HW.out).mono ?_;rintro r V ⟨rfl,hb⟩;have HR1:=iH (HR.out.later hb);have Cm:=iH (tW HW.out hb);clear hb)
    |(refine aV rfl 90 _ _ rfl V.heap.size (bN ⟨tk,ta,te,tn,tt⟩) rfl rfl 90 (bN ⟨0,0,0,0,[]⟩) (aC _ _) bR rfl uBw ?_;intro w8 h8 k8;have xm:Below V.heap.size V w8:=(Below.newly' _ _).trans (k8.below (aA _));have gl:=iH (HR1.out.later xm);have fy:=iH (tW Cm.out xm);have H8:=iH h8;have c0:=aG h8 (j:=0) (v:=.int .i64 tk) rfl;have c2:=aG h8 (j:=2) (v:=.int .i64 (te:Int)) rfl;clear xm k8 h8))
   go_ret2;have he:=HE.out;simp only[cZ]at he;obtain⟨rfl,rfl,rfl⟩:=he;exact⟨_,_,rfl,gl.out.tkl,aRV _ _,fy.out⟩
  have lq:(tk==0)=false:=aE.2 c2;have HE:Hid ((g1,g2,g3)=aHh (ts++[⟨tk,ta,te,tn,tt⟩]) (mR L (L.length+1) te)):=ng.out.trans ((if_neg (fun h=>h rfl)).trans (if_neg c2));have bz:Hid ((ts.map bN).length<=100000):=by
   show _<=_;rw[aM];have h1:=HP.out;have h2:=rl.out;omega
  have rn:Hid (p<te/\te<=L.length):=⟨by have:=k6 c2;omega,k3⟩
  clear ng HK k1 k2 k3 k5 k6 c2;go_wp2_with (first
   |(go_at_call 49;refine(fk.out _ HW.out).mono ?_;rintro r V ⟨rfl,hb⟩;have HR1:=iH (HR.out.later hb);have Cm:=iH (tW HW.out hb);clear hb)
   |(refine aV rfl 90 _ _ rfl V.heap.size (bN ⟨tk,ta,te,tn,tt⟩) rfl rfl 90 (bN ⟨0,0,0,0,[]⟩) (aC _ _) bR rfl uBw ?_;intro w8 h8 k8;have xm:Below V.heap.size V w8:=(Below.newly' _ _).trans (k8.below (aA _));have gl:=iH (HR1.out.later xm);have fy:=iH (tW Cm.out xm);have H8:=iH h8;have c0:=aG h8 (j:=0) (v:=.int .i64 tk) rfl;have c2:=aG h8 (j:=2) (v:=.int .i64 (te:Int)) rfl;clear xm k8 h8)
   |(refine aW rfl 90 _ rfl V.heap.size rfl 90 _ _ _ H8.out Tryz.underlying90 rfl bR ?_)
   |(refine aGh rfl 66 90 _ rfl (bN ⟨tk,ta,te,tn,tt⟩) 5 (.agg (bN ⟨0,0,0,0,[]⟩)) rfl rfl uAv uAv Tryz.underlying66 rfl ?_;intro w6 h6 nt MF;have vk:=iH (gl.out.later nt);have FL:=iH (tW fy.out nt);have jl:=iH h6;have FM:=iH (kW nt H8.out);clear h6 nt MF)
   |(refine sI rfl (z:=.agg (bN ⟨0,0,0,0,[]⟩)) (by_:=48) 66 90 _ _ rfl rfl vk.out _ rfl jl.out rfl (aNK _) Tryz.underlying66 rfl rfl uAv bz.out uAv ?_;intro v7 w7 Gq AG;have I8:=iH (FL.out.trans (vk.out.below AG (aA _) FL.out.size));have Gs:=iH Gq;have NQ:=aG ((AG.block V.heap.size (gZ FM.out) (fun e=>Nat.lt_irrefl _ (aLU HR1.out _ e.symm))).trans FM.out) (j:=2) (v:=.int .i64 (te:Int)) rfl;clear Gq AG))
  go_roundw
  case rel=>
   refine⟨ts++[⟨tk,ta,te,tn,tt⟩],te,rn.out.2,rfl,?_,HE.out,by rw[aB];have h1:=HP.out;have h2:=rn.out;simp only[aD,aK];omega,I8.out⟩;rw[bZ];exact Gs.out
  case measure=>have h1:=rn.out;simp[intOf];omega
def prT (l:List UInt8):Tr:=match jO l with
 | .ok t=>t
 | .error _=>jH
def prE (l:List UInt8):Nat×Int:=match jO l with
 | .ok _=>(0,0)
 | .error q=>q
theorem aOe (l:List UInt8):fQ (prT l):=by
 unfold prT;cases h:jO l with
 |error q=>exact aLu
 |ok t=>exact sJ h
theorem aEZ (s:Nat) (bb:Int) (x:ByteArray) (w:World) (hT:T14 w) (hx:x.size<=2000000) (hs:s<18446744073709551616):
  Calls Tryz.prog 20 #[.agg #[.int .u64 (s:Int),.int .i64 bb],.string x] w fun e w'=>∃y E,e=.returned (.tuple #[.agg (aL y),E])/\VAt (fun g=>w.heap.size<=g) w' (prT x.data.toList) y/\fR w.heap.size w' E (prE x.data.toList).2 ((prE x.data.toList).1:Nat)/\Below w.heap.size w w':=by
 have h:=tB s bb x w hT.1 hT.2.2 hx hs;unfold prT prE;cases hp:jO x.data.toList with
 |error q=>
  rw[hp]at h;refine h.mono ?_;rintro e w' ⟨E,rfl,he,hb⟩;exact⟨gO,E,rfl,lT _ _,he,hb⟩
 |ok t=>
  rw[hp]at h;refine h.mono ?_;rintro e w' ⟨y,rfl,hy,hb⟩;exact⟨y,_,rfl,hy,zR _ _ _,hb⟩
theorem aMl (E:Value) (c n:Int) (w:World) (h:rH w E c n) (hT:ET w):Calls Tryz.prog 35 #[E] w fun e w'=>e=.returned (.int .i64 c)/\Below w.heap.size w w':=by
 rcases h with⟨rfl,rfl⟩|⟨h0,l,h1,h2⟩
 ·refine(aCU w).mono ?_
  rintro e w' ⟨rfl,rfl⟩;exact⟨rfl,bB _ _⟩
 ·exact aCV E (some c) _ w hT h1 (aA _)
theorem aR8 {l l':List UInt8} {T:List TkR} (h:sC l T 0) (h':sC l' T 0) (hl:l.length<=1048576) (qw:l'.length<=1048576):prT l'=prT l/\(prE l').2=(prE l).2:=by
 rcases aOk h h' hl qw with⟨t,h1,h2⟩|⟨q,q',c,h1,h2,_⟩
 ·unfold prT prE;rw[h1,h2];exact⟨rfl,rfl⟩
 ·unfold prT prE;rw[h1,h2];exact⟨rfl,rfl⟩
theorem codecBlanks_walk (s:Nat) (bb:Int) (x:ByteArray) (hs:s<18446744073709551616) (_:x.size<=maxLen) (w:World) (hT:T14 w):
  Calls Tryz.prog 9 #[.agg #[.int .u64 (s:Int),.int .i64 bb],.string x] w fun e w'=>e=.returned (.bool true)/\Below w.heap.size w w':=by
 have mb:=iH (fun W (hb:Below w.heap.size w W)=>xF W (hT.below hb));obtain⟨w1,ag⟩:∃w1,w.alloc (.cells #[.int .u64 (s:Int),.int .i64 bb] 24)=w1:=⟨_,rfl⟩
 obtain⟨af,dr,al⟩:=fH ag;have HW:Hid (Below w.heap.size w w1):=af;have bd:=iH dr;by_cases hx:4000<x.size
 ·have Sr:(4000:Int)<(x.size:Int):=by omega
  clear af dr al hx hT;go_enter Tryz.func9,Tryz.ntmps9;exact Ad8
 have Sr:¬(4000:Int)<(x.size:Int):=by omega
 have hl:x.data.toList.length=x.size:=cY x;have Vv:=fun W (hb:Below w.heap.size w W)=>aTl x W (hT.below hb).1 hO
 by_cases p0:(uJ x.data.toList).2.2=0
 ·obtain⟨ts,u6,FN⟩:=aQj x.data.toList p0
  have Iy:=aIC p0;have hj:=aQg x.data.toList;have ga:=aG1 (uJ x.data.toList).1;obtain⟨L2,FO⟩:∃L2,L2=oU ((uJ x.data.toList).1.map Tok.r):=⟨_,rfl⟩
  rw[<-FO]at u6 ga;rw[ga,hl]at hj;have Cd:=aIC (l:=L2) (by rw[u6]);rw[u6]at Cd;simp only at Cd;rw[FN]at Cd;obtain⟨e1,e2⟩:=aR8 Iy Cd hO hO;obtain⟨S0,zl⟩:∃S0:ByteArray,S0=⟨L2.toArray⟩:=⟨_,rfl⟩
  have p8:S0.data.toList=L2:=by rw[zl]
  have Bg:S0.size<=16000:=by have h:=cY S0;rw[p8]at h;omega
  obtain⟨tt,G9⟩:∃tt,tt=prT x.data.toList:=⟨_,rfl⟩
  obtain⟨cc,Ig⟩:∃cc,cc=(prE x.data.toList).2:=⟨_,rfl⟩
  have zg:fQ tt:=by rw[G9];exact aOe _
  have fj:=aCF x.data.toList (x.data.toList.length+1) 0;have mh:Hid (∀W,Below w.heap.size w W->Calls Tryz.prog 33 #[.string x] W fun e w'=>∃v,e=.returned (.tuple #[v,.nilIface])/\TiL w' v ((uJ x.data.toList).1.map Tok.i)/\Below W.heap.size W w'):=fun W hW=>(Vv W hW).mono fun e w' ⟨v,E,h1,h2,h3,h4⟩=>⟨v,by
   rcases h3 with h3|h3
   ·rw[h1,h3.2]
   ·exact absurd p0 h3.1,h2.ti,h4⟩
  have Tt:Hid (∀W v,Below w.heap.size w W->TiL W v ((uJ x.data.toList).1.map Tok.i)->Calls Tryz.prog 34 #[v] W fun e w'=>e=.returned (.string S0)/\Below W.heap.size W w'):=fun W v hW hv=>by
   refine(aOO W v _ (hT.below hW).1 (hT.below hW).2.1 hv (by rw[ga];omega) fun y hy=> ?_).mono fun e w' ⟨S,h1,h2,h3⟩=>⟨by
    rw[h1];congr 2
    rw[ga]at h2;rw[zl,<-h2],h3⟩
   obtain⟨t,ht,rfl⟩:=dH.1 hy;refine⟨by have:=hj.2 t ht;show(List.toArray t.t).size<=5000;rw[bI];omega,?_⟩;rcases fj t ht with h|h|h|h
   ·show InR t.n;rw[show t.n=0 from h.2.1];decide
   ·show InR t.n;rw[show t.n=0 from h.2.1];decide
   ·exact h.2.1
   ·show InR t.n;rw[show t.n=0 from h.2];decide
  have oq:Hid (∀W,Below w.heap.size w W->Calls Tryz.prog 20 #[.agg #[.int .u64 (s:Int),.int .i64 bb],.string x] W fun e w'=>∃y E,e=.returned (.tuple #[.agg (aL y),E])/\VAt (fun g=>W.heap.size<=g) w' tt y/\fR W.heap.size w' E cc ((prE x.data.toList).1:Nat)/\Below W.heap.size W w'):=fun W hW=>by
   have h:=aEZ s bb x W (hT.below hW) hO hs;rw[<-G9,<-Ig]at h;exact h
  have FP:Hid (∀W,Below w.heap.size w W->Calls Tryz.prog 20 #[.agg #[.int .u64 (s:Int),.int .i64 bb],.string S0] W fun e w'=>∃y E,e=.returned (.tuple #[.agg (aL y),E])/\VAt (fun g=>W.heap.size<=g) w' tt y/\fR W.heap.size w' E cc ((prE L2).1:Nat)/\Below W.heap.size W w'):=fun W hW=>by
   have h:=aEZ s bb S0 W (hT.below hW) hO hs;rw[p8,e1,e2,<-G9,<-Ig]at h;exact h
  have rn:Hid (∀W y,Below w.heap.size w W->VAt (fun _=>True) W tt y->Calls Tryz.prog 30 #[.agg (aL y)] W fun e w'=>e=.returned (.string (kB tt))/\Below W.heap.size W w'):=fun W y hb hy=>aIW W tt y zg hy (hT.below hb).2.2
  have AH:Hid (∀W E n,Below w.heap.size w W->rH W E cc n->Calls Tryz.prog 35 #[E] W fun e w'=>e=.returned (.int .i64 cc)/\Below W.heap.size W w'):=fun W E n hb hE=>aMl E cc n W hE (hT.below hb).1.et
  clear af dr al hx hT hl hs Vv p0 u6 FN Iy Cd hj ga FO e1 e2 zl p8 Bg G9 Ig zg fj;go_enter Tryz.func9,Tryz.ntmps9;go_upto_region 1 with fail
  clear ag;go_upto_region 7 with(first
   |(go_at_call 13;(with_reducible refine(mb.out _ HW.out).mono ?_);rintro r wL ⟨rfl,hb⟩;replace bd:=iH (kW hb bd.out);replace HW:=iH (tW HW.out hb);clear hb)
   |(go_at_call 33;(with_reducible refine(mh.out _ HW.out).mono ?_);rintro r V3 ⟨v,rfl,hv,hb⟩;have Bt:=iH hv;replace bd:=iH (kW hb bd.out);replace HW:=iH (tW HW.out hb);clear hb hv)
   |(refine aW uAz 24 _ rfl w.heap.size rfl 24 _ _ _ bd.out Tryz.underlying24 rfl gQ ?_)
   |(go_at_call 20;(with_reducible refine(oq.out _ HW.out).mono ?_);rintro r V ⟨y,E,rfl,hy,he,hb⟩;have HY:Hid (VAt (fun _=>True) V tt y):=hy.weak fun _ _=>trivial;have HE:=iH he.v;have U9:=iH (Bt.out.later hb);replace bd:=iH (kW hb bd.out);replace HW:=iH (tW HW.out hb);clear hb hy he)
   |(refine aV rfl 37 _ _ rfl V.heap.size (aL y) rfl rfl 37 _ (aC _ _) aF rfl (cE y) ?_;intro w6 h6 k6;have hb:=(Below.newly' V (.cells #[.int .i64 0,.int .i64 0,.string ⟨#[]⟩,.pointer none] 37)).trans (k6.below (aA _));have HX6:=iH h6;have pk:=iH (HY.out.later hb);have zn:=iH (HE.out.later hb);have Re:=iH (U9.out.later hb);replace bd:=iH (kW hb bd.out);replace HW:=iH (tW HW.out hb);clear h6 k6 hb))
  obtain⟨Y7,FQ⟩:∃Y7,Y7=V.heap.size:=⟨_,rfl⟩
  rw[<-FQ]at HX6 ⊢;have zf:Hid (∀V,Below w6.heap.size w6 V->V.heap[w.heap.size]? =some (.cells #[.int .u64 (s:Int),.int .i64 bb] 24 (0,0))):=fun V hV=>(kW hV bd.out)
  have ri:Hid (∀V,Below w6.heap.size w6 V->Calls Tryz.prog 34 #[v] V fun e w'=>e=.returned (.string S0)/\Below V.heap.size V w'):=fun V hV=>Tt.out V v (tW HW.out hV) (Re.out.later hV)
  have uy:Hid (∀V,Below w6.heap.size w6 V->Calls Tryz.prog 20 #[.agg #[.int .u64 (s:Int),.int .i64 bb],.string S0] V fun e w'=>∃y E,e=.returned (.tuple #[.agg (aL y),E])/\VAt (fun g=>V.heap.size<=g) w' tt y/\fR V.heap.size w' E cc ((prE L2).1:Nat)/\Below V.heap.size V w'):=fun V hV=>FP.out V (tW HW.out hV)
  have HB:Hid (Below w6.heap.size w6 w6.drew):=aY w6;clear FQ bd Tt oq FP mh Bt U9 Re HY HE;apply tl4 (Q:=fun(Z:Nat) (wS:World) (y2:Cel) (E2:Value)=>wS.heap[Z]? =some (.cells (aL y2) 37 (0,0))/\VAt (fun _=>True) wS tt y2/\rH wS E2 cc ((prE L2).1:Nat)/\Below w6.heap.size w6 wS)
  ·intro pz
   refine bO (S:=(fun V=>V.heap[w.heap.size]? =some (.cells #[.int .u64 (s:Int),.int .i64 bb] 24 (0,0)))) [] uAu uEz (fun ab=> ?_);obtain⟨wd,j9⟩:∃wd,wd=w6.drew:=⟨_,rfl⟩
   rw[<-j9]at HB ab ⊢;clear j9;refine tyL 0 33 (hy:=aJ uAz 24 _ rfl w.heap.size rfl #[.int .u64 (s:Int),.int .i64 bb] 24 (0,0) _ (fun w hw=>hw) Tryz.underlying24 rfl (by exact gQ)) (h:=?_);refine tkL 1 34 (h:=?_);(try simp only[pq]);refine fU (rs:=[2,7]) uAu uAy (jJ.cons (o:=⟨some 35,_,_,_,_,_⟩) rfl (fun K hK=> ?_) (jJ.cons (o:=⟨some 9,_,_,_,_,_⟩) rfl (fun K hK=> ?_) jJ.nil))
   ·go_simp
    go_at_call 34;(with_reducible refine(ri.out _ HB.out).mono ?_);rintro r wp ⟨rfl,hb⟩;replace HB:=iH (tW HB.out hb);clear hb;dsimp only;refine hK.out _ _ uEz (fun ab=> ?_);clear hK K;(try simp only[pq]);refine fU (rs:=[3,7]) uAu uAy (jJ.cons (o:=⟨some 36,_,_,_,_,_⟩) rfl (fun K hK=> ?_) (jJ.cons (o:=⟨some 9,_,_,_,_,_⟩) rfl (fun K hK=> ?_) jJ.nil))
    ·go_simp
     go_at_call 20;(with_reducible refine(uy.out _ HB.out).mono ?_);rintro r wq ⟨y2,E2,rfl,hy,he,hb⟩;have bo:=iH hy;have Cw:=iH he;replace HB:=iH (tW HB.out hb);clear hb hy he;dsimp only;refine hK.out _ _ uEz (fun ab=> ?_);clear hK K;(try simp only[pq]);refine tkL 4 32 (h:=?_);refine tkL 5 37 (h:=?_);(try simp only[pq]);refine tkL 6 38 (h:=?_);(try simp only[pq]);refine tkO 7 (some 9) (h:=fun K hK=> ?_);go_simp;have fs:Hid ((wq.alloc (.cells #[.int .i64 0,.int .i64 0,.string ⟨#[]⟩,.pointer none] 37)).heap[wq.heap.size]? =some (.cells #[.int .i64 0,.int .i64 0,.string ⟨#[]⟩,.pointer none] 37 (0,0))):=aC _ _;have gz:Hid (w6.heap.size<=wq.heap.size):=HB.out.size;have hb:=Below.newly' wq (.cells #[.int .i64 0,.int .i64 0,.string ⟨#[]⟩,.pointer none] 37);replace HB:=iH (tW HB.out hb);have Pe:=iH hb;obtain⟨Z,hZ⟩:∃Z,Z=wq.heap.size:=⟨_,rfl⟩
     obtain⟨wz,ja⟩:∃wz,wz=wq.alloc (.cells #[.int .i64 0,.int .i64 0,.string ⟨#[]⟩,.pointer none] 37):=⟨_,rfl⟩
     rw[<-ja,<-hZ]at fs;rw[<-hZ]at gz;rw[<-ja]at HB Pe ⊢;rw[<-hZ];have FR:Hid (wq.heap.size<=Z):=by rw[hZ];exact aA _
     clear ja hZ hb;refine hK.out _ _ uEz (fun ab=> ?_);clear hK K;(try simp only[pq]);refine tkO 8 none (h:=fun K hK=> ?_);refine eC 37 _ _ rfl Z (aL y2) rfl rfl 37 _ fs.out aF rfl (cE y2) ?_;intro wS hS kS;replace HB:=iH (HB.out.trans (kS.below gz.out));refine hK.out _ _ uEz (fun ab=> ?_);clear hK K;(try simp only[pq]);refine tkL 9 10 (h:=?_);(try simp only[pq]);refine bJ uAu ?_ _;clear ab;exact pz Z wS y2 E2 ⟨hS,((bo.out.later (Pe.out.trans (kS.below FR.out))).weak fun _ _=>trivial),(Cw.out.later (Pe.out.trans (kS.below FR.out))).v,HB.out⟩
    ·go_simp
     have fs:Hid ((wp.alloc (.cells #[.int .i64 0,.int .i64 0,.string ⟨#[]⟩,.pointer none] 37)).heap[wp.heap.size]? =some (.cells #[.int .i64 0,.int .i64 0,.string ⟨#[]⟩,.pointer none] 37 (0,0))):=aC _ _;have gz:Hid (w6.heap.size<=wp.heap.size):=HB.out.size;have hb:=Below.newly' wp (.cells #[.int .i64 0,.int .i64 0,.string ⟨#[]⟩,.pointer none] 37);replace HB:=iH (tW HB.out hb);obtain⟨Z,hZ⟩:∃Z,Z=wp.heap.size:=⟨_,rfl⟩
     obtain⟨wz,ja⟩:∃wz,wz=wp.alloc (.cells #[.int .i64 0,.int .i64 0,.string ⟨#[]⟩,.pointer none] 37):=⟨_,rfl⟩
     rw[<-ja,<-hZ]at fs;rw[<-hZ]at gz;rw[<-ja]at HB ⊢;rw[<-hZ]
     skip
     clear ja hZ hb;exact Aa3
   ·go_simp
    have fs:Hid ((wd.alloc (.cells #[.int .i64 0,.int .i64 0,.string ⟨#[]⟩,.pointer none] 37)).heap[wd.heap.size]? =some (.cells #[.int .i64 0,.int .i64 0,.string ⟨#[]⟩,.pointer none] 37 (0,0))):=aC _ _;have gz:Hid (w6.heap.size<=wd.heap.size):=HB.out.size;have hb:=Below.newly' wd (.cells #[.int .i64 0,.int .i64 0,.string ⟨#[]⟩,.pointer none] 37);replace HB:=iH (tW HB.out hb);obtain⟨Z,hZ⟩:∃Z,Z=wd.heap.size:=⟨_,rfl⟩
    obtain⟨wz,ja⟩:∃wz,wz=wd.alloc (.cells #[.int .i64 0,.int .i64 0,.string ⟨#[]⟩,.pointer none] 37):=⟨_,rfl⟩
    rw[<-ja,<-hZ]at fs;rw[<-hZ]at gz;rw[<-ja]at HB ⊢;rw[<-hZ]
    skip
    clear ja hZ hb;refine hK.out _ _ uEz (fun ab=> ?_);clear hK K;(try simp only[pq]);refine tkO 2 (some 35) (h:=fun K hK=> ?_);go_simp;go_at_call 34;(with_reducible refine(ri.out _ HB.out).mono ?_);rintro r wp ⟨rfl,hb⟩;replace fs:=iH (kW hb fs.out);replace HB:=iH (tW HB.out hb);clear hb;dsimp only;exact Aa3
  ·intro Z w8 y2 E2 hQ
   have I4:=iH (kW hQ.2.2.2 HX6.out);have I5:=iH hQ.1;have ar:Hid (∀V,Below w8.heap.size w8 V->V.heap[Y7]? =some (.cells (aL y) 37 (0,0))/\V.heap[Z]? =some (.cells (aL y2) 37 (0,0))):=fun V hV=>⟨(kW hV I4.out),(kW hV I5.out)⟩
   have og:Hid (Below w.heap.size w w8):=tW HW.out hQ.2.2.2;have K2:=iH (pk.out.later hQ.2.2.2);have FS:=iH (zn.out.later hQ.2.2.2);have Kk:=iH hQ.2.1;have FT:=iH hQ.2.2.1;have ox:Hid (∀V,Below w8.heap.size w8 V->Calls Tryz.prog 30 #[.agg (aL y)] V fun e w'=>e=.returned (.string (kB tt))/\Below V.heap.size V w'):=fun V hV=>rn.out V y (tW og.out hV) (K2.out.later hV)
   have du:Hid (∀V,Below w8.heap.size w8 V->Calls Tryz.prog 30 #[.agg (aL y2)] V fun e w'=>e=.returned (.string (kB tt))/\Below V.heap.size V w'):=fun V hV=>rn.out V y2 (tW og.out hV) (Kk.out.later hV)
   have CR:Hid (∀V,Below w8.heap.size w8 V->Calls Tryz.prog 35 #[E] V fun e w'=>e=.returned (.int .i64 cc)/\Below V.heap.size V w'):=fun V hV=>AH.out V E _ (tW og.out hV) (FS.out.later hV)
   have MG:Hid (∀V,Below w8.heap.size w8 V->Calls Tryz.prog 35 #[E2] V fun e w'=>e=.returned (.int .i64 cc)/\Below V.heap.size V w'):=fun V hV=>AH.out V E2 _ (tW og.out hV) (FT.out.later hV)
   have nk:Hid (Below w8.heap.size w8 w8.drew):=aY w8;clear hQ HX6 I4 I5 pk zn K2 FS Kk FT rn AH ri uy zf HB;go_upto_region 8 with fail
   refine bO (S:=(fun V=>V.heap[Y7]? =some (.cells (aL y) 37 (0,0))/\V.heap[Z]? =some (.cells (aL y2) 37 (0,0)))) [] uAu uGv (fun ab=> ?_);obtain⟨wd,j9⟩:∃wd,wd=w8.drew:=⟨_,rfl⟩
   rw[<-j9]at nk ab ⊢;clear j9;refine tyL 0 39 (hy:=aJ uAz 37 _ rfl Y7 rfl (aL y) 37 (0,0) _ (fun w hw=>hw.1) Tryz.underlying37 rfl uCu) (h:=?_);refine tyL 2 41 (hy:=aJ uAz 37 _ rfl Z rfl (aL y2) 37 (0,0) _ (fun w hw=>hw.2) Tryz.underlying37 rfl uCu) (h:=?_);(try simp only[pq]);refine tkO 1 (some 40) (h:=fun K hK=> ?_);go_simp;go_at_call 30;(with_reducible refine(ox.out _ nk.out).mono ?_);rintro r wC ⟨rfl,hb⟩;replace nk:=iH (tW nk.out hb);clear hb;dsimp only;refine hK.out _ _ uGv (fun ab=> ?_);clear hK K;(try simp only[pq]);refine tkO 3 (some 42) (h:=fun K hK=> ?_);go_simp;go_at_call 30;(with_reducible refine(du.out _ nk.out).mono ?_);rintro r wC ⟨rfl,hb⟩;replace nk:=iH (tW nk.out hb);clear hb;dsimp only;refine hK.out _ _ uGv (fun ab=> ?_);clear hK K;(try simp only[pq]);refine tkL 4 43 (h:=?_);refine tkL 5 44 (h:=?_);(try simp only[pq]);refine tkL 6 45 (h:=?_);refine tkL 8 47 (h:=?_);(try simp only[pq]);refine tkO 7 (some 46) (h:=fun K hK=> ?_);go_simp;go_at_call 35;(with_reducible refine(CR.out _ nk.out).mono ?_);rintro r wC ⟨rfl,hb⟩;replace nk:=iH (tW nk.out hb);clear hb;dsimp only;refine hK.out _ _ uGv (fun ab=> ?_);clear hK K;(try simp only[pq]);refine tkO 9 (some 48) (h:=fun K hK=> ?_);go_simp;go_at_call 35;(with_reducible refine(MG.out _ nk.out).mono ?_);rintro r wC ⟨rfl,hb⟩;replace nk:=iH (tW nk.out hb);clear hb;dsimp only;refine hK.out _ _ uGv (fun ab=> ?_);clear hK K;(try simp only[pq]);refine tkL 10 49 (h:=?_);refine tkL 11 50 (h:=?_);(try simp only[pq]);refine tkL 12 4 (h:=?_);(try simp only[pq]);refine bJ uAu ?_ _;go_wp2_with fail
   go_ret;exact⟨nN uAy,tW og.out nk.out⟩
 ·have mh:Hid (∀W,Below w.heap.size w W->Calls Tryz.prog 33 #[.string x] W fun e w'=>∃v u z,e=.returned (.tuple #[v,.iface u z])/\Below W.heap.size W w'):=fun W hW=>(Vv W hW).mono fun e w' ⟨v,E,h1,h2,h3,h4⟩=>by
   rcases h3 with h3|⟨_,l,h3,_⟩
   ·exact absurd h3.1 p0
   ·obtain⟨u,z,hz⟩:=h3.iface
    exact⟨v,u,z,by rw[h1,hz],h4⟩
  clear af dr al hx hT hl hs Vv p0;go_enter Tryz.func9,Tryz.ntmps9;go_upto_region 1 with fail
  clear ag;go_wp2_with (first
   |(go_at_call 13;(with_reducible refine(mb.out _ HW.out).mono ?_);rintro r wL ⟨rfl,hb⟩;replace bd:=iH (kW hb bd.out);replace HW:=iH (tW HW.out hb);clear hb)
   |(go_at_call 33;(with_reducible refine(mh.out _ HW.out).mono ?_);rintro r V3 ⟨v,u,z,rfl,hb⟩;replace bd:=iH (kW hb bd.out);replace HW:=iH (tW HW.out hb);clear hb))
  go_ret;exact⟨rfl,HW.out⟩
end Go.Proofs.YthmfgidbcghnfaaGreatDoor
