import Derived.Test.YtengibnpebfblaaGreatDoorQ0
import Derived.Test.YtengibnpebfblaaGreatDoorQ44
set_option maxRecDepth 1000000
set_option maxHeartbeats 8000000
set_option linter.unusedSimpArgs false
namespace Go.Proofs.YtengibnpebfblaaGreatDoor
open Go.RowKit
def S12 (n0:Nat) (vs ts:Value) (g:Nat):Prop:=n0<=g/\vs.ownBlock≠some g/\ts.ownBlock≠some g
theorem yB {V V':World} {X:Option Nat} {S S':Nat->Prop} {x:Tr} {y:Cel} (h:VAt S V x y) (hg:V.grownBy V' X) (hx:∀g,X=some g->¬S g) (hS:∀g,S g->g<V.heap.size->S' g):VAt S' V' x y:=
 h.imp (fun g _ hs ho=>(hg.block g (gZ ho) (fun e=>hx g e.symm hs)).trans ho) hS
structure mJ (n0:Nat) (L M:List Tr) (vs ts:Value) (V:World):Prop where
 vals:∃ys:List Cel,ys.length=L.length/\dC n0 35 4 vs (ys.map aX) V/\∀j (h:j<L.length) (h':j<ys.length),dW L[j]/\VAt (S12 n0 vs ts) V L[j] ys[j]
 trs:∃css:List (Array Value),css.length=M.length/\dC n0 28 5 ts css V/\∀j (h:j<M.length) (h':j<css.length),TrS (S12 n0 vs ts) V M[j] (.agg css[j])
theorem S12.swap {n0:Nat} {vs ts:Value} {g:Nat}:S12 n0 vs ts g↔S12 n0 ts vs g:=⟨fun h=>⟨h.1,h.2.2,h.2.1⟩,fun h=>⟨h.1,h.2.2,h.2.1⟩⟩
section
variable {n0 : Nat} {L M : List Tr} {vs ts : Value} {V V' : World}
theorem mJ.later (h:mJ n0 L M vs ts V) (hb:Below V.heap.size V V'):mJ n0 L M vs ts V':=by
 obtain⟨⟨ys,a1,a2,a3⟩,css,b1,b2,b3⟩:=h;exact⟨⟨ys,a1,a2.later hb,fun j p q=>⟨(a3 j p q).1,(a3 j p q).2.later hb⟩⟩,css,b1,b2.later hb,fun j p q=>(b3 j p q).later hb⟩
theorem mJ.only {X:Nat} (h:mJ n0 L M vs ts V) (k:jK X V V') (hX:X<n0):mJ n0 L M vs ts V':=by
 obtain⟨⟨ys,a1,a2,a3⟩,css,b1,b2,b3⟩:=h;have hx0:∀g,some X=some g->¬S12 n0 vs ts g:=fun g e hs=>by have:=aN e;have:=hs.1;omega
 have n1:vs.ownBlock≠some X:=fun e=>by have:=(a2.own.lt e).1;omega
 have n2:ts.ownBlock≠some X:=fun e=>by have:=(b2.own.lt e).1;omega
 exact⟨⟨ys,a1,a2.grown k.by_ (.inr n1),fun j p q=>⟨(a3 j p q).1,yB (a3 j p q).2 k.by_ hx0 fun _ h _=>h⟩⟩,css,b1,b2.grown k.by_ (.inr n2),fun j p q=>(b3 j p q).imp (KT.grown k.by_ hx0) fun _ h _=>h⟩
theorem mJ.fresh (h:mJ n0 L M vs ts V) (hn:n0<=V.heap.size) {g:Nat} (hg:V.heap.size<=g):S12 n0 vs ts g:=by
 obtain⟨⟨ys,_,a2,_⟩,css,_,b2,_⟩:=h;exact⟨aG hn hg,fun e=>by have:=(a2.own.lt e).2;omega,fun e=>by have:=(b2.own.lt e).2;omega⟩
theorem mJ.lt1 (h:mJ n0 L M vs ts V) {g:Nat} (e:vs.ownBlock=some g):g<V.heap.size:=by
 obtain⟨⟨ys,_,a2,_⟩,_⟩:=h;exact(a2.own.lt e).2
theorem mJ.lt2 (h:mJ n0 L M vs ts V) {g:Nat} (e:ts.ownBlock=some g):g<V.heap.size:=by
 obtain⟨_,css,_,b2,_⟩:=h;exact(b2.own.lt e).2
theorem aHN {vs':Value} (ho:vs'.ownBlock=vs.ownBlock\/∃g',vs'.ownBlock=some g'/\V.heap.size<=g') {g:Nat} (hg:S12 n0 vs ts g) (hl:g<V.heap.size):S12 n0 vs' ts g:=by
 refine⟨hg.1,fun e=> ?_,hg.2.2⟩;rcases ho with h|⟨g',h,h'⟩
 ·exact hg.2.1 (h.symm.trans e)
 ·rw[h]at e
  obtain rfl:=aN e;omega
theorem aL6 {ts':Value} (ho:ts'.ownBlock=ts.ownBlock\/∃g',ts'.ownBlock=some g'/\V.heap.size<=g') {g:Nat} (hg:S12 n0 vs ts g) (hl:g<V.heap.size):S12 n0 vs ts' g:=S12.swap.1 (aHN ho (S12.swap.1 hg) hl)
theorem aGC {X:Option Nat} {S S':Nat->Prop} {x:Tr} {v:Value} (h:TrS S V x v) (hg:V.grownBy V' X) (hx:∀g,X=some g->¬S g) (hS:∀g,S g->g<V.heap.size->S' g):TrS S' V' x v:=h.imp (KT.grown hg hx) hS
theorem zA {α:Type} {l:List α} {a:α} {j:Nat} (h:j<(l++[a]).length):(∃h':j<l.length,(l++[a])[j]=l[j])\/(j=l.length/\(l++[a])[j]=a):=by
 rw[aD,bM]at h;rcases cZ j l.length with hj|hj
 ·exact .inl ⟨hj,dK hj⟩
 ·obtain rfl:j=l.length:=by omega
  exact .inr ⟨rfl,by rw[dH (aE _)];simp⟩
theorem aHt {o:Oper} {a:Act} {K:Act->World->Prop} {Q:Exit->Act->World->Prop} (p q:Operand) (ho:o.op=.call {callee:=.builtin .append,args:=#[p,q],argTypes:=#[52,52]}) (hs:a.eval p=vs) (h:mJ n0 L M vs ts V) (hn:n0<=V.heap.size) (hlen:L.length<=5000)
  {x:Tr} {y:Cel} (g cc:Nat) (hq:a.eval q=.slice (some ⟨g,0,none⟩) 1 cc) (hg:V.heap[g]? =some (.cells (aX y) 35 (0,0))) (hx:dW x) (hy:VAt (S12 n0 vs ts) V x y)
  (hk:∀v' w',mJ n0 (L++[x]) M v' ts w'->Below n0 V w'->V.grownBy w' vs.ownBlock->(v'.ownBlock=vs.ownBlock\/∃g',v'.ownBlock=some g'/\V.heap.size<=g')->K (a.put o.dst v') w'):o.wp Tryz.prog a V K Q:=by
 obtain⟨⟨ys,a1,a2,a3⟩,css,b1,b2,b3⟩:=h;refine oR 52 35 p q ho (by_:=40) (z:=(.agg #[.int .i64 0,.int .i64 0,.string ⟨#[]⟩,.pointer none])) hs a2 g cc hq hg rfl (eU y) Tryz.underlying52 pT rfl uAv (by rw[aH,a1];omega) uAv ?_;intro v' w' r1 r2 r3;have hx0:∀g,vs.ownBlock=some g->¬S12 n0 vs ts g:=fun g e hs=>hs.2.1 e
 have hS:∀g,S12 n0 vs ts g->g<V.heap.size->S12 n0 v' ts g:=fun g hs hl=>aHN r3 hs hl
 refine hk v' w' ⟨⟨ys++[y],by rw[aD,aD,a1];rfl,by rw[bQ];exact r1,fun j q1 q2=> ?_⟩,css,b1,b2.apart3 a2 r2 uAv,fun j q1 q2=>aGC (b3 j q1 q2) r2 hx0 hS⟩ (rZ a2.own r2 (aE _) hn) r2 r3;rcases zA q1 with⟨h1,e1⟩|⟨h1,e1⟩<;>rcases zA q2 with⟨h2,e2⟩|⟨h2,e2⟩
 ·rw[e1,e2]
  exact⟨(a3 j h1 h2).1,yB (a3 j h1 h2).2 r2 hx0 hS⟩
 ·omega
 ·omega
 ·rw[e1,e2]
  exact⟨hx,yB hy r2 hx0 hS⟩
theorem aHu {o:Oper} {a:Act} {K:Act->World->Prop} {Q:Exit->Act->World->Prop} (p q:Operand) (ho:o.op=.call {callee:=.builtin .append,args:=#[p,q],argTypes:=#[26,26]}) (hs:a.eval p=ts) (h:mJ n0 L M vs ts V) (hn:n0<=V.heap.size) (hlen:M.length<=5000)
  {x:Tr} {c:Array Value} (g cc:Nat) (hq:a.eval q=.slice (some ⟨g,0,none⟩) 1 cc) (hg:V.heap[g]? =some (.cells c 28 (0,0))) (hc:c.size=5) (h1:c.all (·.oneCell')=true) (hy:TrS (S12 n0 vs ts) V x (.agg c))
  (hk:∀t' w',mJ n0 L (M++[x]) vs t' w'->Below n0 V w'->V.grownBy w' ts.ownBlock->(t'.ownBlock=ts.ownBlock\/∃g',t'.ownBlock=some g'/\V.heap.size<=g')->K (a.put o.dst t') w'):o.wp Tryz.prog a V K Q:=by
 obtain⟨⟨ys,a1,a2,a3⟩,css,b1,b2,b3⟩:=h;refine oR 26 28 p q ho (by_:=80) (z:=.agg (trC 0 0 ⟨#[]⟩ (.slice none 0 0) (.slice none 0 0))) hs b2 g cc hq hg hc h1 Tryz.underlying26 gQ rfl uAv (by rw[b1];omega) uAv ?_;intro t' w' r1 r2 r3;have hx0:∀g,ts.ownBlock=some g->¬S12 n0 vs ts g:=fun g e hs=>hs.2.2 e
 have hS:∀g,S12 n0 vs ts g->g<V.heap.size->S12 n0 vs t' g:=fun g hs hl=>aL6 r3 hs hl
 refine hk t' w' ⟨⟨ys,a1,a2.apart3 b2 r2 uAv,fun j q1 q2=>⟨(a3 j q1 q2).1,yB (a3 j q1 q2).2 r2 hx0 hS⟩⟩,css++[c],by rw[aD,aD,b1];rfl,r1,fun j q1 q2=> ?_⟩ (rZ b2.own r2 (aE _) hn) r2 r3;rcases zA q1 with⟨h1,e1⟩|⟨h1,e1⟩<;>rcases zA q2 with⟨h2,e2⟩|⟨h2,e2⟩
 ·rw[e1,e2]
  exact aGC (b3 j h1 h2) r2 hx0 hS
 ·omega
 ·omega
 ·rw[e1,e2]
  exact aGC hy r2 hx0 hS
end
theorem aCL {B:Nat} {v:Value} {css:List (Array Value)} {l:List Tr} {W:World} (h:dC B 28 5 v css W) (hl:css.length=l.length) (hm:l.length<=200000) (ht:∀j (h:j<l.length) (h':j<css.length),TrV W l[j] (.agg css[j])):sV W v l:=by
 have h1:=tL h.own.lsT;rw[hl]at h1;obtain⟨a,c,rfl,_⟩:=h1.shape;have hmx:l.length<=maxLen:=by unfold maxLen;omega
 by_cases h0:0<l.length
 ·obtain⟨g,o,c',e,_,_,_,h2⟩:=h1.pos h0
  simp only[dR]at e;refine⟨a,c,g,o,rfl,hmx,fun _=>e.1,fun j hj=> ?_⟩;have hj':j<css.length:=by rw[hl];exact hj
  refine⟨css[j],h.2.2 _ (aO hj'),ht j hj hj',fun i u hu=> ?_⟩;have h3:=sH 5 css j i css[j] h.2.2 (List.getElem?_eq_getElem hj') (by have:=(List.getElem?_eq_some_iff.1 hu).1;rw[bB,h.2.2 _ (aO hj')]at this;exact this);have h4:=h2 (j*5+i) u (by rw[h3,<-Array.getElem?_toList];exact hu);rw[<-tZ]at h4;exact h4
 ·exact⟨a,c,0,0,rfl,hmx,fun h=>absurd h h0,fun j hj=>absurd (jD (aQ _) hj) h0⟩
theorem mJ.lists {n0:Nat} {L M:List Tr} {vs ts:Value} {V:World} (h:mJ n0 L M vs ts V) (hl:L.length<=200000) (hm:M.length<=200000):lU (fun _=>True) V vs L/\sV V ts M:=by
 obtain⟨⟨ys,a1,a2,a3⟩,css,b1,b2,b3⟩:=h;exact⟨gV.vaLs (n0:=n0) ⟨ys,a1,a2,hl,fun j p q=>⟨(a3 j p q).1,(a3 j p q).2.weak fun _ _=>trivial⟩⟩,aCL b2 b1 hm fun j p q=>(b3 j p q).trv⟩
theorem aNT (sa:Nat) (ba:Int) (sb:Nat) (bb:Int) (l:List Tr) (v:Value) (w:World) (hsa:sa<18446744073709551616) (hsb:sb<18446744073709551616) (hv:sV w v l) (hok:∀x∈l,okR x=true) (hlen:l.length<=4000) (hT:fW w):
  Calls Tryz.prog 22 #[.agg #[.int .u64 (sa:Int),.int .i64 ba],.agg #[.int .u64 (sb:Int),.int .i64 bb],v] w fun r w'=>∃vv tv,r=.returned (.tuple #[vv,tv])/\mJ (w.heap.size+2) (l.map cU) (l.map cU) vv tv w'/\Below w.heap.size w w':=by
 obtain⟨ad,cap,b,oo,rfl,hmax,ha,hr⟩:=hv;obtain⟨w1,hw1⟩:∃w1,(w.alloc (.cells #[.int .u64 (sa:Int),.int .i64 ba] 24)).alloc (.cells #[.int .u64 (sb:Int),.int .i64 bb] 24)=w1:=⟨_,rfl⟩
 obtain⟨hb1,hx1,hx2,hs1⟩:=eR hw1;obtain⟨N,hN⟩:∃N,N=l.length:=⟨_,rfl⟩
 rw[<-hN];have hn4:(N:Int)<=4000:=by omega
 have HNL:Hid (N=l.length/\N<=4000):=⟨hN,by omega⟩
 have HA:=iH ha;have HR:=iH hr;have HOKS:=iH hok;have HT0:=iH (fun W (hb:Below w.heap.size w W)=>hT.below hb);have HS0:Hid (sa<18446744073709551616/\sb<18446744073709551616):=⟨hsa,hsb⟩
 have HX0:=iH (And.intro hx1 hx2);have HB0:=iH hb1;have HZ0:Hid (w.heap.size+2<=w1.heap.size):=(by show _<=_;omega)
 have HTW0:Hid (mJ (w.heap.size+2) ((l.map cU).take 0) ((l.map cU).take 0) (.slice none 0 0) (.slice none 0 0) w1):=⟨⟨[],rfl,dC.nil HZ0.out,fun j h=>absurd h uBu⟩,[],rfl,dC.nil HZ0.out,fun j h=>absurd h uBu⟩
 clear hN hr ha hmax hlen hok hT hsa hsb hb1 hx1 hx2 hs1;go_enter Tryz.func22,Tryz.ntmps22;go_upto_region 1 with fail
 clear hw1;go_wp2_with fail
 go_loopw [8,9,14] (fun a8 a9 i W=>∃(j:Nat) (vv tv:Value) (sp:Nat) (bp:Int) (sq:Nat) (bq:Int),j<=N/\i=.int .i64 (j:Int)/\vv=a8/\tv=a9/\Hid (mJ (w.heap.size+2) ((l.map cU).take j) ((l.map cU).take j) vv tv W)/\Hid (W.heap[w.heap.size]? =some (.cells #[.int .u64 (sp:Int),.int .i64 bp] 24 (0,0))/\W.heap[w.heap.size+1]? =some (.cells #[.int .u64 (sq:Int),.int .i64 bq] 24 (0,0)))/\Hid (sp<18446744073709551616/\sq<18446744073709551616)/\Hid (Below w.heap.size w W)/\Hid (w.heap.size+2<=W.heap.size)) (fun _ _ i _=>N-(intOf i).toNat)
 case atStart=>exact⟨0,_,_,sa,ba,sb,bb,aQ _,rfl,rfl,rfl,HTW0.out,HX0.out,HS0.out,HB0.out,HZ0.out⟩
 case round=>
  clear HTW0 HX0 HS0 HB0 HZ0
  rename World=>wo
  obtain⟨j,vv,tv,sp,bp,sq,bq,hj,rfl,rfl,rfl,HTW,HCX,HSB,HB,HN0⟩:=hrel;by_cases hlt:j<N
  case neg=>
   obtain rfl:j=N:=by omega
   have hfin:=HTW.out;rw[aZ (by rw[aH,<-HNL.out.1];exact aE _)]at hfin;have HFIN:=iH hfin;clear hfin;go_wp2_with fail
   go_ret2;exact⟨_,_,rfl,HFIN.out,HB.out⟩
  have hlt':(j:Int)<(N:Int):=by omega
  have i0:(0:Int)<=(j:Int):=by omega
  have hjl:j<l.length:=by rw[<-HNL.out.1];exact hlt
  obtain rfl:=HA.out uAu;obtain⟨cs,hcs,htv,hrg⟩:=HR.out j hjl;have HRG:=iH (dB hrg HB.out);obtain⟨x,hx⟩:∃x,x=l[j]:=⟨_,rfl⟩
  have hxo:okR x=true:=by rw[hx];exact HOKS.out _ (aO hjl)
  have hnx:(l.map cU).take (j+1)=(l.map cU).take j++[cU x]:=by
   have hjm:j<(l.map cU).length:=by rw[aH];exact hjl
   rw[aS hjm,tD,hx]
  rw[<-hx]at htv;obtain⟨xk,xn,xt,xa,xl,xc,xd,xm,xe,hsh⟩:=kG htv;obtain rfl:=mZ hsh;have HOK:=iH (aE1 hxo (oG _ _ htv));have HTV:=iH htv;have HNX:=iH hnx;have HLJ:Hid (((l.map cU).take j).length<=5000):=by show _<=_;rw[aV];have:=HNL.out;omega
  have HLJ2:=HLJ;have HLT:=iH hlt;clear hlt hjl hcs htv hrg hx hxo hnx hsh;by_cases hpar:j % 2=1
  case pos=>
   have hp2:((j:Int)) % 2=1:=by omega
   go_upto_region 6 with(first
    |(refine lM uAz _ rfl b (oo+j*5) rfl (trC xk xn xt (.slice xa xl xc) (.slice xd xm xe)) HRG.out rfl ?_)
    |(refine bV rfl 28 _ _ rfl wo.heap.size (trC xk xn xt (.slice xa xl xc) (.slice xd xm xe)) rfl rfl 28 (trC 0 0 ⟨#[]⟩ (.slice none 0 0) (.slice none 0 0)) (aF _ _) bO rfl uAy ?_;intro w8 h8 k8))
   have hb8:Below wo.heap.size wo w8:=(Below.newly' _ _).trans (k8.below (aE _));obtain⟨D,hD⟩:∃D,D=wo.heap.size:=⟨_,rfl⟩
   have HDN:Hid (vv.ownBlock≠some D/\tv.ownBlock≠some D):=⟨fun e=>by have:=HTW.out.lt1 e;omega,fun e=>by have:=HTW.out.lt2 e;omega⟩
   have HDG:Hid (w.heap.size+2<=D):=(by show _<=_;rw[hD];exact HN0.out)
   rw[<-hD]at h8 ⊢;have HD0:=iH h8;replace HTW:=iH (HTW.out.later hb8);replace HB:=iH (tW HB.out hb8);have HC0:=iH (And.intro (kW hb8 HCX.out.1) (kW hb8 HCX.out.2));replace HN0:=iH (aG HN0.out hb8.size);clear hb8 hD h8 k8 HRG HCX;go_upto_region 8 with(first
    |(refine bR rfl 24 _ rfl (w.heap.size+1) rfl 24 _ _ _ HC0.out.2 Tryz.underlying24 rfl eG ?_)
    |(refine bR rfl 24 _ rfl w.heap.size rfl 24 _ _ _ HC0.out.1 Tryz.underlying24 rfl eG ?_)
    |(refine bV rfl 24 _ _ rfl w.heap.size #[.int .u64 (sq:Int),.int .i64 bq] rfl rfl 24 _ HC0.out.1 eG rfl uAy ?_;intro wp hp kp;have HPX:=iH (kp.other HC0.out.2 uAu);have HP1:=iH hp;have HKP:=iH kp;clear hp kp)
    |(refine bV rfl 24 _ _ rfl (w.heap.size+1) #[.int .u64 (sp:Int),.int .i64 bp] rfl rfl 24 _ HPX.out eG rfl uAy ?_;intro w9 hq kq;have HP2:=iH (kq.other HP1.out uAu);have HP3:=iH hq;have HKQ:=iH kq;clear hq kq))
   have HD:=iH (HKQ.out.other (HKP.out.other HD0.out (by have:=HDG.out;omega)) (by have:=HDG.out;omega));replace HTW:=iH ((HTW.out.only HKP.out uAu).only HKQ.out uAu);replace HB:=iH ((HB.out.trans (HKP.out.below (aE _))).trans (HKQ.out.below uAu));replace HN0:=iH (aG (aG HN0.out HKP.out.by_.size) HKQ.out.by_.size);have HCX:=iH (And.intro HP2.out HP3.out);clear HC0 HPX HP1 HKP HKQ HD0 HP2 HP3;have HCF:Hid (∀V,Below (w.heap.size+2) w9 V->V.heap[w.heap.size]? =some (.cells #[.int .u64 (sq:Int),.int .i64 bq] 24 (0,0))):=fun V hb=>(hb.block _ uAu).trans HCX.out.1
   have HCG:Hid (∀V,Below (w.heap.size+2) w9 V->V.heap[w.heap.size+1]? =some (.cells #[.int .u64 (sp:Int),.int .i64 bp] 24 (0,0))):=fun V hb=>(hb.block _ uAu).trans HCX.out.2
   have HOF:Hid (∀W,Below (w.heap.size+2) w9 W->Calls Tryz.prog 11 #[.agg #[.int .u64 (sq:Int),.int .i64 bq],.agg (trC xk xn xt (.slice xa xl xc) (.slice xd xm xe))] W fun e w'=>∃y,e=.returned (.agg (aX y))/\VAt (fun g=>W.heap.size<=g) w' (cU x) y/\Below W.heap.size W w'):=fun W hb=>by
    have hbw:=HB.out.trans (hb.mono uAu);have h:=aD7 sq bq x _ W HSB.out.2 (HTV.out.later hbw) HOK.out.1 HOK.out.2.1 (aG HOK.out.2.2.1 uAv) (HT0.out W hbw);rw[HOK.out.2.2.2.2.1]at h;exact h
   have HCN:Hid (∀W,Below (w.heap.size+2) w9 W->Calls Tryz.prog 12 #[.agg (trC xk xn xt (.slice xa xl xc) (.slice xd xm xe))] W fun e w'=>∃c,e=.returned (.agg c)/\c.size=5/\TrS (fun g=>W.heap.size<=g) w' (cU x) (.agg c)/\Below W.heap.size W w'):=fun W hb=>by
    exact Ag8
   have HCB:Hid (dW (cU x)):=HOK.out.2.2.2.2.2;have HW:Hid (Below (w.heap.size+2) w9 w9.drew):=(bE w9).mono HN0.out;replace HTW:=iH (HTW.out.later (bE w9));replace HD:=iH (((bE w9).block _ (gZ HD.out)).trans HD.out);replace HN0:=iH (aG HN0.out (bE w9).size);clear HCX;refine bL (S:=(fun V=>V.heap[w.heap.size]? =some (.cells #[.int .u64 (sq:Int),.int .i64 bq] 24 (0,0))/\V.heap[D]? =some (.cells (trC xk xn xt (.slice xa xl xc) (.slice xd xm xe)) 28 (0,0)))) [] hO uCu (fun hHeld=> ?_);refine tkL 0 24 (h:=?_);refine tyL 1 25 (hy:=aP uAz 24 _ rfl w.heap.size rfl #[.int .u64 (sq:Int),.int .i64 bq] 24 (0,0) _ (fun w hw=>hw.1) Tryz.underlying24 rfl uKv) (h:=?_);(try simp only[pq]);refine tyL 2 26 (hy:=aP uAz 28 _ rfl D rfl (trC xk xn xt (.slice xa xl xc) (.slice xd xm xe)) 28 (0,0) _ (fun w hw=>hw.2) Tryz.underlying28 rfl uCy) (h:=?_);refine tkL 6 30 (h:=?_);(try simp only[pq]);refine tyL 7 31 (hy:=aP uAz 28 _ rfl D rfl (trC xk xn xt (.slice xa xl xc) (.slice xd xm xe)) 28 (0,0) _ (fun w hw=>hw.2) Tryz.underlying28 rfl uCy) (h:=?_);(try simp only[pq]);refine tkO 3 (some 27) (h:=fun K hK=> ?_);go_simp;go_at_call 11;(with_reducible refine(HOF.out _ uBy).mono ?_);rintro r wa ⟨y,rfl,hy,hb⟩;have HY:=iH (hy.weak fun g hg=>HTW.out.fresh HN0.out hg);replace HTW:=iH (HTW.out.later hb);replace HD:=iH (kW hb HD.out);replace HW:=iH (HW.out.trans (hb.mono HN0.out));replace HN0:=iH (aG HN0.out hb.size);clear hb hy;dsimp only;refine hK.out _ _ uCu (fun hHeld=> ?_);clear hK K;(try simp only[pq]);refine tkO 4 (some 28) (h:=fun K hK=> ?_);rw[if_pos uAz];refine sR 52 35 _ rfl (aX y) 4 (.agg #[.int .i64 0,.int .i64 0,.string ⟨#[]⟩,.pointer none]) rfl rfl uAv uAv Tryz.underlying52 pS ?_
   intro wb hxb hb _;have HXB:=iH hxb;replace HY:=iH (HY.out.later hb);replace HTW:=iH (HTW.out.later hb);replace HD:=iH (kW hb HD.out);replace HW:=iH (HW.out.trans (hb.mono HN0.out));replace HN0:=iH (aG HN0.out hb.size);clear hb hxb;refine hK.out _ _ uCu (fun hHeld=> ?_);clear hK K;(try simp only[pq]);refine tkO 5 (some 29) (h:=fun K hK=> ?_);rw[if_pos uAz];refine aHt _ _ rfl rfl HTW.out HN0.out HLJ.out wa.heap.size _ rfl HXB.out HCB.out HY.out ?_;intro vs' wc hw2 hb hg ho;replace HTW:=iH hw2;have HD2:=iH ((hg.block D (gZ HD.out) (fun e=>HDN.out.1 e.symm)).trans HD.out);replace HDN:Hid (vs'.ownBlock≠some D/\tv.ownBlock≠some D):=⟨fun e=>by rcases ho with h|⟨g,h,hl⟩<;>first|exact HDN.out.1 (h.symm.trans e)|(rw[h]at e;obtain rfl:=aN e;have:=(gZ HD.out);omega),HDN.out.2⟩
   replace HD:=HD2;clear HD2;replace HN0:=iH (aG HN0.out hb.size);replace HW:=iH (HW.out.trans hb);clear hb hg ho hw2 HXB HY;refine hK.out _ _ uCu (fun hHeld=> ?_);clear hK K;(try simp only[pq]);refine tkO 8 (some 32) (h:=fun K hK=> ?_);go_simp;go_at_call 12;(with_reducible refine(HCN.out _ uBy).mono ?_);rintro r wd ⟨c9,rfl,hc5,hc,hb⟩;obtain⟨ck,cn,ct,c1,c2,c3,c4,c6,c7,rfl⟩:=hc.trv.cells;have HY:=iH (hc.weak fun g hg=>HTW.out.fresh HN0.out hg);replace HTW:=iH (HTW.out.later hb);replace HD:=iH (kW hb HD.out);replace HW:=iH (HW.out.trans (hb.mono HN0.out));replace HN0:=iH (aG HN0.out hb.size);clear hb hc hc5;dsimp only;refine hK.out _ _ uCu (fun hHeld=> ?_);clear hK K;(try simp only[pq]);refine tkO 9 (some 33) (h:=fun K hK=> ?_);rw[if_pos uAz];refine sR 26 28 _ rfl (trC ck cn ct (.slice c1 c2 c3) (.slice c4 c6 c7)) 5 (.agg (trC 0 0 ⟨#[]⟩ (.slice none 0 0) (.slice none 0 0))) rfl rfl uAv uAv Tryz.underlying26 lH ?_;intro we hxe hb _;have HXE:=iH hxe;replace HY:=iH (HY.out.later hb);replace HTW:=iH (HTW.out.later hb);replace HD:=iH (kW hb HD.out);replace HW:=iH (HW.out.trans (hb.mono HN0.out));replace HN0:=iH (aG HN0.out hb.size);clear hb hxe;refine hK.out _ _ uCu (fun hHeld=> ?_);clear hK K;(try simp only[pq]);refine tkO 10 (some 34) (h:=fun K hK=> ?_);rw[if_pos uAz];refine aHu _ _ rfl rfl HTW.out HN0.out HLJ2.out wd.heap.size _ rfl HXE.out rfl uAy HY.out ?_;intro ts' wf hw2 hb hg ho;replace HTW:=iH hw2;replace HD:=iH ((hg.block D (gZ HD.out) (fun e=>HDN.out.2 e.symm)).trans HD.out);replace HN0:=iH (aG HN0.out hb.size);replace HW:=iH (HW.out.trans hb);clear hb hg ho hw2 HXE HY;refine hK.out _ _ uCu (fun hHeld=> ?_);clear hK K;(try simp only[pq]);refine tkL 11 8 (h:=?_);refine tkL 12 9 (h:=?_);(try simp only[pq])
   refine bK hO ?_ _;clear hHeld;have HFI:=iH (And.intro (HCF.out _ HW.out) (HCG.out _ HW.out));have HBF:=iH (HB.out.trans (HW.out.mono uAu));go_wp2_with fail
   go_roundw
   case rel=>
    have h1:=HTW.out;rw[<-HNX.out]at h1;exact⟨j+1,_,_,sq,bq,sp,bp,by have:=HLT.out;omega,by go_num,rfl,rfl,h1,HFI.out,⟨HSB.out.2,HSB.out.1⟩,HBF.out,HN0.out⟩
   case measure=>have:=HLT.out;simp[intOf];omega
  have hp2:¬((j:Int)) % 2=1:=by omega
  go_upto_region 6 with(first
   |(refine lM uAz _ rfl b (oo+j*5) rfl (trC xk xn xt (.slice xa xl xc) (.slice xd xm xe)) HRG.out rfl ?_)
   |(refine bV rfl 28 _ _ rfl wo.heap.size (trC xk xn xt (.slice xa xl xc) (.slice xd xm xe)) rfl rfl 28 (trC 0 0 ⟨#[]⟩ (.slice none 0 0) (.slice none 0 0)) (aF _ _) bO rfl uAy ?_;intro w8 h8 k8))
  have hb8:Below wo.heap.size wo w8:=(Below.newly' _ _).trans (k8.below (aE _));obtain⟨D,hD⟩:∃D,D=wo.heap.size:=⟨_,rfl⟩
  have HDN:Hid (vv.ownBlock≠some D/\tv.ownBlock≠some D):=⟨fun e=>by have:=HTW.out.lt1 e;omega,fun e=>by have:=HTW.out.lt2 e;omega⟩
  have HDG:Hid (w.heap.size+2<=D):=(by show _<=_;rw[hD];exact HN0.out)
  rw[<-hD]at h8 ⊢;have HD0:=iH h8;replace HTW:=iH (HTW.out.later hb8);replace HB:=iH (tW HB.out hb8);have HC0:=iH (And.intro (kW hb8 HCX.out.1) (kW hb8 HCX.out.2));replace HN0:=iH (aG HN0.out hb8.size);clear hb8 hD h8 k8 HRG HCX;have HCX:=HC0;have HD:=HD0;obtain⟨w9,hw9⟩:∃w9,w9=w8:=⟨_,rfl⟩
  rw[<-hw9]at HCX HD HTW HB HN0 ⊢;clear hw9 HC0 HD0;go_upto_region 8 with fail
  have HCF:Hid (∀V,Below (w.heap.size+2) w9 V->V.heap[w.heap.size]? =some (.cells #[.int .u64 (sp:Int),.int .i64 bp] 24 (0,0))):=fun V hb=>(hb.block _ uAu).trans HCX.out.1
  have HCG:Hid (∀V,Below (w.heap.size+2) w9 V->V.heap[w.heap.size+1]? =some (.cells #[.int .u64 (sq:Int),.int .i64 bq] 24 (0,0))):=fun V hb=>(hb.block _ uAu).trans HCX.out.2
  have HOF:Hid (∀W,Below (w.heap.size+2) w9 W->Calls Tryz.prog 11 #[.agg #[.int .u64 (sp:Int),.int .i64 bp],.agg (trC xk xn xt (.slice xa xl xc) (.slice xd xm xe))] W fun e w'=>∃y,e=.returned (.agg (aX y))/\VAt (fun g=>W.heap.size<=g) w' (cU x) y/\Below W.heap.size W w'):=fun W hb=>by
   have hbw:=HB.out.trans (hb.mono uAu);have h:=aD7 sp bp x _ W HSB.out.1 (HTV.out.later hbw) HOK.out.1 HOK.out.2.1 (aG HOK.out.2.2.1 uAv) (HT0.out W hbw);rw[HOK.out.2.2.2.2.1]at h;exact h
  have HCN:Hid (∀W,Below (w.heap.size+2) w9 W->Calls Tryz.prog 12 #[.agg (trC xk xn xt (.slice xa xl xc) (.slice xd xm xe))] W fun e w'=>∃c,e=.returned (.agg c)/\c.size=5/\TrS (fun g=>W.heap.size<=g) w' (cU x) (.agg c)/\Below W.heap.size W w'):=fun W hb=>by
   exact Ag8
  have HCB:Hid (dW (cU x)):=HOK.out.2.2.2.2.2;have HW:Hid (Below (w.heap.size+2) w9 w9.drew):=(bE w9).mono HN0.out;replace HTW:=iH (HTW.out.later (bE w9));replace HD:=iH (((bE w9).block _ (gZ HD.out)).trans HD.out);replace HN0:=iH (aG HN0.out (bE w9).size);clear HCX;refine bL (S:=(fun V=>V.heap[w.heap.size]? =some (.cells #[.int .u64 (sp:Int),.int .i64 bp] 24 (0,0))/\V.heap[D]? =some (.cells (trC xk xn xt (.slice xa xl xc) (.slice xd xm xe)) 28 (0,0)))) [] hO uCu (fun hHeld=> ?_);refine tkL 0 24 (h:=?_);refine tyL 1 25 (hy:=aP uAz 24 _ rfl w.heap.size rfl #[.int .u64 (sp:Int),.int .i64 bp] 24 (0,0) _ (fun w hw=>hw.1) Tryz.underlying24 rfl uKv) (h:=?_);(try simp only[pq]);refine tyL 2 26 (hy:=aP uAz 28 _ rfl D rfl (trC xk xn xt (.slice xa xl xc) (.slice xd xm xe)) 28 (0,0) _ (fun w hw=>hw.2) Tryz.underlying28 rfl uCy) (h:=?_);refine tkL 6 30 (h:=?_);(try simp only[pq]);refine tyL 7 31 (hy:=aP uAz 28 _ rfl D rfl (trC xk xn xt (.slice xa xl xc) (.slice xd xm xe)) 28 (0,0) _ (fun w hw=>hw.2) Tryz.underlying28 rfl uCy) (h:=?_);(try simp only[pq]);refine tkO 3 (some 27) (h:=fun K hK=> ?_);go_simp;go_at_call 11;(with_reducible refine(HOF.out _ uBy).mono ?_);rintro r wa ⟨y,rfl,hy,hb⟩;have HY:=iH (hy.weak fun g hg=>HTW.out.fresh HN0.out hg);replace HTW:=iH (HTW.out.later hb);replace HD:=iH (kW hb HD.out);replace HW:=iH (HW.out.trans (hb.mono HN0.out));replace HN0:=iH (aG HN0.out hb.size);clear hb hy;dsimp only;refine hK.out _ _ uCu (fun hHeld=> ?_);clear hK K;(try simp only[pq]);refine tkO 4 (some 28) (h:=fun K hK=> ?_);rw[if_pos uAz];refine sR 52 35 _ rfl (aX y) 4 (.agg #[.int .i64 0,.int .i64 0,.string ⟨#[]⟩,.pointer none]) rfl rfl uAv uAv Tryz.underlying52 pS ?_
  intro wb hxb hb _;have HXB:=iH hxb;replace HY:=iH (HY.out.later hb);replace HTW:=iH (HTW.out.later hb);replace HD:=iH (kW hb HD.out);replace HW:=iH (HW.out.trans (hb.mono HN0.out));replace HN0:=iH (aG HN0.out hb.size);clear hb hxb;refine hK.out _ _ uCu (fun hHeld=> ?_);clear hK K;(try simp only[pq]);refine tkO 5 (some 29) (h:=fun K hK=> ?_);rw[if_pos uAz];refine aHt _ _ rfl rfl HTW.out HN0.out HLJ.out wa.heap.size _ rfl HXB.out HCB.out HY.out ?_;intro vs' wc hw2 hb hg ho;replace HTW:=iH hw2;have HD2:=iH ((hg.block D (gZ HD.out) (fun e=>HDN.out.1 e.symm)).trans HD.out);replace HDN:Hid (vs'.ownBlock≠some D/\tv.ownBlock≠some D):=⟨fun e=>by rcases ho with h|⟨g,h,hl⟩<;>first|exact HDN.out.1 (h.symm.trans e)|(rw[h]at e;obtain rfl:=aN e;have:=(gZ HD.out);omega),HDN.out.2⟩
  replace HD:=HD2;clear HD2;replace HN0:=iH (aG HN0.out hb.size);replace HW:=iH (HW.out.trans hb);clear hb hg ho hw2 HXB HY;refine hK.out _ _ uCu (fun hHeld=> ?_);clear hK K;(try simp only[pq]);refine tkO 8 (some 32) (h:=fun K hK=> ?_);go_simp;go_at_call 12;(with_reducible refine(HCN.out _ uBy).mono ?_);rintro r wd ⟨c9,rfl,hc5,hc,hb⟩;obtain⟨ck,cn,ct,c1,c2,c3,c4,c6,c7,rfl⟩:=hc.trv.cells;have HY:=iH (hc.weak fun g hg=>HTW.out.fresh HN0.out hg);replace HTW:=iH (HTW.out.later hb);replace HD:=iH (kW hb HD.out);replace HW:=iH (HW.out.trans (hb.mono HN0.out));replace HN0:=iH (aG HN0.out hb.size);clear hb hc hc5;dsimp only;refine hK.out _ _ uCu (fun hHeld=> ?_);clear hK K;(try simp only[pq]);refine tkO 9 (some 33) (h:=fun K hK=> ?_);rw[if_pos uAz];refine sR 26 28 _ rfl (trC ck cn ct (.slice c1 c2 c3) (.slice c4 c6 c7)) 5 (.agg (trC 0 0 ⟨#[]⟩ (.slice none 0 0) (.slice none 0 0))) rfl rfl uAv uAv Tryz.underlying26 lH ?_;intro we hxe hb _;have HXE:=iH hxe;replace HY:=iH (HY.out.later hb);replace HTW:=iH (HTW.out.later hb);replace HD:=iH (kW hb HD.out);replace HW:=iH (HW.out.trans (hb.mono HN0.out));replace HN0:=iH (aG HN0.out hb.size);clear hb hxe;refine hK.out _ _ uCu (fun hHeld=> ?_);clear hK K;(try simp only[pq]);refine tkO 10 (some 34) (h:=fun K hK=> ?_);rw[if_pos uAz];refine aHu _ _ rfl rfl HTW.out HN0.out HLJ2.out wd.heap.size _ rfl HXE.out rfl uAy HY.out ?_;intro ts' wf hw2 hb hg ho;replace HTW:=iH hw2;replace HD:=iH ((hg.block D (gZ HD.out) (fun e=>HDN.out.2 e.symm)).trans HD.out);replace HN0:=iH (aG HN0.out hb.size);replace HW:=iH (HW.out.trans hb);clear hb hg ho hw2 HXE HY;refine hK.out _ _ uCu (fun hHeld=> ?_);clear hK K;(try simp only[pq]);refine tkL 11 8 (h:=?_);refine tkL 12 9 (h:=?_);(try simp only[pq])
  refine bK hO ?_ _;clear hHeld;have HFI:=iH (And.intro (HCF.out _ HW.out) (HCG.out _ HW.out));have HBF:=iH (HB.out.trans (HW.out.mono uAu));go_wp2_with fail
  go_roundw
  case rel=>
   have h1:=HTW.out;rw[<-HNX.out]at h1;exact⟨j+1,_,_,sp,bp,sq,bq,by have:=HLT.out;omega,by go_num,rfl,rfl,h1,HFI.out,⟨HSB.out.1,HSB.out.2⟩,HBF.out,HN0.out⟩
  case measure=>have:=HLT.out;simp[intOf];omega
end Go.Proofs.YtengibnpebfblaaGreatDoor
namespace Go.Proofs.YtengibnpebfblaaGreatDoor
open Go.RowKit Go.ChangeShapes Go.WideShapes Go.ChangeAt
theorem trees_open12 {H:Type} {enc:TypeId×Value->H} {W:World} {sp:Nat->Bool} {held:Bool} {r:Reach} {b0 base:Nat} {v:Value} {d:DataW H} {ps:List MemPlace}
  (hval:Value.okWide Tryz.prog W r b0 26 v) (hd:DataW.Trod enc Tryz.prog W base sp held 26 v d ps):∃l,sV W v l:=by
 obtain⟨l,a,cap,b,o,h1,h2,h3,h4⟩:=aJ3 (c:=5) iE uAv (R:=fun y p=>∃cs:Array Value,cs.size=5/\TrV W y (.agg cs)/\∀j u,cs.toList[j]? =some u->W.cell? (p.add j)=some u) Tryz.underlying26 hO hval hd fun n cs x a hc h=>by
  obtain⟨_,hl,hat⟩:=World.cells?_some hc;obtain⟨y,hy⟩:=aHv _ x.1 (aE _) _ _ _ h hl;refine⟨y,cs.toArray,by simpa using hl,hy,fun j u hu=> ?_⟩;have hj:j<cs.length:=by have:=(List.getElem?_eq_some_iff.1 hu).1;simpa using this
  have h5:=hat j uAu;rw[h5];simpa using hu
 refine⟨l,a,cap,b,o,h1,h4,h2,fun j hj=> ?_⟩;obtain⟨cs,e,hv,hc⟩:=h3 j hj;refine⟨cs,e,hv,fun i u hu=> ?_⟩;have h6:=hc i u hu;rw[show(⟨b,o+j*5,none⟩:Addr).add i=⟨b,o+j*5+i,none⟩ by unfold Addr.add;split<;>simp_all]at h6;exact h6
theorem aNQ {l:List Tr} (h:(l.all okR&&decide (l.length<=12))=true):(∀x∈l,okR x=true)/\l.length<=12:=by
 have h1:=bI.1 h;exact⟨fO.1 h1.1,of_decide_eq_true h1.2⟩
theorem aK4 {W:World} {v:Value} {l:List Tr} (h:sV W v l):∀x∈l,pE x:=fun x hx=>by
 obtain⟨a,c,b,o,_,_,_,h4⟩:=h;obtain⟨j,hj,rfl⟩:=lB.1 hx;obtain⟨cs,_,h5,_⟩:=h4 j hj;exact oG _ _ h5
theorem aLG {W:World} {v:Value} {l:List Tr} (h:sV W v l) (ho:∀x∈l,okR x=true):∀y∈l.map cU,dW y:=fun y hy=>by
 obtain⟨x,hx,rfl⟩:=cH.1 hy;exact(aE1 (ho x hx) (aK4 h x hx)).2.2.2.2.2
theorem aDS {B:Nat} {v:Value} {css:List (Array Value)} {l:List Tr} {W W':World} (h:dC B 28 5 v css W') (ht:pD W l css) (hb:Below W.heap.size W W') (hm:l.length<=200000):sV W' v l:=aCL h ht.1.symm hm fun j h1 h2=>(ht.2 j h1 h2).later hb
end Go.Proofs.YtengibnpebfblaaGreatDoor
