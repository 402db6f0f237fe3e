import Derived.Test.YtengibnpebfblaaGreatDoorQ0
import Derived.Test.YtengibnpebfblaaGreatDoorQ32
import Derived.Test.YtengibnpebfblaaGreatDoorQ34
set_option maxRecDepth 1000000
set_option maxHeartbeats 8000000
set_option linter.unusedSimpArgs false
namespace Go.Proofs.YtengibnpebfblaaGreatDoor
open Go.RowKit
theorem vR:(Tryz.prog.info? 3).map (·.size)=some 1:=by kernel_rfl
theorem aM2:(Tryz.prog.info? 35).map (fun i=>(i.zero,i.size,i.bytes))=some (some (.agg #[.int .i64 0,.int .i64 0,.string ⟨#[]⟩,.pointer none]),4,40):=by kernel_rfl
theorem aJJ:(Tryz.prog.info? 35).map (fun i=>(i.size,i.zero))=some (4,some (.agg #[.int .i64 0,.int .i64 0,.string ⟨#[]⟩,.pointer none])):=by kernel_rfl
theorem lS {A B C:World} {X rb:Nat} (h:A.grownBy B (some rb)) (k:jK X B C) (hX:A.heap.size<=X):A.grownBy C (some rb):=
 ⟨k.by_.os.trans h.os,k.by_.tape.trans h.tape,k.by_.output.trans h.output,aG h.size k.by_.size,fun i hi hne=>(k.by_.block i (cQ hi h.size) (fun e=>by have:=aN e;omega)).trans (h.block i hi hne)⟩
theorem nX {A B C:World} {rb:Nat} {row:Option Nat} (h:A.grownBy B (some rb)) (k:B.grownBy C row) (hX:∀X,row=some X->A.heap.size<=X):A.grownBy C (some rb):=
 ⟨k.os.trans h.os,k.tape.trans h.tape,k.output.trans h.output,aG h.size k.size,fun i hi hne=>(k.block i (cQ hi h.size) (fun e=>by have:=hX i e.symm;omega)).trans (h.block i hi hne)⟩
theorem aKj (l:List Cel):(l.map aX).flatMap Array.toList=ivV l:=by
 induction l with
 |nil=>rfl
 |cons a l ih=>rw[cG,cN,ih];rfl
theorem zX {B:Nat} {v:Value} {l:List Cel} {w:World} (h:bP B 35 4 v (l.map aX) w):bZ (fun g=>B<=g) w 4 v (ivV l) l.length:=by
 have hl:=h.lsT;rw[aKj,aH]at hl;obtain⟨h1,h2,a,c,h3,h4,h5⟩:=hl;refine⟨a,c,h3,h4,h1,h5.imp_right ?_⟩;rintro⟨g,o,cur,fr,rfl,hg,hb,hc⟩;exact⟨g,o,rfl,(h.lt hg).1,(h.lt hg).2,fun j u hu=>aK hb (hc j u hu)⟩
theorem aJv (xs:List Tr) (x:Tr):cV (xs++[x])=cV xs++[cU x]:=by rw[fJ,fJ,bQ];rfl
theorem aMc (B:Nat) (a:Tr):OkT a->jQ B a->jQ B (cU a):=by
 induction a using fS with
 |h k n t ks xs ih=>
  intro ho ht;rw[rC]at ho;simp only[Tr.k,Tr.n,Tr.t,Tr.ks,Tr.xs]at ho;obtain⟨h1,h2,h3⟩:=eT.1 ht;simp only[Tr.k,Tr.n,Tr.t,Tr.ks,Tr.xs]at h1 h2 h3;have hp:∀y∈cV xs,jQ B y:=by
   intro y hy;rw[fJ]at hy;obtain⟨x,hx,rfl⟩:=cH.1 hy;exact ih x hx (ho.2.1 x hx) (h3 x hx)
  rw[cU];split
  ·refine eT.2 ⟨h1,fun y hy=> ?_,fun y hy=> ?_⟩
   ·obtain⟨q,hq,rfl⟩:=cH.1 (show y∈(lJ kbF (ks.zip (cV xs))).map (·.1)from hy)
    exact h2 _ (uH ((jG (f:=kbF) _).mem_iff.1 hq)).1
   ·obtain⟨q,hq,rfl⟩:=cH.1 (show y∈(lJ kbF (ks.zip (cV xs))).map (·.2)from hy)
    exact hp _ (uH ((jG (f:=kbF) _).mem_iff.1 hq)).2
  ·split
   ·exact eT.2 ⟨h1,fun y hy=>(by cases hy),fun y hy=>hp y ((jG (f:=dG) (cV xs)).mem_iff.1 hy)⟩
   ·exact eT.2 ⟨h1,fun y hy=>(by cases hy),hp⟩
theorem lG {a:Tr} (ho:OkT a) (hd:iX a<=64) (hn:fU a<=16384) (hr:pE a) (ht:jQ 3000 a):dW (cU a):=by
 have hs:=qM a ho;exact⟨⟨aC9 a ho hr,by omega,by omega⟩,aMc 3000 a ho ht⟩
theorem aK8 {w:World} {k n:Int} {t:ByteArray} {ks:List ByteArray} {xs:List Tr} {kv:Value} {ad:Option Addr} {lx cap:Nat} (h:TrV w (.nd k n t ks xs) (.agg (trC k n t kv (.slice ad lx cap)))) {j:Nat} (hj:j<xs.length):∃bt oo cs,ad=some ⟨bt,oo,none⟩/\cs.size=5/\w.rangeAt bt (oo+j*5) cs.toList/\TrV w xs[j] (.agg cs):=by
 obtain⟨kv',xv',e,_,_,_,_,a',c',b',o',rfl,h1,_,h2⟩:=h.open';have e2:=mZ e;simp only[trC,gK,eH,dR,aAA,aAz]at e2;obtain⟨cs,q1,q2,q3⟩:=h2 j hj;exact⟨b',o',cs,by rw[e2.2.1];exact h1 uAu,q1,q2,q3⟩
def nL (C0:Nat) (lv:Value) (V:World) (g:Nat):Prop:=C0<g/\g<V.heap.size/\lv.ownBlock≠some g
def RdIn (C0 rb s:Nat) (bb:Int) (xs:List Tr) (d:Nat) (L0:Nat×Int) (m1:Nat) (w3:World) (j:Nat) (lv dv:Value) (l:List Cel) (m':Nat) (V:World):Prop:=
 bP C0 35 4 lv (l.map aX) V/\gC (nL C0 lv V) V (cV (xs.take j)) l/\V.heap[C0]? =some (.cells #[dv,.int .i64 ((eO (cV (xs.take j)):Nat):Int)] 101 (0,0))/\bZ (nL C0 lv V) V 1 dv (iv (tal (cV (xs.take j)))) (tal (cV (xs.take j))).length/\V.heap[rb]? =some (.cells #[.int .u64 (s:Int),.int .i64 bb,.int .i64 (m':Int)] 125 (0,0))/\L0=gG (xs.drop j) (d+1) m'/\m'=m1+eO (xs.take j)/\(∀x∈xs.take j,OkT x/\iX x+d+1<=65)/\m'<=16384/\w3.grownBy V (some rb)
theorem aMj {w:World} {k n:Int} {t:ByteArray} {ks:List ByteArray} {xs:List Tr} {kv xv:Value} (h:TrV w (.nd k n t ks xs) (.agg (trC k n t kv xv))):TxV w kv ks:=by
 obtain⟨kv',xv',e,_,_,_,h1,_⟩:=h.open';have e2:=mZ e;simp only[trC,gK,eH,aAA,aAz]at e2;rw[e2.1];exact h1
theorem own5 {n:Int} {t:ByteArray} {ks:List ByteArray} {xs:List Tr} (h:nQ (.nd 5 n t ks xs)=0):ks.length=xs.length/\ks.Nodup:=by
 have h:=mF.1 h;simp only[Tr.k,Tr.n,Tr.t,Tr.ks,Tr.xs]at h;rcases h with h|⟨_,_,h|h|h⟩
 ·omega
 ·omega
 ·exact h.2
 ·omega
theorem aNJ {S:Nat->Prop} {W:World} {b s:Nat} {bb n:Int} {t:ByteArray} {ks:List ByteArray} {xs:List Tr} {l:List Cel} {rc mc:Array Value} {dv:Value} (hb:S b) (hl:gC S W (cV xs) l) (hi:W.heap[b]? =some (.cells (iW rc mc dv (eO (cV xs))) 103 (0,0))) (hs:s<18446744073709551616)
  (hr:dS S W rc l) (hm:eQ S W s bb [] mc) (hd:bZ S W 1 dv (iv (tal (cV xs))) (tal (cV xs)).length):VAt S W (cU (.nd 4 n t ks xs)) ⟨4,n,t,some ⟨b,0,none⟩⟩:=by
 have e:cU (.nd 4 n t ks xs)=.nd 4 n t [] (cV xs):=by rw[cU,if_neg uAv,if_neg uAv]
 rw[e];exact vG (a:=.nd 4 n t [] (cV xs)) (l:=l) (by show(4:Int)<=4;decide) hb hl ⟨rc,mc,dv,(0,0),s,bb,hi,hs,by rw[aML,aBN rfl];exact hr,by rw[aML,aKZ rfl];exact hm,hd⟩
theorem xE {α:Type} {S:Nat->Prop} {W:World} (f:α->Tr) (g:α->Cel):∀P:List α,(∀p∈P,VAt S W (f p) (g p))->gC S W (P.map f) (P.map g)
 |[],_=>by rw[iL,gC];rfl
 |p::P,h=>by
  have h1:=yF (aER (h p (aW ..))) (xE f g P fun q hq=>h q (aU _ hq));exact h1
theorem aEQ {S:Nat->Prop} {W:World} {xs:List Tr} {l:List Cel} (h:gC S W xs l) {p:Tr×Cel} (hp:p∈xs.zip l):VAt S W p.1 p.2:=by
 obtain⟨j,hj⟩:=List.getElem?_of_mem hp;obtain⟨h1,h2⟩:=List.getElem?_zip_eq_some.1 hj;obtain⟨a,h3,h4⟩:=aB8 h h2;rw[h1]at h3;rw[aN h3];exact h4
theorem aNL {S:Nat->Prop} {W:World} {b s:Nat} {bb n:Int} {t:ByteArray} {ks:List ByteArray} {xs:List Tr} {l:List Cel} {rc mc:Array Value} {dv:Value} (hb:S b) (hl:gC S W (cV xs) l) (hi:W.heap[b]? =some (.cells (iW rc mc dv (eO (cV xs))) 103 (0,0))) (hs:s<18446744073709551616)
  (hr:dS S W rc []) (hm:eQ S W s bb (wG (ks.zip l)) mc) (hd:bZ S W 1 dv (iv (tal (cV xs))) (tal (cV xs)).length) (hk:ks.length=xs.length) (hn:ks.Nodup):VAt S W (cU (.nd 5 n t ks xs)) ⟨5,n,t,some ⟨b,0,none⟩⟩:=by
 have hll:=fG hl;have hcl:(cV xs).length=xs.length:=by rw[fJ,aH]
 have e:cU (.nd 5 n t ks xs)=.nd 5 n t ((lJ kbF (ks.zip (cV xs))).map (·.1)) ((lJ kbF (ks.zip (cV xs))).map (·.2)):=by rw[cU,if_pos rfl]
 have hpm:((lJ kbF (ks.zip (cV xs))).map (·.2)).Perm (cV xs):=by
  have h:=(jG (f:=kbF) (ks.zip (cV xs))).map (·.2);rw[show(ks.zip (cV xs)).map (·.2)=cV xs from List.map_snd_zip uAu]at h;exact h
 rw[e];rw[<-zZ hpm]at hi;rw[<-aEX hpm]at hd;have hz:=aGF ks (cV xs) l hll;rw[hz]at hi hd ⊢;rw[aIF ks (cV xs) l hll uAu hn]at hm;simp only[kC]at hi hd ⊢;have hv:gC S W ((wO ks (cV xs) l).map fun p=>p.2.1) ((wO ks (cV xs) l).map fun p=>p.2.2):=xE _ _ _ fun p hp=>aEQ hl (aIE hp)
 refine vG (by show(4:Int)<=5;decide) hb hv ⟨rc,mc,dv,(0,0),s,bb,hi,hs,by rw[aML,aFK uAv];exact hr,?_,hd⟩;have e2:pC 5 ((wO ks (cV xs) l).map ((fun x=>x.1)∘fun p=>(p.1,p.2.1))) ((wO ks (cV xs) l).map ((fun x=>x.2)∘fun p=>(p.1,p.2.1))) ((wO ks (cV xs) l).map fun p=>p.2.2)=(wO ks (cV xs) l).map fun p=>(p.1,p.2.2):=by
  unfold pC wR;rw[if_pos rfl];generalize wO ks (cV xs) l=P;induction P with
  |nil=>rfl
  |cons p P ih=>simp only[cG,qA,ih];rfl
 show eQ S W s bb (pC 5 _ _ _) mc;exact e2▸hm
theorem aNK {S:Nat->Prop} {W:World} {b s:Nat} {bb n:Int} {t:ByteArray} {ks:List ByteArray} {xs:List Tr} {l:List Cel} {rc mc:Array Value} {dv:Value} (hb:S b) (hl:gC S W (cV xs) l) (hi:W.heap[b]? =some (.cells (iW rc mc dv (eO (cV xs))) 103 (0,0))) (hs:s<18446744073709551616)
  (hr:dS S W rc []) (hm:eQ S W s bb (wG (((cV xs).map kB).zip l)) mc) (hd:bZ S W 1 dv (iv (tal (cV xs))) (tal (cV xs)).length) (hn:((cV xs).map dG).Nodup):VAt S W (cU (.nd 6 n t ks xs)) ⟨6,n,t,some ⟨b,0,none⟩⟩:=by
 have hll:=fG hl;have e:cU (.nd 6 n t ks xs)=.nd 6 n t [] (lJ dG (cV xs)):=by rw[cU,if_neg uAv,if_pos rfl]
 have hpm:=jG (f:=dG) (cV xs);rw[e];rw[<-zZ hpm]at hi;rw[<-aEX hpm]at hd;have hz:=aGE (cV xs) l hll;rw[hz]at hi hd ⊢;rw[aID (cV xs) l hll hn]at hm;have hv:gC S W ((wN (cV xs) l).map fun p=>p.1) ((wN (cV xs) l).map fun p=>p.2):=xE _ _ _ fun p hp=>aEQ hl (aIC hp)
 refine vG (by show(4:Int)<=6;decide) hb hv ⟨rc,mc,dv,(0,0),s,bb,hi,hs,by rw[aML,aFK uAv];exact hr,?_,hd⟩;have e2:pC 6 [] ((wN (cV xs) l).map fun p=>p.1) ((wN (cV xs) l).map fun p=>p.2)=(wN (cV xs) l).map fun p=>(kB p.1,p.2):=by
  unfold pC wR;rw[if_neg uAv,if_pos rfl];generalize wN (cV xs) l=P;induction P with
  |nil=>rfl
  |cons p P ih=>simp only[cG,qA]at ih ⊢;rw[ih]
 show eQ S W s bb (pC 6 _ _ _) mc;exact e2▸hm
theorem aJu {l:List Tr} {d:Nat} (h:∀x∈l,OkT x/\iX x+d+1<=65):eO (cV l)=eO l/\jY (cV l)<=64/\(cV l).length=l.length:=by
 induction l with
 |nil=>rw[cV];exact⟨rfl,aQ _,rfl⟩
 |cons x l ih=>
  obtain⟨h1,h2,h3⟩:=ih fun y hy=>h y (aU _ hy)
  obtain⟨h4,h5⟩:=h x (aW ..);have hs:=qM x h4;rw[cV,eO,jY,eO,aL,aL];omega
theorem aJy {C0:Nat} {lv lv':Value} {V U W:World} (hU:V.heap.size<=U.heap.size) (hW:U.heap.size<=W.heap.size) (hn:lv'.ownBlock=lv.ownBlock\/∃g',lv'.ownBlock=some g'/\U.heap.size<=g'):∀g,nL C0 lv V g->nL C0 lv' W g:=fun g ⟨h1,h2,h3⟩=>⟨h1,by omega,fun e=>by
 rcases hn with hn|⟨g',hn,h4⟩
 ·exact h3 (hn.symm.trans e)
 ·rw[hn]at e
  cases e
  omega⟩
def aLW (a:Tr):Prop:=∀(v:Value) (w:World) (rb s:Nat) (bb:Int) (d m:Nat),TrV w a v->pF 2000 a->jQ 3000 a->fU a<=100000->w.heap[rb]? =some (.cells #[.int .u64 (s:Int),.int .i64 bb,.int .i64 (m:Int)] 125 (0,0))->s<18446744073709551616->fW w->some rb≠some 1->m<=100000->d<=1000->
 Calls Tryz.prog 66 #[.pointer (some ⟨rb,0,none⟩),v,.int .i64 (d:Int)] w fun e w'=>∃y,e=.returned (.tuple #[.agg (aX y),.int .i64 (gU a d m).2])/\VAt (fun g=>w.heap.size<=g) w' (if(gU a d m).2=0 then cU a else iE) y/\w'.heap[rb]? =some (.cells #[.int .u64 (s:Int),.int .i64 bb,.int .i64 (((gU a d m).1:Nat):Int)] 125 (0,0))/\w.grownBy w' (some rb)
theorem aNv (k n:Int) (t:ByteArray) (ks:List ByteArray) (xs:List Tr) (ih:∀y∈(Tr.nd k n t ks xs).xs,aLW y) (kv:Value) (ad:Option Addr) (lx cap:Nat) (w:World) (rb s:Nat) (bb:Int) (d m:Nat) (L:Nat×Int) (hv:TrV w (.nd k n t ks xs) (.agg (trC k n t kv (.slice ad lx cap)))) (hfew:pF 2000 (.nd k n t ks xs)) (htxt:jQ 3000 (.nd k n t ks xs)) (hnod:eO xs<=100000) (hrb:w.heap[rb]? =some (.cells #[.int .u64 (s:Int),.int .i64 bb,.int .i64 (m:Int)] 125 (0,0))) (hs:s<18446744073709551616) (hT:fW w) (hne:some rb≠some 1) (hm9:m<=100000) (hd9:d<=1000) (hown:nQ (.nd k n t ks xs)=0) (h4:4<=k)
  (hL:L=if(gG xs (d+1) (m+1)).2≠0 then gG xs (d+1) (m+1)else if k=6/\¬((cV xs).map dG).Nodup then((gG xs (d+1) (m+1)).1,6)else((gG xs (d+1) (m+1)).1,0)) (hd64:d<=64) (hm64:m+1<=16384) (hlx:lx=xs.length):
  Calls Tryz.prog 66 #[.pointer (some ⟨rb,0,none⟩),.agg (trC k n t kv (.slice ad lx cap)),.int .i64 (d:Int)] w fun e w'=>∃y,e=.returned (.tuple #[.agg (aX y),.int .i64 L.2])/\VAt (fun g=>w.heap.size<=g) w' (if L.2=0 then cU (.nd k n t ks xs)else iE) y/\w'.heap[rb]? =some (.cells #[.int .u64 (s:Int),.int .i64 bb,.int .i64 ((L.1:Nat):Int)] 125 (0,0))/\w.grownBy w' (some rb):=by
 have hk:k=4\/k=5\/k=6:=by
  have h:=mF.1 hown;simp only[Tr.k,Tr.n,Tr.t,Tr.ks,Tr.xs]at h;rcases h with h|⟨_,_,h|h|h⟩<;>omega
 have hrl:=(gZ hrb)
 have hn3:aDs w rb:=⟨_,_,_,_,_,_,_,_,hrb⟩
 have hrng:=oG _ _ hv;have hxl:=uR xs;have hCK:=fun V (hg:w.grownBy V (some rb))=>wK (.nd k n t ks xs) _ V (hv.but hg hn3) (aG (sI.1 hfew).1 uAv)
 rw[hown]at hCK;have HCK:=iH hCK;have HTRV:=iH (fun V (hg:w.grownBy V (some rb))=>hv.but hg hn3);obtain⟨w1,hw1⟩:∃w1,(w.alloc (.cells (trC k n t kv (.slice ad lx cap)) 28)).alloc (.cells #[.int .i64 0,.int .i64 0,.string ⟨#[]⟩,.pointer none] 35)=w1:=⟨_,rfl⟩
 obtain⟨hb1,hx1,hr1,hs1⟩:=eR hw1;have HX1:=iH hx1;have HR1:=iH hr1;have HRB1:=iH ((hb1.block _ hrl).trans hrb);have HB1:=iH hb1;have HS1:=iH hs1;have HRL:=iH hrl;have HTB:=iH (fun V (hg:w.grownBy V (some rb))=>hT.grown hg hne);have hm0:(m:Int)<=100000:=by omega
 have hd0:(d:Int)<=1000:=by omega
 have HM1:Hid (((m+1:Nat):Int)=(m:Int)+1):=by show _=_;omega
 have crb:=aK HRB1.out (j:=2) (v:=.int .i64 (m:Int)) rfl;have c1':¬(64:Int)<(d:Int):=by omega
 have c2':¬(16384:Int)<((m+1:Nat):Int):=by omega
 have h34:¬k<4:=by omega
 have hx6:(lx:Int)<=100000:=by omega
 obtain⟨L0,hL0⟩:∃L0,L0=gG xs (d+1) (m+1):=⟨_,rfl⟩
 rw[<-hL0]at hL;have HL:=iH hL;have HL0:=iH hL0;have HLX:=iH hlx;have HIH:=iH ih;have HPURE:=iH (And.intro hfew (And.intro htxt (And.intro hnod (And.intro hrng (And.intro hown hxl)))));have HNE:=iH hne;clear hv hfew htxt hnod hrb hT hne hx1 hr1 hb1 hs1 hrng hrl hn3 ih hown hL hL0 hCK hxl hlx;go_enter Tryz.func66,Tryz.ntmps66;go_upto_region 1 with fail
 clear hw1;go_upto_region 12 with(first
  |(refine qZ rfl 3 _ _ rfl rb 2 _ rfl rfl rfl 125 _ HRB1.out vR (show 2<3 by omega) ?_;intro w2 h2 k2;have HX2:=iH (k2.other HX1.out (fun e=>by have h:=HRL.out;omega));have HR2:=iH (k2.other HR1.out (fun e=>by have h:=HRL.out;omega));have HRB2:Hid (w2.heap[rb]? =some (.cells #[.int .u64 (s:Int),.int .i64 bb,.int .i64 ((m+1:Nat):Int)] 125 (0,0))):=uJw;have HG2:=iH (cJ (dO HB1.out (some rb)) k2.by_);have HS2:Hid (w2.heap.size=w.heap.size+2):=k2.size.trans HS1.out;have crb:=aK HRB2.out (j:=2) (v:=.int .i64 ((m+1:Nat):Int)) rfl;clear h2 k2)
  |(refine bR rfl 28 _ rfl w.heap.size rfl 28 _ _ _ HX2.out Tryz.underlying28 rfl jF ?_)
  |(go_at_call 93;(with_reducible refine(HCK.out _ HG2.out).mono ?_);rintro e w3 ⟨rfl,hb3⟩;have HX3:=iH (kW hb3 HX2.out);have HR3:=iH (kW hb3 HR2.out);have HRB3:=iH (kW hb3 HRB2.out);have HG3:=iH (cJ HG2.out (dO hb3 _));have HS3:Hid (w.heap.size+2<=w3.heap.size):=aG (jZ HS2.out.symm) hb3.size;have ck3:=aK HX3.out (j:=0) (v:=.int .i64 k) rfl;have ci3:=aK HX3.out (j:=4) (v:=.slice ad lx cap) rfl;clear hb3))
 go_upto_region 13 with fail
 obtain⟨C0,hC0⟩:∃C0,C0=w3.heap.size:=⟨_,rfl⟩
 obtain⟨w4,hw4⟩:∃w4,w4=w3.alloc (.cells #[.slice none 0 0,.int .i64 0] 101):=⟨_,rfl⟩
 have hb4:Below w3.heap.size w3 w4:=by rw[hw4];exact Below.newly' _ _
 have hc4:w4.heap[C0]? =some (.cells #[.slice none 0 0,.int .i64 0] 101 (0,0)):=by rw[hw4,hC0];exact aF _ _
 have HRB4:=iH (kW hb4 HRB3.out);have HC0:Hid (w.heap.size+2<=C0/\C0=w3.heap.size):=⟨by rw[hC0];exact HS3.out,hC0⟩
 have ci4:=aK (show w4.heap[w.heap.size]? =_ from(kW hb4 HX3.out)) (j:=4) (v:=.slice ad lx cap) rfl;have h0:RdIn C0 rb s bb xs d L0 (m+1) w3 0 (.slice none 0 0) (.slice none 0 0) [] (m+1) w4:=by
  have hcl:=(gZ hc4)
  refine⟨⟨kM _ _ _ _,by omega,fun _ h=>by cases h⟩,by rw[eB,cV,gC],by rw[eB,cV,eO];exact hc4,⟨none,0,by simp[tal,cV,jY],aQ _,by simp[tal,cV,jY,iv],.inl ⟨rfl,rfl⟩⟩,HRB4.out,by rw[rM];exact HL0.out,by simp[eO],by simp,hm64,dO hb4 _⟩
 have H0:=iH h0;clear h0 hc4 hb4 ck3 ci3 HX1 HX2 HR1 HR2 HRB1 HRB2 HRB3 HRB4 HB1 HS1 HS2 HS3 HG2 HL0 crb c1' c2' h34;rw[<-hw4,<-hC0];clear hw4 hC0;go_wp2_with fail
 clear ci4;go_loopw [9,12,13,14,47] (fun l9 p12 p13 e14 i wl=>∃(j:Nat) (lv dv:Value) (l:List Cel) (m':Nat),j<=lx/\i=.int .i64 (j:Int)/\l9=lv/\(∃c,c=p12)/\(∃c,c=p13)/\(∃c,c=e14)/\Hid (RdIn C0 rb s bb xs d L0 (m+1) w3 j lv dv l m' wl)) (fun _ _ _ _ i _=>lx-(intOf i).toNat)
 case atStart=>exact⟨0,_,_,[],m+1,aQ _,rfl,rfl,⟨_,rfl⟩,⟨_,rfl⟩,⟨_,rfl⟩,H0.out⟩
 case round=>
  obtain⟨j,lv,dv,l,m',hj,rfl,rfl,_,_,_,HI⟩:=hrel;have hGW:=cJ HG3.out HI.out.2.2.2.2.2.2.2.2.2;have HGW:=iH hGW;have HXW:=iH ((HI.out.2.2.2.2.2.2.2.2.2.block _ (gZ HX3.out) uJx).trans HX3.out);have HRW:=iH ((HI.out.2.2.2.2.2.2.2.2.2.block _ (gZ HR3.out) uJx).trans HR3.out);clear hGW;by_cases hlt:j<lx
  ·have hlt':(j:Int)<(lx:Int):=by omega
   have i0:(0:Int)<=(j:Int):=by omega
   have hjx:j<xs.length:=by rw[<-HLX.out];exact hlt
   obtain⟨bt,oo,cs,had,q1,q2,q3⟩:=aK8 (HTRV.out wr HGW.out) hjx;subst had;obtain⟨y,hy⟩:∃y,y=xs[j]:=⟨_,rfl⟩
   rw[<-hy]at q3;obtain⟨k',n',t',pa,pl,pc,qa,ql,qc,rfl⟩:=q3.cells;obtain⟨z,hz⟩:∃z,z=gU y (d+1) m':=⟨_,rfl⟩
   obtain⟨z1,z2⟩:=z;have hdr:xs.drop j=xs[j]::xs.drop (j+1):=dZ hjx;have hL0:=HI.out.2.2.2.2.2.1;rw[hdr,gG,<-hy,<-hz]at hL0;have hmem:y∈xs:=by rw[hy];exact aO hjx
   obtain⟨p1,p2,p3,p4,p5,p6⟩:=HPURE.out;have hny:=uP hmem;have hm'9:=HI.out.2.2.2.2.2.2.2.2.1;have hIH:=fun V (hg:wr.grownBy V (some rb)) (hrbV:V.heap[rb]? =some (.cells #[.int .u64 (s:Int),.int .i64 bb,.int .i64 (m':Int)] 125 (0,0)))=>HIH.out y hmem _ V rb s bb (d+1) m' (q3.but hg ⟨_,_,_,_,_,_,_,_,HI.out.2.2.2.2.1⟩) ((sI.1 p1).2 y hmem) ((eT.1 p2).2.2 y hmem) uAu hrbV hs (HTB.out V (cJ HGW.out hg)) HNE.out uAu uAu
   rw[<-hz]at hIH;have HCL:=iH hIH;have HRG:=iH q2;have HZ:=iH (And.intro hz (And.intro hL0 (And.intro hy hmem)));have hd1:((d+1:Nat):Int)=(d:Int)+1:=by omega
   rw[hd1]at HCL;dsimp only at HCL;clear q1 q2 q3 hz hL0 hy hmem p1 p2 p3 p4 p5 p6 hny hm'9 hIH hdr hd1;go_upto_region 15 with fail
   go_upto_region 16 with(first
    |(refine lM uAz _ rfl bt (oo+j*5) rfl (trC k' n' t' (.slice pa pl pc) (.slice qa ql qc)) HRG.out rfl ?_)
    |(refine bV rfl 28 _ _ rfl wr.heap.size (trC k' n' t' (.slice pa pl pc) (.slice qa ql qc)) rfl rfl 28 (trC 0 0 ⟨#[]⟩ (.slice none 0 0) (.slice none 0 0)) (aF _ _) jF rfl uAy ?_;intro w5 h5 k5))
   have hb5:Below wr.heap.size wr w5:=(Below.newly' wr (.cells (trC 0 0 ⟨#[]⟩ (.slice none 0 0) (.slice none 0 0)) 28)).trans (k5.below (aE _));have HB5:=iH hb5;have HX5:=iH h5;have HG5:=iH (dO hb5 (some rb));have HRB5:=iH (kW hb5 HI.out.2.2.2.2.1);clear hb5 h5 k5 HRG HXW;go_upto_region 17 with(first
    |(refine bR rfl 28 _ rfl wr.heap.size rfl 28 _ _ _ HX5.out Tryz.underlying28 rfl jF ?_)
    |(go_at_call 66;(with_reducible refine(HCL.out _ HG5.out HRB5.out).mono ?_);rintro e w6 ⟨y',rfl,hy',hrb6,hg6⟩;have HY6:=iH hy';have HRB6:=iH hrb6;have HG6:=iH hg6;clear hy' hrb6 hg6)
    |(refine bV rfl 35 _ _ rfl w6.heap.size (aX y') rfl rfl 35 #[.int .i64 0,.int .i64 0,.string ⟨#[]⟩,.pointer none] (aF _ _) aR rfl (eU y') ?_;intro w7 h7 k7))
   have hb7:Below w6.heap.size w6 w7:=(Below.newly' w6 (.cells #[.int .i64 0,.int .i64 0,.string ⟨#[]⟩,.pointer none] 35)).trans (k7.below (aE _));have hg7:wr.grownBy w7 (some rb):=cJ (cJ HG5.out HG6.out) (dO hb7 _);have HRB7:=iH (kW hb7 HRB6.out);have HRW7:=iH ((hg7.block _ (gZ HRW.out) uJx).trans HRW.out);have hs75:wr.heap.size<=w6.heap.size:=aG HB5.out.size HG6.out.size;have HSZ:=iH (And.intro hs75 (aG hs75 hb7.size));have HGR:=iH hg7;have HY7:=iH h7;have HVY:=iH (HY6.out.later hb7);have HBW5:=iH HB5.out.size;clear hb7 hg7 hs75 h7 k7 HRB6 HG6 HG5 HRB5 HX5 HCL HRW HY6;have hL0:=HZ.out.2.1;by_cases hz2:z2=0
   case neg=>
    rw[if_pos hz2]at hL0;obtain rfl:L=(z1,z2):=by
     rw[HL.out,hL0];exact if_pos hz2
    have HG7:=iH (cJ HGW.out HGR.out);clear hL0 HL HI HZ HVY HIH HTRV HCK HPURE HTB HY7 HBW5 H0 HGR;go_wp2_with (first
     |(refine bV rfl 35 _ _ rfl (w.heap.size+1) #[.int .i64 0,.int .i64 0,.string ⟨#[]⟩,.pointer none] rfl rfl 35 _ HRW7.out aR rfl uAy ?_;intro w9 h9 k9))
    have hrl:=HRL.out;exact bF (bU rfl _ _ (w.heap.size+1) 35 _ (0,0) _ rfl h9 Tryz.underlying35 rfl aR) rfl ⟨gT,rfl,mI _ _,k9.other HRB7.out uAu,lS HG7.out k9 uAu⟩
   subst hz2;rw[if_neg (fun h=>h rfl)]at hL0;obtain⟨i1,i2,i3,i4,i5,i6,i7,i8,i9,i10⟩:=HI.out;obtain⟨hzz,_,hyj,hmem⟩:=HZ.out;obtain⟨p1,p2,p3,p4,p5,p6⟩:=HPURE.out;have hc0:=HC0.out;have hrl:=HRL.out;have hi1:=HSZ.out.1;have hi2:=HSZ.out.2;have hlo:=yU y (d+1) m';rw[<-hzz]at hlo;obtain⟨hoy,hdy,hny⟩:=hlo.1.1 rfl;have hz1:z1=m'+fU y:=hlo.2 rfl;have hll:=fG i2;obtain⟨zp,hzp⟩:∃zp,zp=cV (xs.take j):=⟨_,rfl⟩
   have hcs:=aJu i8;rw[<-hzp]at i2 i3 i4 hll hcs;have hzpl:zp.length=j:=by rw[hcs.2.2,aV];omega
   have hcy:=qM y hoy;obtain⟨zq,hzq⟩:∃zq,zq=zp++[cU y]:=⟨_,rfl⟩
   have htk:xs.take (j+1)=xs.take j++[y]:=by rw[hyj];exact aS hjx
   have hzq2:cV (xs.take (j+1))=zq:=by rw[htk,aJv,hzq,hzp]
   have hvb:=lG hoy uAu uAu ((nE.1 p4).2 y hmem) ((eT.1 p2).2.2 y hmem);have hneb:u9.ownBlock=none\/u9.ownBlock≠some rb:=.inr fun e=>by have:=(i1.lt e).1;omega
   have hro7:=i1.grown HGR.out hneb;have HRO7:=iH hro7;have HLEN:Hid ((l.map aX).length<=900000):=by show _<=_;rw[aH];omega
   have HVY2:=iH (show VAt (fun g=>w5.heap.size<=g) w7 (cU y) y' from HVY.out);have HPJ:=iH (And.intro hzq2 (And.intro htk (And.intro hoy (And.intro hdy (And.intro hz1 (And.intro hny hzq))))));have HVB:=iH hvb;have HBD:=iH (And.intro hzpl (And.intro hcs (And.intro hcy hjx)));have HL9:=iH hL0;have HZP:=iH hzp;clear i1 i2 i3 i4 i5 i6 i7 i8 i9 i10 hzz hyj hmem p1 p2 p3 p4 p5 p6 hc0 hrl hi1 hi2 hlo hoy hdy hny hz1 hll hzp hcs hzpl hcy hzq htk hzq2 hvb hneb hro7 hL0 HVY HIH HCK HTRV HTB;go_upto_region 20 with(first
    |(refine bR rfl 35 _ rfl w6.heap.size rfl 35 _ _ _ HY7.out Tryz.underlying35 rfl aR ?_)
    |(refine nK rfl 52 35 _ rfl (aX y') 4 (.agg #[.int .i64 0,.int .i64 0,.string ⟨#[]⟩,.pointer none]) rfl rfl uAv uAv Tryz.underlying52 aJJ ?_;intro w8 h8 hb8 hs8;have HG8:=iH h8;have HB8:=iH hb8;have HRO8:=iH (HRO7.out.later hb8);clear h8 hb8 hs8)
    |(refine cW rfl fun _ hK=>aCT 52 35 _ _ rfl (B:=C0) (s:=4) (by_:=40) (z:=.agg #[.int .i64 0,.int .i64 0,.string ⟨#[]⟩,.pointer none]) (c:=aX y') (cs:=l.map aX) rfl HRO8.out w7.heap.size 1 rfl HG8.out rfl (eU y') Tryz.underlying52 aM2 rfl uAv HLEN.out uAv fun lv' w9 h1 h2 h3=>hK _ _ ?_;have HR9:=iH h1;have HG9:=iH h2;have HN9:=iH h3;clear h1 h2 h3 hK))
   obtain⟨i1,i2,i3,i4,i5,i6,i7,i8,i9,i10⟩:=HI.out;have hc0:=HC0.out;have hrl:=HRL.out;have hi1:=HSZ.out.1;have hi2:=HSZ.out.2;rw[<-HZP.out]at i2 i3 i4;have hC0l:=(gZ i3)
   have hi5:=HBW5.out;have hs8:=HB8.out.size;have hs9:=HG9.out.size;obtain⟨Y,hY⟩:∃Y,Y=w6.heap.size:=⟨_,rfl⟩
   have hYl:=(gZ HY7.out)
   have HCV:=iH ((HG9.out.block C0 uAu (fun e=>(HRO8.out.neX ((HB8.out.block C0 uAu).trans ((HGR.out.block C0 hC0l (fun e=>by have:=aN e;omega)).trans i3)) uAv) e.symm)).trans ((HB8.out.block C0 uAu).trans ((HGR.out.block C0 hC0l (fun e=>by have:=aN e;omega)).trans i3)));have HST:=iH ((HG9.out.block w6.heap.size uAu (fun e=>by have:=(i1.lt e.symm).2;omega)).trans ((HB8.out.block _ hYl).trans HY7.out));have HRB9:=iH ((HG9.out.block rb uAu (fun e=>by have:=(i1.lt e.symm).1;omega)).trans ((HB8.out.block rb uAu).trans HRB7.out));have hkq:Kq (nL C0 u9 wr) wr w9:=((Kq.grown HGR.out fun X e h=>by cases e;have:=h.1;omega).trans (fun g o hg e=>(HB8.out.block g (gZ e)).trans e)).trans (Kq.grown HG9.out fun X e h=>h.2.2 e);have hap:∀g,nL C0 u9 wr g->nL C0 lv' w9 g:=fun g h=>aJy (V:=wr) (U:=w8) (W:=w9) uAu hs9 HN9.out g h
   have hdv:=i4.imp hkq fun g h _=>hap g h
   have hvl:=i2.imp hkq fun g h _=>hap g h
   have hvy:VAt (nL C0 lv' w9) w9 (cU y) y':=(HVY2.out.later HB8.out).imp (Kq.grown HG9.out fun X e h=>by have:=(i1.lt e).2;omega) fun g h hl=>⟨by omega,by omega,fun e=>by
    rcases HN9.out with hn|⟨g',hn,h4⟩
    ·have:=(i1.lt (hn.symm.trans e)).2
     omega
    ·rw[hn]at e
     cases e
     omega⟩
   have HGV:=iH (nX (cJ (cJ i10 HGR.out) (dO HB8.out _)) HG9.out fun X e=>by have:=(i1.lt e).1;omega);have hbd:=HBD.out;have hdy:=HPJ.out.2.2.2.1;have hny:=HPJ.out.2.2.2.2.2.1;have HTY:=iH (fun W (hb:Below w9.heap.size w9 W)=>aGv W (cU y) y' HVB.out (hvy.later hb));have HPL:Hid (∀W dt,Below w9.heap.size w9 W->bZ (fun _=>True) W 1 dt (iv (tal [cU y])) (tal [cU y]).length->Calls Tryz.prog 49 #[.agg #[dv,.int .i64 ((eO zp:Nat):Int)],.agg #[dt,.int .i64 ((fU (cU y):Nat):Int)]] W fun r W'=>∃dn,r=.returned (.agg #[dn,.int .i64 ((eO zq:Nat):Int)])/\bZ (fun g=>W.heap.size<=g) W' 1 dn (iv (tal zq)) (tal zq).length/\Below W.heap.size W W'):=fun W dt hW hdt=>by
    have h:=aMm (S:=fun _=>True) W dv dt (tal zp) (tal [cU y]) (eO zp) (fU (cU y)) ((hdv.later hW).weak fun _ _=>trivial) hdt (by rw[oI];omega) (by rw[oI];simp only[jY];omega) (aDT uAu) (aDT uBu) uAu uAu;rw[aKE,show eO zp+fU (cU y)=eO (zp++[cU y]) by rw[aFw];simp[eO],<-HPJ.out.2.2.2.2.2.2]at h;exact h
   have HVL:=iH (And.intro hvl hvy);have HDV:=iH hdv;have HC9:Hid (C0<w9.heap.size):=by show _<_;omega
   rw[<-hY]at HST ⊢;clear i1 i2 i3 i4 i5 i6 i7 i8 i9 i10 hc0 hrl hi1 hi2 hC0l hi5 hs8 hs9 hYl hkq hap hdv hvl hvy hbd hdy hny hY;have HKS:Hid (∀V,Below w9.heap.size w9 V->(V.heap[C0]? =some (.cells #[dv,.int .i64 ((eO zp:Nat):Int)] 101 (0,0))/\V.heap[Y]? =some (.cells (aX y') 35 (0,0)))):=fun V hV=>⟨kW hV HCV.out,kW hV HST.out⟩
   have HW:Hid (Below w9.heap.size w9 w9.drew):=bE w9;refine bL (S:=(fun V=>V.heap[C0]? =some (.cells #[dv,.int .i64 ((eO zp:Nat):Int)] 101 (0,0))/\V.heap[Y]? =some (.cells (aX y') 35 (0,0)))) [4] hO uAw (fun hHeld=> ?_);refine tyA 0 67 (hy:=aP uAz 101 _ rfl C0 rfl #[dv,.int .i64 ((eO zp:Nat):Int)] 101 (0,0) _ (fun w hw=>hw.1) Tryz.underlying101 rfl (by exact gR)) (h:=?_);refine tyA 1 68 (hy:=aP uAz 35 _ rfl Y rfl (aX y') 35 (0,0) _ (fun w hw=>hw.2) Tryz.underlying35 rfl uFz) (h:=?_);(try simp only[pq]);refine tkO 2 (some 69) (h:=fun K hK=> ?_);go_simp;go_at_call 50;(with_reducible refine(HTY.out _ uBy).mono ?_);rintro r wA ⟨dt,rfl,hd,hb⟩;have HDT:=iH hd;replace HW:=iH (tW HW.out hb);clear hb hd;have HSA:Hid (w9.drew.heap.size<=wA.heap.size):=HW.out.size;dsimp only;refine hK.out _ _ uAw (fun hHeld=> ?_);clear hK K;(try simp only[pq]);refine tkO 3 (some 70) (h:=fun K hK=> ?_);go_simp;go_at_call 49;(with_reducible refine(HPL.out _ dt uBy (by exact HDT.out.weak fun _ _=>trivial)).mono ?_);rintro r wB ⟨dn,rfl,hd,hb⟩;have HDN:=iH hd;have HSW:=iH HW.out.size;replace HW:=iH (tW HW.out hb);clear hb hd;dsimp only;refine hK.out _ _ uAw (fun hHeld=> ?_);clear hK K;(try simp only[pq]);refine tkU 4 none (h:=fun K hK=> ?_);refine kH 101 _ _ rfl C0 #[dn,.int .i64 ((eO zq:Nat):Int)] rfl rfl 101 _ ((HW.out.block _ (by exact(gZ HCV.out))).trans HCV.out) gR rfl (by have:=HDN.out.shape;obtain⟨_,_,e,_⟩:=this;rw[e];simp[Value.oneCell']) ?_;intro wE hE kE;refine hK.out _ _ ?_;clear hK K;(try simp only[pq]);refine bK hO ?_ _;clear hHeld;go_wp2_with fail
   go_roundw
   case rel=>
    have hc0:=HC0.out;have hrl:=HRL.out;have hw:=HW.out.size;have hsa:=HSA.out;have hc9:=HC9.out;have hke:=kE.by_.size;have hwA:w9.drew.heap.size=w9.heap.size:=rfl;obtain⟨hzq2,htk,hoy,hdy,hz1,hny,hzq⟩:=HPJ.out;have hro:=HR9.out.later HW.out;have hcB:=(HW.out.block C0 hc9).trans HCV.out;have hm:=HI.out.2.2.2.2.2.2.1;have hall:=HI.out.2.2.2.2.2.2.2.1;have hkq:Kq (nL C0 lv' w9) w9 wE:=Kq.trans (Kq.later HW.out) (Kq.only kE fun h=>Nat.lt_irrefl _ h.1);have hap:∀g,nL C0 lv' w9 g->nL C0 lv' wE g:=fun g h=>⟨h.1,by have:=h.2.1;omega,h.2.2⟩
    refine⟨j+1,lv',dn,l++[y'],z1,by omega,by go_num,rfl,⟨_,rfl⟩,⟨_,rfl⟩,⟨_,rfl⟩,?_⟩;show RdIn _ _ _ _ _ _ _ _ _ _ _ _ _ _ _;refine⟨?_,?_,?_,?_,kE.other ((HW.out.block rb uAu).trans HRB9.out) uAu,HL9.out,?_,?_,by omega,?_⟩
    ·rw[bQ]
     exact hro.grown kE.by_ (.inr (hro.neX hcB uAv))
    ·rw[hzq2,hzq]
     exact yF (HVL.out.1.imp hkq fun g h _=>hap g h) (aER (HVL.out.2.imp hkq fun g h _=>hap g h))
    ·rw[hzq2]
     exact hE
    ·rw[hzq2]
     exact HDN.out.imp (Kq.only kE fun h=>by omega) fun g h _=>⟨by omega,by omega,fun e=>by have:=(HR9.out.lt e).2;omega⟩
    ·rw[htk,aFw,hz1,hm]
     simp only[eO];omega
    ·rw[htk]
     intro x hx;rcases cP.1 hx with hx|hx
     ·exact hall x hx
     ·obtain rfl:=cB.1 hx
      exact⟨hoy,by omega⟩
    ·exact lS (cJ HGV.out (dO HW.out _)) kE uAu
   case measure=>simp[intOf];omega
  ·obtain rfl:j=lx:=by omega
   obtain⟨i1,i2,i3,i4,i5,i6,i7,i8,i9,i10⟩:=HI.out;rw[HLX.out,aAH,gG]at i6;rw[HLX.out,eN]at i2 i3 i4 i7 i8;have hL0:L0.2=0:=by rw[i6]
   have hL:=HL.out;rw[if_neg (fun h=>h hL0),i6]at hL;dsimp only at hL;obtain⟨ys,hys⟩:∃ys,ys=cV xs:=⟨_,rfl⟩
   rw[<-hys]at i2 i3 i4 hL;have HYS:=iH hys;have HLL:=iH hL;have HRO:=iH i1;have HVL:=iH i2;have HCV:=iH i3;have HDV:=iH i4;have HRB:=iH i5;have HALL:=iH (And.intro i7 (And.intro i8 i9));have hrg:wr.rangeAt rb 0 [.int .u64 (s:Int),.int .i64 bb]:=by
    intro j' u hu
    match j',hu with
    |0,hu=>exact aK i5 hu
    |1,hu=>exact aK i5 hu
    |k+2,hu=>simp at hu
   have HRNG:=iH hrg;have HNW:=iH (fun W=>aO0 W s bb (fun _=>False));clear i1 i2 i3 i4 i5 i6 i7 i8 i9 i10 hL0 hL hys hrg HL HI HIH H0;go_upto_region 22 with fail
   have HKS:Hid (∀V,Below wr.heap.size wr V->(V.heap[C0]? =some (.cells #[dv,.int .i64 ((eO ys:Nat):Int)] 101 (0,0))/\V.rangeAt rb 0 [.int .u64 (s:Int),.int .i64 bb])):=fun V hV=>⟨kW hV HCV.out,dB HRNG.out hV⟩
   have HW:Hid (Below wr.heap.size wr wr.drew):=bE wr;refine bL (S:=(fun V=>V.heap[C0]? =some (.cells #[dv,.int .i64 ((eO ys:Nat):Int)] 101 (0,0))/\V.rangeAt rb 0 [.int .u64 (s:Int),.int .i64 bb])) [7,8] hO uAw (fun hHeld=> ?_);refine tkA 0 72 (h:=?_);refine tkA 1 73 (h:=?_);(try simp only[pq]);refine tkA 2 74 (h:=?_);refine tyA 3 75 (hy:=bT uAz 24 _ rfl rb 0 rfl #[.int .u64 (s:Int),.int .i64 bb] _ (fun w hw=>hw.2) Tryz.underlying24 rfl (by exact aCc)) (h:=?_);(try simp only[pq]);refine tyA 5 77 (hy:=aP uAz 101 _ rfl C0 rfl #[dv,.int .i64 ((eO ys:Nat):Int)] 101 (0,0) _ (fun w hw=>hw.1) Tryz.underlying101 rfl (by exact gR)) (h:=?_);(try simp only[pq]);refine tkO 4 (some 76) (h:=fun K hK=> ?_);go_simp;go_at_call 95;(with_reducible refine(HNW.out _).mono ?_);rintro r wA ⟨mc,rfl,hm,hb⟩;obtain⟨q1,q2,q3,q4,q5,q6,q7,rfl,_⟩:=id hm;have HM:=iH hm;replace HW:=iH (tW HW.out hb);clear hb hm;dsimp only;refine hK.out _ _ uAw (fun hHeld=> ?_);clear hK K;(try simp only[pq]);refine tkA 6 78 (h:=?_);(try simp only[pq]);refine tkU 7 (some 79) (h:=fun K hK=> ?_);go_simp;refine hK.out _ _ ?_;clear hK K;(try simp only[pq]);refine tkU 8 (some 15) (h:=fun K hK=> ?_);go_simp;refine hK.out _ _ ?_;clear hK K;(try simp only[pq]);refine bK hO ?_ _;clear hHeld;go_upto_region 23 with fail
   obtain⟨b,hb⟩:∃b,b=wA.heap.size:=⟨_,rfl⟩
   obtain⟨wB,hwB⟩:∃wB,wB=wA.alloc (.cells #[.int .i64 0,.int .i64 0,.slice none 0 0,.slice none 0 0,.int .u64 (s:Int),.int .i64 bb,.int .i64 0,.int .u32 (q1:Int),.slice q2 q3 q4,.slice q5 q6 q7,dv,.int .i64 ((eO ys:Nat):Int)] 103):=⟨_,rfl⟩
   have hinn:(iW #[.int .i64 0,.int .i64 0,.slice none 0 0,.slice none 0 0] #[.int .u64 (s:Int),.int .i64 bb,.int .i64 0,.int .u32 (q1:Int),.slice q2 q3 q4,.slice q5 q6 q7] dv (eO ys))=#[.int .i64 0,.int .i64 0,.slice none 0 0,.slice none 0 0,.int .u64 (s:Int),.int .i64 bb,.int .i64 0,.int .u32 (q1:Int),.slice q2 q3 q4,.slice q5 q6 q7,dv,.int .i64 ((eO ys:Nat):Int)]:=by simp[iW]
   have hib:wB.heap[b]? =some (.cells (iW #[.int .i64 0,.int .i64 0,.slice none 0 0,.slice none 0 0] #[.int .u64 (s:Int),.int .i64 bb,.int .i64 0,.int .u32 (q1:Int),.slice q2 q3 q4,.slice q5 q6 q7] dv (eO ys)) 103 (0,0)):=by rw[hinn,hwB,hb];exact aF _ _
   have hbA:Below wA.heap.size wA wB:=by rw[hwB];exact Below.newly' _ _
   have hbB:Below wr.heap.size wr wB:=tW HW.out hbA;have hwr:=HW.out.size;have hwrl:=(gZ HRB.out)
   have hcl:=(gZ HCV.out)
   have HXB:=iH (kW hbB HXW.out);have HRB2:=iH (kW hbB HRW.out);have HRBB:=iH ((hbB.block _ hwrl).trans HRB.out);have HBB:Hid (C0<b/\wr.heap.size<=b/\b<wB.heap.size/\wr.heap.size<=wB.heap.size):=⟨by omega,by omega,(gZ hib),hbB.size⟩
   have HBW:=iH hbB;have HIB:=iH hib;have HGB:=iH (cJ HGW.out (dO hbB (some rb)));have HMB:Hid (eQ (fun g=>wB.heap.size<=g) wB s bb [] #[.int .u64 (s:Int),.int .i64 bb,.int .i64 0,.int .u32 (q1:Int),.slice q2 q3 q4,.slice q5 q6 q7]):=HM.out.imp (Kq.kp fun g o hg _=>hg.elim) fun g h _=>h.elim
   have HLN:Hid (l.length=xs.length/\l.length=ys.length):=by
    have h1:=fG HVL.out;have h2:ys.length=xs.length:=by rw[HYS.out,fJ,aH]
    exact⟨by omega,by omega⟩
   have HPL:=iH (fun W=>xC k n t kv (.slice ad j cap) W);rw[<-hwB,<-hb];clear hb hwB hinn hib hbA hbB hwr hwrl hcl HKS HW HXW HRW HNW HCV;have hpu:=HPURE.out;rcases hk with rfl|rfl|rfl
   ·obtain rfl:L=(m',0):=by
     rw[HLL.out];exact if_neg uTz
    have hlen:l.length<=100000:=by have:=HLN.out.1;have:=hpu.2.2.1;have:=hpu.2.2.2.2.2;omega
    have HFL:=iH (aEN (S:=fun g=>C0<=g) wB b #[.int .i64 0,.int .i64 0,.slice none 0 0,.slice none 0 0] #[.int .u64 (s:Int),.int .i64 bb,.int .i64 0,.int .u32 (q1:Int),.slice q2 q3 q4,.slice q5 q6 q7] dv (eO ys) n t kv (.slice ad j cap) u9 l HIB.out rfl rfl (zX (HRO.out.later HBW.out)) hlen);clear hpu hlen HLL;go_wp2_with (first
     |(refine bR rfl 28 _ rfl w.heap.size rfl 28 _ _ _ HXB.out Tryz.underlying28 rfl jF ?_)
     |(go_at_call 96;(with_reducible refine HFL.out.mono ?_);rintro e wC ⟨rfl,fc,hrc,hbc,hgc⟩;have HFC:=iH hrc;have HBC:=iH hbc;have HGC:=iH hgc;have HXC:=iH ((hgc.block _ (gZ HXB.out) (fun e=>by have h:=HBB.out;have h2:=HC0.out;have h3:=HRL.out;have:=aN e;omega)).trans HXB.out);have ckC:=aK HXC.out (j:=0) (v:=.int .i64 4) rfl;have HRC:=iH ((hgc.block _ (gZ HRB2.out) (fun e=>by have h:=HBB.out;have h2:=HC0.out;have h3:=HRL.out;have:=aN e;omega)).trans HRB2.out);have HNC:=iH ((hgc.block _ (gZ HRBB.out) (fun e=>by have h:=HBB.out;have h2:=HC0.out;have h3:=HRL.out;have:=aN e;omega)).trans HRBB.out);clear hrc hbc hgc)
     |(refine bR rfl 28 _ rfl w.heap.size rfl 28 _ _ _ HXC.out Tryz.underlying28 rfl jF ?_)
     |(go_at_call 94;(with_reducible refine(HPL.out _).mono ?_);rintro e wD ⟨rfl,hbD⟩;have HRD:=iH (kW hbD HRC.out);have HND:=iH (kW hbD HNC.out);have HBD:=iH hbD;clear hbD)
     |(refine bV rfl 35 _ _ rfl (w.heap.size+1) (aX ⟨4,n,t,some ⟨b,0,none⟩⟩) rfl rfl 35 _ HRD.out aR rfl (eU _) ?_;intro w9 h9 k9))
    have hrl:=HRL.out;have hc0:=HC0.out;have hbb:=HBB.out;have hgc:w.grownBy wC (some rb):=nX HGB.out HGC.out fun X e=>by have:=aN e;omega
    have hsC:=HGC.out.size;have hkqC:Kq (nL C0 u9 wr) wr wC:=Kq.trans (Kq.later HBW.out) (Kq.grown HGC.out fun X e h=>by have:=aN e;have:=h.2.1;omega);have hvl:=HVL.out.imp hkqC fun g h _=>(h.1:C0<g)
    have hdv:=HDV.out.imp hkqC fun g h _=>(h.1:C0<g)
    rw[HYS.out]at hvl hdv;have hib:=HBC.out;rw[HYS.out]at hib;have hva:VAt (fun g=>C0<g) wC (cU (.nd 4 n t ks xs)) ⟨4,n,t,some ⟨b,0,none⟩⟩:=aNJ uAu hvl hib hs (HFC.out.weak fun g h=>by omega) (HM.out.imp (Kq.kp fun g o hg _=>hg.elim) fun g h _=>h.elim) hdv;have hk9:Kq (fun g=>C0<g) wD w9:=Kq.only k9 uAu;exact bF (bU rfl _ _ (w.heap.size+1) 35 _ (0,0) _ rfl h9 Tryz.underlying35 rfl aR) rfl ⟨⟨4,n,t,some ⟨b,0,none⟩⟩,rfl,((hva.later HBD.out).imp hk9 fun g h _=>h).weak (fun g h=>by omega),k9.other HND.out uAu,lS (cJ hgc (dO HBD.out _)) k9 uAu⟩
   ·obtain rfl:L=(m',0):=by
     rw[HLL.out];exact if_neg uTz
    have h5:=own5 hpu.2.2.2.2.1;have hln:=HLN.out;have hal:=HALL.out;have hbb:=HBB.out;have hc0:=HC0.out;have HFL:=iH (aEP (S:=fun g=>C0<=g) wB b #[.int .i64 0,.int .i64 0,.slice none 0 0,.slice none 0 0] #[.int .u64 (s:Int),.int .i64 bb,.int .i64 0,.int .u32 (q1:Int),.slice q2 q3 q4,.slice q5 q6 q7] dv (eO ys) n t kv (.slice ad j cap) u9 l s bb hs HIB.out rfl HMB.out (fun V hV=>zX ((HRO.out.later HBW.out).grown hV (.inr fun e=>by have:=(HRO.out.lt e).2;omega))) (by have:=hpu.2.2.2.2.2;omega) (HTB.out wB HGB.out) (fun e=>by have:=aN e;omega) ks (fun V hV=>aMj (HTRV.out V (nX HGB.out hV fun X e=>by have:=aN e;omega))) uAu (fun y hy=>(eT.1 hpu.2.1).2.1 y hy));have H5:=iH h5;clear hpu HLL h5 hln hal hbb hc0;go_wp2_with (first
     |(refine bR rfl 28 _ rfl w.heap.size rfl 28 _ _ _ HXB.out Tryz.underlying28 rfl jF ?_)
     |(go_at_call 96;(with_reducible refine HFL.out.mono ?_);rintro e wC ⟨rfl,fc,hrc,hbc,hgc⟩;have HFC:=iH hrc;have HBC:=iH hbc;have HGC:=iH hgc;have HXC:=iH ((hgc.block _ (gZ HXB.out) (fun e=>by have h:=HBB.out;have h2:=HC0.out;have h3:=HRL.out;have:=aN e;omega)).trans HXB.out);have ckC:=aK HXC.out (j:=0) (v:=.int .i64 5) rfl;have HRC:=iH ((hgc.block _ (gZ HRB2.out) (fun e=>by have h:=HBB.out;have h2:=HC0.out;have h3:=HRL.out;have:=aN e;omega)).trans HRB2.out);have HNC:=iH ((hgc.block _ (gZ HRBB.out) (fun e=>by have h:=HBB.out;have h2:=HC0.out;have h3:=HRL.out;have:=aN e;omega)).trans HRBB.out);clear hrc hbc hgc)
     |(refine bR rfl 28 _ rfl w.heap.size rfl 28 _ _ _ HXC.out Tryz.underlying28 rfl jF ?_)
     |(go_at_call 94;(with_reducible refine(HPL.out _).mono ?_);rintro e wD ⟨rfl,hbD⟩;have HRD:=iH (kW hbD HRC.out);have HND:=iH (kW hbD HNC.out);have HBD:=iH hbD;clear hbD)
     |(refine bV rfl 35 _ _ rfl (w.heap.size+1) (aX ⟨5,n,t,some ⟨b,0,none⟩⟩) rfl rfl 35 _ HRD.out aR rfl (eU _) ?_;intro w9 h9 k9))
    have hrl:=HRL.out;have hc0:=HC0.out;have hbb:=HBB.out;have hgc:w.grownBy wC (some rb):=nX HGB.out HGC.out fun X e=>by have:=aN e;omega
    have hsC:=HGC.out.size;have hkqC:Kq (nL C0 u9 wr) wr wC:=Kq.trans (Kq.later HBW.out) (Kq.grown HGC.out fun X e h=>by have:=aN e;have:=h.2.1;omega);have hvl:=HVL.out.imp hkqC fun g h _=>(h.1:C0<g)
    have hdv:=HDV.out.imp hkqC fun g h _=>(h.1:C0<g)
    rw[HYS.out]at hvl hdv;have hib:=HBC.out;rw[HYS.out]at hib;have hva:VAt (fun g=>C0<g) wC (cU (.nd 5 n t ks xs)) ⟨5,n,t,some ⟨b,0,none⟩⟩:=aNL uAu hvl hib hs (.inl ⟨rfl,rfl⟩) (HFC.out.weak fun g h=>by omega) hdv H5.out.1 H5.out.2;have hk9:Kq (fun g=>C0<g) wD w9:=Kq.only k9 uAu;exact bF (bU rfl _ _ (w.heap.size+1) 35 _ (0,0) _ rfl h9 Tryz.underlying35 rfl aR) rfl ⟨⟨5,n,t,some ⟨b,0,none⟩⟩,rfl,((hva.later HBD.out).imp hk9 fun g h _=>h).weak (fun g h=>by omega),k9.other HND.out uAu,lS (cJ hgc (dO HBD.out _)) k9 uAu⟩
   ·have hln:=HLN.out
    have hal:=HALL.out;have hbb:=HBB.out;have hc0:=HC0.out;have hvb:∀y∈ys,dW y:=by
     intro y hy;rw[HYS.out,fJ]at hy;obtain⟨x,hx,rfl⟩:=cH.1 hy;have h1:=hal.2.1 x hx;have h2:=uP hx;exact lG h1.1 uAu uAu ((nE.1 hpu.2.2.2.1).2 x hx) ((eT.1 hpu.2.1).2.2 x hx)
    have HFL:=iH (aEO (S:=fun g=>C0<=g) wB b #[.int .i64 0,.int .i64 0,.slice none 0 0,.slice none 0 0] #[.int .u64 (s:Int),.int .i64 bb,.int .i64 0,.int .u32 (q1:Int),.slice q2 q3 q4,.slice q5 q6 q7] dv (eO ys) n t kv (.slice ad j cap) u9 l s bb hs HIB.out rfl HMB.out (fun V hV=>zX ((HRO.out.later HBW.out).grown hV (.inr fun e=>by have:=(HRO.out.lt e).2;omega))) (by have:=hpu.2.2.2.2.2;omega) (HTB.out wB HGB.out) (fun e=>by have:=aN e;omega) ys (fun V hV=>(HVL.out.later HBW.out).imp (Kq.grown hV fun X e h=>by have:=aN e;have:=h.2.1;omega) fun g _ _=>trivial) hvb);have hml:=aBP ((ys.map kB).zip l);have hzf:((ys.map kB).zip l).map (·.1)=ys.map kB:=List.map_fst_zip uPz;have hzl:((ys.map kB).zip l).length=l.length:=by rw[dN,aH];omega
    rw[hzf,hzl,aBy]at hml;obtain⟨LM,hLM⟩:∃LM,LM=(wG ((ys.map kB).zip l)).length:=⟨_,rfl⟩
    rw[<-hLM]at hml;obtain⟨ua,uc,hu⟩:=HRO.out.shape';obtain⟨lz,hlz⟩:∃lz,lz=(l.map aX).length:=⟨_,rfl⟩
    rw[<-hlz]at hu;rw[aH]at hlz;subst hu;have HLM:=iH hLM;rw[<-hlz]at hml;by_cases hnd:(ys.map dG).Nodup
    ·obtain rfl:L=(m',0):=by
      rw[HLL.out];exact if_neg (by rintro⟨_,h⟩;exact h hnd)
     have hlt:¬(LM:Int)<(lz:Int):=by have:=hml.2.2 hnd;omega
     have HND6:=iH hnd;clear hpu HLL hln hal hbb hc0 hvb hml hzf hzl hLM hlz hnd;go_wp2_with (first
      |(refine bR rfl 28 _ rfl w.heap.size rfl 28 _ _ _ HXB.out Tryz.underlying28 rfl jF ?_)
      |(go_at_call 96;(with_reducible refine HFL.out.mono ?_);rintro e wC ⟨rfl,fc,hrc,hbc,hgc⟩;have HFC:=iH hrc;have HBC:=iH hbc;have HGC:=iH hgc;have HXC:=iH ((hgc.block _ (gZ HXB.out) (fun e=>by have h:=HBB.out;have h2:=HC0.out;have h3:=HRL.out;have:=aN e;omega)).trans HXB.out);have ckC:=aK HXC.out (j:=0) (v:=.int .i64 6) rfl;have HRC:=iH ((hgc.block _ (gZ HRB2.out) (fun e=>by have h:=HBB.out;have h2:=HC0.out;have h3:=HRL.out;have:=aN e;omega)).trans HRB2.out);have HNC:=iH ((hgc.block _ (gZ HRBB.out) (fun e=>by have h:=HBB.out;have h2:=HC0.out;have h3:=HRL.out;have:=aN e;omega)).trans HRBB.out);clear hrc hbc hgc)
      |(refine aHM uAz 98 _ rfl b 4 rfl fc _ (oV rfl HFC.out.size HBC.out) Tryz.underlying98 rfl (by rw[HFC.out.size];exact fV) ?_)
      |(go_at_call 90;(with_reducible refine(aGX _ HFC.out).mono ?_);rintro e wL ⟨rfl,hbL⟩;rw[<-HLM.out];have HBL:=iH hbL;have HXL:=iH (kW hbL HXC.out);have HRLL:=iH (kW hbL HRC.out);have HNL:=iH (kW hbL HNC.out);clear hbL)
      |(refine bR rfl 28 _ rfl w.heap.size rfl 28 _ _ _ HXL.out Tryz.underlying28 rfl jF ?_)
      |(go_at_call 94;(with_reducible refine(HPL.out _).mono ?_);rintro e wD ⟨rfl,hbD⟩;have HRD:=iH (kW hbD HRLL.out);have HND:=iH (kW hbD HNL.out);have HBD:=iH hbD;clear hbD)
      |(refine bV rfl 35 _ _ rfl (w.heap.size+1) (aX ⟨6,n,t,some ⟨b,0,none⟩⟩) rfl rfl 35 _ HRD.out aR rfl (eU _) ?_;intro w9 h9 k9))
     have hrl:=HRL.out;have hc0:=HC0.out;have hbb:=HBB.out;have hgc:w.grownBy wC (some rb):=nX HGB.out HGC.out fun X e=>by have:=aN e;omega
     have hsC:=HGC.out.size;have hkqC:Kq (nL C0 (.slice ua lz uc) wr) wr wC:=Kq.trans (Kq.later HBW.out) (Kq.grown HGC.out fun X e h=>by have:=aN e;have:=h.2.1;omega);have hvl:=HVL.out.imp hkqC fun g h _=>(h.1:C0<g)
     have hdv:=HDV.out.imp hkqC fun g h _=>(h.1:C0<g)
     rw[HYS.out]at hvl hdv;have hib:=HBC.out;rw[HYS.out]at hib;have hva:VAt (fun g=>C0<g) wC (cU (.nd 6 n t ks xs)) ⟨6,n,t,some ⟨b,0,none⟩⟩:=aNK uAu hvl hib hs (.inl ⟨rfl,rfl⟩) (by rw[<-HYS.out];exact HFC.out.weak fun g h=>by omega) hdv (by rw[<-HYS.out];exact HND6.out);have hk9:Kq (fun g=>C0<g) wD w9:=Kq.only k9 uAu;exact bF (bU rfl _ _ (w.heap.size+1) 35 _ (0,0) _ rfl h9 Tryz.underlying35 rfl aR) rfl ⟨⟨6,n,t,some ⟨b,0,none⟩⟩,rfl,((hva.later (tW HBL.out HBD.out)).imp hk9 fun g h _=>h).weak (fun g h=>by omega),k9.other HND.out uAu,lS (cJ hgc (dO (tW HBL.out HBD.out) _)) k9 uAu⟩
    ·obtain rfl:L=(m',6):=by
      rw[HLL.out];exact if_pos ⟨rfl,hnd⟩
     have hlt:(LM:Int)<(lz:Int):=by
      have h1:LM≠lz:=fun e=>hnd (hml.2.1 e)
      have:=hml.1;omega
     clear hpu HLL hln hal hbb hc0 hvb hml hzf hzl hLM hlz hnd;go_wp2_with (first
      |(refine bR rfl 28 _ rfl w.heap.size rfl 28 _ _ _ HXB.out Tryz.underlying28 rfl jF ?_)
      |(go_at_call 96;(with_reducible refine HFL.out.mono ?_);rintro e wC ⟨rfl,fc,hrc,hbc,hgc⟩;have HFC:=iH hrc;have HBC:=iH hbc;have HGC:=iH hgc;have HXC:=iH ((hgc.block _ (gZ HXB.out) (fun e=>by have h:=HBB.out;have h2:=HC0.out;have h3:=HRL.out;have:=aN e;omega)).trans HXB.out);have ckC:=aK HXC.out (j:=0) (v:=.int .i64 6) rfl;have HRC:=iH ((hgc.block _ (gZ HRB2.out) (fun e=>by have h:=HBB.out;have h2:=HC0.out;have h3:=HRL.out;have:=aN e;omega)).trans HRB2.out);have HNC:=iH ((hgc.block _ (gZ HRBB.out) (fun e=>by have h:=HBB.out;have h2:=HC0.out;have h3:=HRL.out;have:=aN e;omega)).trans HRBB.out);clear hrc hbc hgc)
      |(refine aHM uAz 98 _ rfl b 4 rfl fc _ (oV rfl HFC.out.size HBC.out) Tryz.underlying98 rfl (by rw[HFC.out.size];exact fV) ?_)
      |(go_at_call 90;(with_reducible refine(aGX _ HFC.out).mono ?_);rintro e wL ⟨rfl,hbL⟩;rw[<-HLM.out];have HBL:=iH hbL;have HXL:=iH (kW hbL HXC.out);have HRLL:=iH (kW hbL HRC.out);have HNL:=iH (kW hbL HNC.out);clear hbL)
      |(refine bV rfl 35 _ _ rfl (w.heap.size+1) #[.int .i64 0,.int .i64 0,.string ⟨#[]⟩,.pointer none] rfl rfl 35 _ HRLL.out aR rfl uAy ?_;intro w9 h9 k9))
     have hrl:=HRL.out;have hbb:=HBB.out;have hgc:w.grownBy wC (some rb):=nX HGB.out HGC.out fun X e=>by have:=aN e;have:=HC0.out;omega
     exact bF (bU rfl _ _ (w.heap.size+1) 35 _ (0,0) _ rfl h9 Tryz.underlying35 rfl aR) rfl ⟨gT,rfl,mI _ _,k9.other HNL.out uAu,lS (cJ hgc (dO HBL.out _)) k9 uAu⟩
end Go.Proofs.YtengibnpebfblaaGreatDoor
