import Derived.Test.YthmfgidbcghnfaaGreatDoorQ0
import Derived.Test.YthmfgidbcghnfaaGreatDoorQ22
import Derived.Test.YthmfgidbcghnfaaGreatDoorQ26
import Derived.Test.YthmfgidbcghnfaaGreatDoorQ27
set_option maxRecDepth 1000000
set_option maxHeartbeats 8000000
set_option linter.unusedSimpArgs false
namespace Go.Proofs.YthmfgidbcghnfaaGreatDoor
open Go.RowKit
def mS (k n:Int) (t:ByteArray):Nat:=if k=0 then 4 else if k=1 then 5 else if k=2 then(Lib.itoa n).length else if k=3 then(gI (kb t)).length else 2
def mK:List ByteArray->Nat
 |[]=>0
 |z::r=>(gI (kb z)).length+1+mK r
mutual
def mT:Tr->Nat
 | .nd k n t ks xs=>mS k n t+(mK ks+mL xs)
def mL:List Tr->Nat
 |[]=>0
 |x::r=>mT x+1+mL r
end
theorem aTj (a b:List ByteArray):mK (a++b)=mK a+mK b:=by
 induction a with
 |nil=>rw[aT,mK];omega
 |cons x a ih=>rw[aP,mK,mK,ih];omega
theorem aOK (a b:List Tr):mL (a++b)=mL a+mL b:=by
 induction a with
 |nil=>rw[aT,mL];omega
 |cons x a ih=>rw[aP,mL,mL,ih];omega
theorem aRu {a b:List ByteArray} (h:a.Perm b):mK a=mK b:=by
 induction h with
 |nil=>rfl
 |cons x _ ih=>rw[mK,mK,ih]
 |swap x y l=>rw[mK,mK,mK,mK];omega
 |trans _ _ h1 h2=>rw[h1,h2]
theorem aKs {a b:List Tr} (h:a.Perm b):mL a=mL b:=by
 induction h with
 |nil=>rfl
 |cons x _ ih=>rw[mL,mL,ih]
 |swap x y l=>rw[mL,mL,mL,mL];omega
 |trans _ _ h1 h2=>rw[h1,h2]
theorem aOJ {f:Tr->Tr}:∀{l:List Tr},(∀x∈l,mT (f x)<=mT x)->mL (l.map f)<=mL l
 |[],_=>aA _
 |x::l,h=>by
  have h1:=h x (aZ ..);have h2:=aOJ (l:=l) fun y hy=>h y (bF _ hy)
  rw[cA,mL,mL];omega
theorem aI5 {k:Int}:∀{xs:List Tr} {ks:List ByteArray},(∀x∈xs,(eY x).length<=mT x)->(k=5->ks.length=xs.length)->(nK k ks xs).length<=(if k=5 then mK ks else 0)+mL xs
 |[],ks,_,_=>by rw[nK];simp
 |x::r,ks,hx,hl=>by
  have h1:=hx x (aZ ..);have h2:=aI5 (k:=k) (xs:=r) (ks:=ks.tail) (fun y hy=>hx y (bF _ hy)) (fun e=>by have:=hl e;rw[List.length_tail,this];rfl);rw[nK,mL];by_cases hk:k=5
  ·have:=hl hk
   cases ks with
   |nil=>simp at this
   |cons z zs=>
    rw[if_pos hk]at h2;rw[if_pos hk,if_pos hk,mK];simp only[yB,aDv,aD,aB,aK]at h2 ⊢;omega
  ·rw[if_neg hk]at h2
   rw[if_neg hk,if_neg hk];simp only[aD,aB,aK];omega
theorem aPw {k:Int} {xs:List Tr} {ks:List ByteArray} (hx:∀x∈xs,(eY x).length<=mT x) (hl:k=5->ks.length=xs.length):(kU k ks xs).length<=(if k=5 then mK ks else 0)+mL xs:=by
 cases xs with
 |nil=>rw[kU];simp
 |cons x r=>
  have h:=aI5 (k:=k) (xs:=x::r) hx hl;rw[nV,aD]at h;omega
theorem aKR (a:Tr):kL a->(eY a).length<=mT a:=by
 induction a using kD with
 |h k n t ks xs ih=>
  intro hg;rw[mT];rcases qX hg with⟨h1,h2,_⟩|⟨_,_,h3,h4,h5,_⟩
  ·simp only[Tr.k,Tr.n,Tr.t]at h1 h2
   rcases xM _ h2 with e|e|e|⟨m,e⟩|⟨s,e⟩<;>simp only[cZ]at e<;>obtain⟨rfl,rfl,e⟩:=e
   ·rw[eY];exact tK _ _
   ·rw[eY];exact tK _ _
   ·rw[eY];exact aI (show([116,114,117,101]:List UInt8).length<=5 by decide) (tK _ _)
   ·rw[eY];exact tK _ _
   ·rw[eY];exact tK _ _
  ·simp only[Tr.k,Tr.n,Tr.t,Tr.ks,Tr.xs]at h3 h4 h5
   rw[pG h3];have h:=aPw (k:=k) (xs:=xs) (ks:=ks) (fun x hx=>ih x hx (hg.part hx)) (fun e=>(h5 e).1);have hm:mS k n t=2:=by unfold mS;rw[if_neg hO,if_neg hO,if_neg hO,if_neg hO]
   rw[hm];simp only[aD,aB,aK];split at h<;>omega
theorem aSe (a:Tr):OkT a->mT (cP a)<=mT a:=by
 induction a using kD with
 |h k n t ks xs ih=>
  intro ho;rw[rO]at ho;simp only[Tr.k,Tr.n,Tr.t,Tr.ks,Tr.xs]at ho;have hm:mL (xs.map cP)<=mL xs:=aOJ fun x hx=>ih x hx (ho.2.1 x hx)
  rw[cP,kJ];by_cases h5:k=5
  ·rw[if_pos h5,mT,mT]
   have hl:ks.length=(xs.map cP).length:=by
    rw[aM];rcases aAl.1 ho.1 with⟨_,h,_⟩|⟨_,_,⟨h,_⟩|⟨_,h,_⟩|⟨h,_⟩⟩<;>simp only[Tr.k,Tr.ks,Tr.xs]at h<;>first|omega|exact h
   have p1:=(iG (f:=kbF) (ks.zip (xs.map cP))).map (·.1);have p2:=(iG (f:=kbF) (ks.zip (xs.map cP))).map (·.2);rw[tM _ _ hl]at p1;rw[aBo _ _ hl]at p2;rw[aRu p1,aKs p2];omega
  ·rw[if_neg h5]
   by_cases h6:k=6
   ·rw[if_pos h6,mT,mT,aKs (iG (f:=dW) (xs.map cP)),mK]
    omega
   ·rw[if_neg h6,mT,mT,mK]
    omega
theorem aKO {t:Tok} (hl:(jN t.r).length+1+4*t.a<=4*t.e) {k i:Int} {x:List UInt8} (h:hdS t=some (k,i,x,false)):
  mS k i ⟨x.toArray⟩+4*t.a<=4*t.e/\x.length<=t.t.length:=by
 obtain⟨tk,ta,te,tn,tt⟩:=t;simp only[Tok.r]at hl;unfold hdS at h;simp only at h hl ⊢
 repeat' split at h
 all_goals simp only[bA,cZ,reduceCtorEq,and_false,Bool.true_eq_false]at h
 ·rename_i e
  obtain⟨rfl,rfl,rfl,_⟩:=h;subst e;have hp:jN ⟨3,tn,tt⟩=Lib.itoa tn:=rfl;rw[hp]at hl;exact⟨by show(Lib.itoa tn).length+_<=_;omega,aS _⟩
 ·rename_i e
  obtain⟨rfl,rfl,rfl,_⟩:=h;subst e;have hp:jN ⟨4,tn,tt⟩=gI tt:=rfl;have hk:kb (⟨tt.toArray⟩:ByteArray)=tt:=by simp[kb]
  rw[hp]at hl;exact⟨by show(gI (kb (⟨tt.toArray⟩:ByteArray))).length+_<=_;rw[hk];omega,aA _⟩
 all_goals
  rename_i e1
  obtain⟨rfl,rfl,rfl,_⟩:=h;have e2:tk=2:=by assumption
  subst e2;have hp:∀q,jN ⟨2,tn,q⟩=q:=fun _=>rfl
  subst e1;rw[hp]at hl;simp only[aD,aK]at hl;exact⟨by first|(show 4+_<=_;omega)|(show 5+_<=_;omega),aS _⟩
theorem aBw {l:List UInt8} {a:Nat} {t:Tok} (h:nxR l a=.ok t):(jN t.r).length+1+4*t.a<=4*t.e/\t.t.length+t.a<=t.e:=by
 obtain⟨h1,h2,rfl,_⟩:=aCr h;exact aEt l a h1 h2
theorem aKh {l:List UInt8} {k:Int} {a b:Nat} (ha:a<=l.length) {seen bj:List (List UInt8)} {ks kt:List ByteArray} (h:rdK l k a seen ks=.ok (b,bj,kt)):
  mK kt+4*a<=mK ks+4*b/\a<=b/\b<=l.length/\((∀z∈ks,z.size<=l.length)->∀z∈kt,z.size<=l.length):=by
 unfold rdK at h;by_cases hk:k=5
 ·rw[if_pos hk]at h
  cases h1:nxR l a with
  |error q=>rw[h1]at h;cases h
  |ok y=>
   rw[h1]at h;simp only at h;by_cases h2:y.k≠4
   ·rw[if_pos h2]at h;cases h
   ·rw[if_neg h2]at h
    have Hd:y.k=4:=eE h2;by_cases h3:y.t∈seen
    ·rw[if_pos h3]at h;cases h
    ·rw[if_neg h3]at h
     cases h4:nxR l y.e with
     |error q=>rw[h4]at h;cases h
     |ok c=>
      rw[h4]at h;simp only at h;by_cases h5:isS c 58=true
      ·rw[if_pos h5]at h
       simp only[cM,cZ]at h;obtain⟨rfl,_,rfl⟩:=h;have hz:kb (⟨y.t.toArray⟩:ByteArray)=y.t:=by simp[kb]
       obtain⟨y1,y2,y3⟩:=jP ha h1;obtain⟨c1,c2,c3⟩:=jP y3 h4;obtain⟨n1,n2⟩:=aBw h1;have hp:jN y.r=gI y.t:=by unfold jN Tok.r;simp[Hd]
       rw[hp]at n1;refine⟨?_,by omega,c3,fun gv z Bw=> ?_⟩
       ·rw[aTj,mK,mK,hz];omega
       ·rcases dL.1 Bw with Bw|Bw
        ·exact gv z Bw
        ·rw[bV.1 Bw]
         show y.t.toArray.size<=_;rw[bI];omega
      ·rw[if_neg h5]at h;cases h
 ·rw[if_neg hk]at h
  simp only[cM,cZ]at h;obtain⟨rfl,_,rfl⟩:=h;exact⟨aA _,aA _,ha,fun h=>h⟩
theorem wW {B:Nat} {k:Int} {ks:List ByteArray} {xs:List Tr} (h1:∀z∈ks,z.size<=B) (h2:∀x∈xs,kK B x):kK B (.nd k 0 ⟨#[]⟩ ks xs):=fO.2 ⟨aS _,h1,h2⟩
theorem aCA {α:Type} {p:α->Prop} {xs:List α} {x:α} (h:∀y∈xs,p y) (hx:p x):∀y∈xs++[x],p y:=fun y hy=>by
 rcases dL.1 hy with hy|hy
 ·exact h y hy
 ·rw[bV.1 hy];exact hx
theorem aBt (l:List UInt8):∀f,(∀d a n R,a<=l.length->rdV l f d a n=.ok R->mT R.t+4*R.a<=4*R.e/\a<=R.a/\R.e<=l.length/\kK l.length R.t)/\
  (∀k d a n seen ks xs R,(k=4\/k=5\/k=6)->a<=l.length->(∀z∈ks,z.size<=l.length)->(∀x∈xs,kK l.length x)->rdP l f k d a n seen ks xs=.ok R->
   mT R.t+4*a<=2+mK ks+mL xs+4*R.e/\R.e<=l.length/\kK l.length R.t):=by
 have Cg:∀{k:Int},(k=4\/k=5\/k=6)->∀t,mS k 0 t=2:=fun hk t=>by
  unfold mS;exact Al2
 intro f;induction f with
 |zero=>exact⟨(fun d a n R _ h=>by rw[rdV]at h;cases h),(fun k d a n seen ks xs R _ _ _ _ h=>by rw[rdP]at h;cases h)⟩
 |succ f ih=>
  refine⟨fun d a n R ha h=> ?_,fun k d a n seen ks xs R hk ha gv uk h=> ?_⟩
  ·rw[rdV]at h
   cases h1:nxR l a with
   |error q=>rw[h1]at h;cases h
   |ok t=>
    rw[h1]at h;simp only at h;obtain⟨t1,t2,t3⟩:=jP ha h1;obtain⟨n1,n2⟩:=aBw h1;have hg:=(aCr h1).2.2.2;cases h2:hdS t with
    |none=>rw[h2]at h;cases h
    |some y=>
     obtain⟨k,i,x,p⟩:=y;rw[h2]at h;simp only at h;by_cases hd:64<d
     ·rw[if_pos hd]at h;cases h
     ·rw[if_neg hd]at h
      by_cases hn:16384<n+1
      ·rw[if_pos hn]at h;cases h
      ·rw[if_neg hn]at h
       rcases aCQ hg h2 with⟨rfl,_⟩|⟨rfl,hk⟩
       ·rw[if_pos rfl]at h
        simp only[cM]at h;subst h;obtain⟨m1,m2⟩:=aKO n1 h2;refine⟨?_,t1,t3,fO.2 ⟨?_,(fun z hz=>by cases hz),(fun z hz=>by cases hz)⟩⟩
        ·rw[mT,mK,mL];exact m1
        ·show x.toArray.size<=_
         rw[bI];omega
       ·rw[if_neg uAy]at h
        cases h3:nxR l t.e with
        |error q=>rw[h3]at h;cases h
        |ok u=>
         rw[h3]at h;simp only at h;obtain⟨u1,u2,u3⟩:=jP t3 h3;by_cases h4:isS u (kR k)=true
         ·rw[if_pos h4]at h
          simp only[cM]at h;subst h;refine⟨?_,t1,u3,wW (fun z hz=>by cases hz) (fun z hz=>by cases hz)⟩;rw[mT,mK,mL,Cg hk];simp only;omega
         ·rw[if_neg h4]at h
          cases h5:rdP l f k d t.e (n+1) [] [] []with
          |error q=>rw[h5]at h;cases h
          |ok r=>
           rw[h5]at h;simp only[cM]at h;subst h;obtain⟨e1,e2,e3⟩:=ih.2 k d t.e (n+1) [] [] [] r hk t3 (fun z hz=>by cases hz) (fun z hz=>by cases hz) h5;rw[mK,mL]at e1;exact⟨by simp only;omega,t1,e2,e3⟩
  ·rw[rdP]at h
   cases h1:rdK l k a seen ks with
   |error q=>rw[h1]at h;cases h
   |ok y=>
    obtain⟨b,bj,kt⟩:=y;rw[h1]at h;simp only at h;obtain⟨k1,k2,k3,k4⟩:=aKh ha h1;cases h2:rdV l f (d+1) b n with
    |error q=>rw[h2]at h;cases h
    |ok r=>
     rw[h2]at h;simp only at h;obtain⟨v1,v2,v3,v4⟩:=ih.1 (d+1) b n r k3 h2;by_cases h3:k=6/\dW (cP r.t)∈bj
     ·rw[if_pos h3]at h;cases h
     ·rw[if_neg h3]at h
      cases h4:nxR l r.e with
      |error q=>rw[h4]at h;cases h
      |ok u=>
       rw[h4]at h;simp only at h;obtain⟨u1,u2,u3⟩:=jP v3 h4;by_cases h5:isS u 44=true
       ·rw[if_pos h5]at h
        obtain⟨e1,e2,e3⟩:=ih.2 k d u.e r.n _ kt (xs++[r.t]) R hk u3 (k4 gv) (aCA uk v4) h;rw[aOK,mL,mL]at e1;exact⟨by omega,e2,e3⟩
       ·rw[if_neg h5]at h
        by_cases h6:isS u (kR k)=true
        ·rw[if_pos h6]at h
         simp only[cM]at h;subst h;refine⟨?_,u3,wW (k4 gv) (aCA uk v4)⟩;rw[mT,aOK,mL,mL,Cg hk];simp only;omega
        ·rw[if_neg h6]at h;cases h
theorem aNB {B:Nat} (a:Tr):OkT a->kK B a->kK B (cP a):=by
 induction a using kD with
 |h k n t ks xs ih=>
  intro ho ht;rw[rO]at ho;obtain⟨h1,h2,h3⟩:=fO.1 ht;simp only[Tr.k,Tr.n,Tr.t,Tr.ks,Tr.xs]at ho h1 h2 h3;have hp:∀y∈xs.map cP,kK B y:=fun y hy=>by
   exact Al0
  rw[cP,kJ];split
  ·refine fO.2 ⟨h1,fun z hz=> ?_,fun y hy=> ?_⟩
   ·obtain⟨q,hq,rfl⟩:=dH.1 (show z∈(oE kbF (ks.zip (xs.map cP))).map (·.1)from hz)
    exact h2 _ (uZ ((iG (f:=kbF) (ks.zip (xs.map cP))).mem_iff.1 hq)).1
   ·obtain⟨q,hq,rfl⟩:=dH.1 (show y∈(oE kbF (ks.zip (xs.map cP))).map (·.2)from hy)
    exact hp _ (uZ ((iG (f:=kbF) (ks.zip (xs.map cP))).mem_iff.1 hq)).2
  ·split
   ·exact fO.2 ⟨h1,(fun z hz=>by cases hz),fun y hy=>hp y ((iG (f:=dW) (xs.map cP)).mem_iff.1 hy)⟩
   ·exact fO.2 ⟨h1,(fun z hz=>by cases hz),hp⟩
theorem aEe {l:List UInt8} {a:Nat} (ha:a<=l.length) {y:Tr×Nat} (h:mG l a=.ok y):(eY y.1).length<=4*l.length/\kK l.length y.1:=by
 unfold mG at h;cases h1:rdV l (2*l.length+2) 1 a 0 with
 |error q=>rw[h1]at h;cases h
 |ok R=>
  rw[h1]at h;simp only[cM]at h;subst h;obtain⟨⟨o1,o2⟩,_⟩:=(aHb l _).1 1 a 0 R hO h1;obtain⟨r1,r2,r3,r4⟩:=(aBt l _).1 1 a 0 R ha h1;have h2:=aKR _ (aDf R.t o1 o2);have h3:=aSe R.t o1;exact⟨by simp only;omega,aNB R.t o1 r4⟩
theorem aOz {S:Nat->Prop} {s:Nat} {n:Int} {L:List Ent} {c:Array Value} (w:World) (h:fG S w s n L c):Calls Tryz.prog 64 #[.agg c] w fun r w'=>r=.returned (.int .i64 (L.length:Int))/\Below w.heap.size w w':=by
 obtain⟨bb,a1,n1,c1,a2,n2,c2,rfl,_⟩:=h;exact aTB w s n L.length bb a1 n1 c1 a2 n2 c2
theorem aR1 {S:Nat->Prop} {c:Array Value} {l:List Cel} (w:World) (h:cW S w c l):Calls Tryz.prog 63 #[.agg c] w fun e w'=>e=.returned (.int .i64 (l.length:Int))/\Below w.heap.size w w':=
 (aFz w h).mono fun _ _ ⟨h1,h2⟩=>⟨h1,by rw[h2];exact Below.newly' _ _⟩
theorem fF {w w':World} {b o:Nat} {cs:List Value} (h:w.rangeAt b o cs) (hb:Below w.heap.size w w'):w'.rangeAt b o cs:=nJ h hb
theorem dQ {w w':World} {a:Addr} {v:Value} (h:w.cell? a=some v) (hb:Below w.heap.size w w'):w'.cell? a=some v:=(hb.cell (aO w _ h)).trans h
theorem aFh {S:Nat->Prop} (w:World) (a:Tr) (x:Cel) (ha:fQ a) (hv:VAt S w a x):Calls Tryz.prog 37 #[.agg (aL x)] w fun r w'=>r=.returned (.int .i64 ((a.xs.length:Nat):Int))/\Below w.heap.size w w':=by
 obtain⟨w1,ag⟩:∃w1,w.alloc (.cells (aL x) 37)=w1:=⟨_,rfl⟩
 obtain⟨af,ai,al⟩:=fH ag;have cp:w1.cell? ⟨w.heap.size,3,none⟩=some (.pointer x.p):=aG ai rfl;have HB1:=iH af;by_cases h3:a.k<=3
 ·have hp:=hv.leaf h3
  rw[(ha.leaf h3).2];rw[hp]at cp;clear ai af al hv ha hp;go_enter Tryz.func37,Tryz.ntmps37;exact Ah7
 ·obtain⟨b,l,hp,_,J0,rc,mc,d,fr,s,n,h1,_,tm,h4,h5⟩:=(hv.later af).parts hO
  rw[hp]at cp;obtain⟨e1,e2,e3⟩:=aMm ha (gD J0) hO;have HL:=iH (fun W (hb:Below w1.heap.size w1 W)=>aR1 W (tm.later hb));have HM:=iH (fun W (hb:Below w1.heap.size w1 W)=>aOz W (h4.later hb));have HC:=iH (And.intro cp (And.intro (sQ tm.size h1) (sR tm.size h4.size h1)));have HZ:=iH (And.intro tm.size h4.size);rw[<-e1];obtain⟨p,wt⟩:∃p,p=(sP a.k l).length:=⟨_,rfl⟩
  obtain⟨q,Om⟩:∃q,q=(nR a.k a.ks a.xs l).length:=⟨_,rfl⟩
  rw[<-wt]at HL e2 ⊢;rw[<-Om]at HM e3 ⊢;have JM:Hid (IntKind.i64.wrap ((p:Int)+(q:Int))=((p+q:Nat):Int)):=by show _=_;rw[jM]<;>omega
  clear ai af al hv ha hp h1 tm h4 h5 wt Om e1 e2 e3 J0;go_enter Tryz.func37,Tryz.ntmps37;go_upto_region 1 with fail
  clear ag;go_upto_region 3 with fail
  clear cp;have ar:Hid (∀V,Below w1.heap.size w1 V->V.cell? ⟨w.heap.size,3,none⟩=some (.pointer (some ⟨b,0,none⟩))/\V.rangeAt b 0 rc.toList/\V.rangeAt b 4 mc.toList):=fun V hV=>⟨dQ HC.out.1 hV,fF HC.out.2.1 hV,fF HC.out.2.2 hV⟩
  have HW:Hid (Below w1.heap.size w1 w1.drew):=aY w1;refine bO (S:=(fun V=>V.cell? ⟨w.heap.size,3,none⟩=some (.pointer (some ⟨b,0,none⟩))/\V.rangeAt b 0 rc.toList/\V.rangeAt b 4 mc.toList)) [] uAu uAw (fun ab=> ?_);refine tkA 0 6 (h:=?_);refine tkA 1 7 (h:=?_);(try simp only[pq]);refine tkA 2 8 (h:=?_);refine tkA 3 9 (h:=?_);(try simp only[pq]);refine tyA 4 10 (hy:=dX uAz 127 _ rfl b 0 rfl rc _ (fun w hw=>hw.2.1) Tryz.underlying127 rfl uKy) (h:=?_);refine tkA 6 12 (h:=?_);(try simp only[pq]);refine tkA 7 13 (h:=?_);refine tkA 8 14 (h:=?_);(try simp only[pq]);refine tkA 9 15 (h:=?_);refine tyA 10 16 (hy:=dX uAz 136 _ rfl b 4 rfl mc _ (fun w hw=>hw.2.2) Tryz.underlying136 rfl uTx) (h:=?_);(try simp only[pq]);refine tkO 5 (some 11) (h:=fun K hK=> ?_);go_simp;go_at_call 63;(with_reducible refine(HL.out _ uBx).mono ?_);rintro r w3 ⟨rfl,hb⟩;replace HW:=iH (tW HW.out hb);clear hb;dsimp only;refine hK.out _ _ uAw (fun ab=> ?_);clear hK K;(try simp only[pq]);refine tkO 11 (some 17) (h:=fun K hK=> ?_);go_simp;go_at_call 64;(with_reducible refine(HM.out _ uBx).mono ?_);rintro r w4 ⟨rfl,hb⟩;replace HW:=iH (tW HW.out hb);clear hb;dsimp only;refine hK.out _ _ uAw (fun ab=> ?_);clear hK K;(try simp only[pq]);refine tkA 12 18 (h:=?_);refine tkA 13 2 (h:=?_);(try simp only[pq]);refine bJ uAu ?_ _;clear ab;go_wp2_with fail
  go_ret;exact⟨by show _=Ending.returned (.int .i64 ((p+q:Nat):Int));rw[<-JM.out];rfl,tW HB1.out HW.out⟩
def zB (a:Tr) (i:Int) (u:ByteArray):Tr:=match atT a i u with|none=>jH|some j=>(a.xs[j]?).getD jH
theorem aRe {S:Nat->Prop} {w:World} {a:Tr} {l:List Cel} (h:iN S w a.xs l) (i:Int) (u:ByteArray):VAt S w (zB a i u) (((atT a i u).bind fun j=>l[j]?).getD gO):=by
 unfold zB;cases e:atT a i u with
 |none=>exact lT _ _
 |some j=>
  rw[lH];show VAt S w ((a.xs[j]?).getD jH) _;cases e2:l[j]? with
  |none=>
   rw[List.getElem?_eq_none (by have:=List.getElem?_eq_none_iff.1 e2;rw[gD h]at this;exact this)];exact lT _ _
  |some c=>
   obtain⟨z,hz,hv⟩:=aGI h e2;rw[hz];exact hv
theorem aSl {S:Nat->Prop} {w:World} {a:Tr} {l:List Cel} (ha:fQ a) (h:iN S w a.xs l) (i:Int) (u:ByteArray):((atT a i u).bind fun j=>l[j]?).isSome=(atT a i u).isSome:=by
 cases e:atT a i u with
 |none=>rfl
 |some j=>
  have hj:=aSI ha.1.1 e;rw[lH,List.getElem?_eq_getElem (by rw[gD h];exact hj)];rfl
theorem aNs {S:Nat->Prop} (w:World) (a:Tr) (x:Cel) (b:Nat) (ha:fQ a) (hv:VAt S w a x) (hp:x.p=some ⟨b,0,none⟩) (s i:Int) (u:ByteArray) (hs:sS a.k s=0) (hu:u.size<=9223372036854775800):
  Calls Tryz.prog 245 #[.pointer (some ⟨b,0,none⟩),.agg #[.int .i64 s,.int .i64 i,.string u]] w fun r w'=>∃y,r=.returned (.tuple #[.agg (aL y),.bool (atT a i u).isSome])/\VAt S w' (zB a i u) y/\Below w.heap.size w w':=by
 obtain⟨w1,ag⟩:∃w1,(w.alloc (.cells #[.int .i64 s,.int .i64 i,.string u] 99)).alloc (.cells #[.int .i64 0,.int .i64 0,.string ⟨#[]⟩,.pointer none] 37)=w1:=⟨_,rfl⟩
 obtain⟨af,ai,aw,al⟩:=fL ag;have h4:4<=a.k:=by rcases oJ hs with⟨_,h⟩|⟨_,h⟩|⟨_,h⟩<;>omega
 obtain⟨b',l,wt,_,J0,rc,mc,d,fr,sd,n,h1,An,hr,hm,h5⟩:=hv.parts h4;obtain rfl:b=b':=by rw[hp]at wt;simpa using wt
 have hY:=aRe J0 i u;have hB:=aSl ha J0 i u;have hZ:rc.size=4/\mc.size=6:=⟨hr.size,hm.size⟩
 have an:=gD J0;have CU:=ha.len;replace h1:=kW af h1;have cs:w1.cell? ⟨w.heap.size,0,none⟩=some (.int .i64 s):=aG ai rfl;have HC:=iH (And.intro (show w1.cell? ⟨w.heap.size,1,none⟩=some (.int .i64 i)from aG ai rfl) (And.intro (show w1.cell? ⟨w.heap.size,2,none⟩=some (.string u)from aG ai rfl) (And.intro (sQ hZ.1 h1) (sR hZ.1 hZ.2 h1))));obtain⟨y,hy⟩:∃y,y=((atT a i u).bind fun j=>l[j]?).getD gO:=⟨_,rfl⟩
 obtain⟨is,Dm⟩:∃is,is=(atT a i u).isSome:=⟨_,rfl⟩
 have HG:Hid (s=0->∀W,Below w1.heap.size w1 W->Calls Tryz.prog 271 #[.agg rc,.int .i64 i] W fun r W'=>r=.returned (.tuple #[.agg (aL y),.bool is])/\Below W.heap.size W W'):=fun h0 W hW=>by
  have gn:a.k=4:=by rcases oJ hs with⟨_,h⟩|⟨h,_⟩|⟨h,_⟩<;>omega
  have o9:cW S W rc l:=by have:=hr.later (tW af hW);rw[sP,if_pos gn]at this;exact this
  have hat:atT a i u=if 0<=i/\i<l.length then some i.toNat else none:=by unfold atT;rw[if_pos gn,an]
  have:=aT3 W o9 i hO;have e1:(if 0<=i/\i<(l.length:Int)then l.getD i.toNat gO else gO)=y:=by
   rw[hy,hat];split
   ·rw[lH,List.getD_eq_getElem?_getD]
   ·rfl
  have e2:decide (0<=i/\i<(l.length:Int))=is:=by
   rw[Dm,hat];split
   ·rename_i h;rw[gT h];rfl
   ·rename_i h;rw[dB h];rfl
  rw[e1,e2]at this;exact this
 have Yk:Hid (s≠0->∀W,Below w1.heap.size w1 W->Calls Tryz.prog 272 #[.agg mc,.string u] W fun r W'=>r=.returned (.tuple #[.agg (aL y),.bool is])/\Below W.heap.size W W'):=fun h0 W hW=>by
  have CV:a.k=5\/a.k=6:=by rcases oJ hs with⟨h,_⟩|⟨_,h⟩|⟨_,h⟩<;>omega
  obtain⟨k1,k2,_⟩:=ha.mkeys CV;have hl:=nH k2 (k1.trans an.symm);have:=aTC W sd An n _ mc u hu (hm.later (tW af hW)) hl (by rw[nR,kP];omega);rw[nR,aRQ k2 (k1.trans an.symm),<-aGk CV i,<-hy,hB,<-Dm]at this;exact this
 rw[<-hy]at hY;rw[<-Dm];have HY:=iH hY;have bl:=iH aw;have HB1:=iH af;have HS1:=iH al;have HZ:=iH hZ;by_cases h0:s=0
 replace HG:=iH (HG.out h0)
 subst h0;clear hs ai aw af al ha hv hp wt J0 h1 An hr hm h5 hY hB hZ an CU hy Dm Yk h4 hu;focus go_enter Tryz.func245,Tryz.ntmps245;focus go_upto_region 1 with fail
 clear ag;focus go_upto_region 2 with fail
 clear cs;have ar:Hid (∀V,Below w1.heap.size w1 V->V.cell? ⟨w.heap.size,1,none⟩=some (.int .i64 i)/\V.rangeAt b 0 rc.toList):=fun V hV=>⟨dQ HC.out.1 hV,fF HC.out.2.2.1 hV⟩
 have HW:Hid (Below w1.heap.size w1 w1.drew):=aY w1;refine bO (S:=(fun V=>V.cell? ⟨w.heap.size,1,none⟩=some (.int .i64 i)/\V.rangeAt b 0 rc.toList)) [9,10] uAu uAw (fun ab=> ?_);refine tkA 0 9 (h:=?_);refine tkA 1 10 (h:=?_);(try simp only[pq]);refine tkA 2 11 (h:=?_);refine tyA 3 12 (hy:=dX uAz 127 _ rfl b 0 rfl rc _ (fun w hw=>hw.2) Tryz.underlying127 rfl uKy) (h:=?_);(try simp only[pq]);refine tkA 4 13 (h:=?_);refine tkA 5 14 (h:=?_);(try simp only[pq]);refine tkO 6 (some 15) (h:=fun K hK=> ?_);focus go_simp;focus go_at_call 271;(with_reducible refine(HG.out _ uBx).mono ?_);rintro r w3 ⟨rfl,hb⟩;replace HW:=iH (tW HW.out hb);clear hb;dsimp only;refine hK.out _ _ uAw (fun ab=> ?_);clear hK K;(try simp only[pq]);refine tkA 7 16 (h:=?_);refine tkA 8 17 (h:=?_)
 rotate_left
 replace HG:=iH (Yk.out h0)
 clear hs ai aw af al ha hv hp wt J0 h1 An hr hm h5 hY hB hZ an CU hy Dm Yk h4 hu;focus go_enter Tryz.func245,Tryz.ntmps245;focus go_upto_region 1 with fail
 clear ag;focus go_upto_region 3 with fail
 clear cs;have ar:Hid (∀V,Below w1.heap.size w1 V->V.cell? ⟨w.heap.size,2,none⟩=some (.string u)/\V.rangeAt b 4 mc.toList):=fun V hV=>⟨dQ HC.out.2.1 hV,fF HC.out.2.2.2 hV⟩
 have HW:Hid (Below w1.heap.size w1 w1.drew):=aY w1;refine bO (S:=(fun V=>V.cell? ⟨w.heap.size,2,none⟩=some (.string u)/\V.rangeAt b 4 mc.toList)) [9,10] uAu uAw (fun ab=> ?_);refine tkA 0 18 (h:=?_);refine tkA 1 19 (h:=?_);(try simp only[pq]);refine tkA 2 20 (h:=?_);refine tyA 3 21 (hy:=dX uAz 136 _ rfl b 4 rfl mc _ (fun w hw=>hw.2) Tryz.underlying136 rfl uTx) (h:=?_);(try simp only[pq]);refine tkA 4 22 (h:=?_);refine tkA 5 23 (h:=?_);(try simp only[pq]);refine tkO 6 (some 24) (h:=fun K hK=> ?_);focus go_simp;focus go_at_call 272;(with_reducible refine(HG.out _ uBx).mono ?_);rintro r w3 ⟨rfl,hb⟩;replace HW:=iH (tW HW.out hb);clear hb;dsimp only;refine hK.out _ _ uAw (fun ab=> ?_);clear hK K;(try simp only[pq]);refine tkA 7 25 (h:=?_);refine tkA 8 26 (h:=?_)
 all_goals
  (try simp only[pq]);refine tkU 9 none (h:=fun K hK=> ?_);refine eC 37 _ _ rfl (w.heap.size+1) (aL y) rfl rfl 37 _ ((HW.out.block _ uBu).trans bl.out) aF rfl (cE _) ?_;intro w5 h5 k5;refine hK.out _ _ ?_;clear hK K;(try simp only[pq]);refine tkU 10 (some 5) (h:=fun K hK=> ?_);go_simp;refine hK.out _ _ ?_;clear hK K;(try simp only[pq]);refine bJ uAu ?_ _;clear ab;go_wp2_with fail
  exact aN (aR rfl _ _ (w.heap.size+1) 37 _ (0,0) _ rfl h5 Tryz.underlying37 rfl aF) rfl ⟨y,rfl,HY.out.later ((tW HB1.out HW.out).trans (k5.below hO)),(tW HB1.out HW.out).trans (k5.below hO)⟩
end Go.Proofs.YthmfgidbcghnfaaGreatDoor
