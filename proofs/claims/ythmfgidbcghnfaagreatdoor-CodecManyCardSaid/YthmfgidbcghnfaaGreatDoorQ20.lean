import Derived.Test.YthmfgidbcghnfaaGreatDoorQ0
import Derived.Test.YthmfgidbcghnfaaGreatDoorQ19
set_option maxRecDepth 1000000
set_option maxHeartbeats 8000000
set_option linter.unusedSimpArgs false
namespace Go.Proofs.YthmfgidbcghnfaaGreatDoor
open Go.RowKit
theorem aCr {l:List UInt8} {a:Nat} {t:Tok} (h:nxR l a=.ok t):(cB l a).2.2=0/\(cB l a).1.k≠0/\t=(cB l a).1/\wO t.r:=by
 unfold nxR at h;by_cases h1:(cB l a).2.2=0
 ·rw[if_neg (by rw[h1];simp)]at h
  by_cases h2:(cB l a).1.k=0
  ·rw[if_pos h2]at h;cases h
  ·rw[if_neg h2]at h
   simp only[cM]at h;exact⟨h1,h2,h.symm,h▸aEu l a h1 h2⟩
 ·rw[if_pos h1]at h;cases h
theorem aCQ {t:Tok} (hg:wO t.r) {k i:Int} {x:List UInt8} {p:Bool} (h:hdS t=some (k,i,x,p)):
  (p=false/\0<=k/\k<=3/\iB (k,i,x)=0/\InR i)\/(p=true/\(k=4\/k=5\/k=6)):=by
 have hI:t.k=3->InR t.n:=fun h3=>by
  rcases hg with⟨h,_⟩|⟨h,_⟩|⟨_,h,_⟩|⟨h,_⟩
  ·exact absurd (h3.symm.trans h) uAv
  ·exact absurd (h3.symm.trans h) uAv
  ·exact h
  ·exact absurd (h3.symm.trans h) uAv
 unfold hdS at h
 repeat' split at h
 all_goals simp only[bA,cZ,reduceCtorEq]at h
 all_goals obtain⟨rfl,rfl,rfl,rfl⟩:=h
 ·exact .inl ⟨rfl,by decide,by decide,by simp[iB],hI uCw⟩
 ·exact .inl ⟨rfl,by decide,by decide,by simp[iB],aJt⟩
 ·exact .inl ⟨rfl,by decide,by decide,by decide,aJt⟩
 ·exact .inl ⟨rfl,by decide,by decide,by decide,by unfold InR;omega⟩
 ·exact .inl ⟨rfl,by decide,by decide,by decide,aJt⟩
 ·exact .inr ⟨rfl,.inl rfl⟩
 ·exact .inr ⟨rfl,.inr (.inl rfl)⟩
 ·exact .inr ⟨rfl,.inr (.inr rfl)⟩
theorem aO7 {l:List UInt8} {k:Int} {a b:Nat} {seen bj:List (List UInt8)} {ks kt:List ByteArray} (h:rdK l k a seen ks=.ok (b,bj,kt)):
  (k=5/\∃z,kt=ks++[z]/\bj=seen++[kb z]/\kb z∉seen)\/(k≠5/\b=a/\bj=seen/\kt=ks):=by
 unfold rdK at h;by_cases hk:k=5
 ·rw[if_pos hk]at h
  refine .inl ⟨hk,?_⟩;cases h1:nxR l a with
  |error q=>rw[h1]at h;cases h
  |ok y=>
   rw[h1]at h;simp only at h;by_cases h2:y.k≠4
   ·rw[if_pos h2]at h;cases h
   ·rw[if_neg h2]at h
    by_cases h3:y.t∈seen
    ·rw[if_pos h3]at h;cases h
    ·rw[if_neg h3]at h
     cases h4:nxR l y.e with
     |error q=>rw[h4]at h;cases h
     |ok c=>
      rw[h4]at h;simp only at h;by_cases h5:isS c 58=true
      ·rw[if_pos h5]at h
       simp only[cM,cZ]at h;obtain⟨_,e2,e3⟩:=h;have hz:kb (⟨y.t.toArray⟩:ByteArray)=y.t:=by simp[kb]
       exact⟨⟨y.t.toArray⟩,e3.symm,by rw[hz];exact e2.symm,by rw[hz];exact h3⟩
      ·rw[if_neg h5]at h;cases h
 ·rw[if_neg hk]at h
  simp only[cM,cZ]at h;exact .inr ⟨hk,h.1.symm,h.2.1.symm,h.2.2.symm⟩
theorem aOm (k n:Int) (t:ByteArray) (ks:List ByteArray) (xs:List Tr):aAm (.nd k n t ks xs)=
  if k<0\/6<k then 3
  else if k<=3 then(if ks≠[]\/xs.length≠0 then 1 else iB (k,n,kb t))
  else if n≠0\/t≠⟨#[]⟩then 1
  else if(k=5/\ks.length≠xs.length)\/(k≠5/\ks≠[])then 1
  else if¬ks.Nodup then 6 else 0:=rfl
def rT (y:Tr):Prop:=OkT y/\xR y
theorem aBv {k:Int} (hk:k=4\/k=5\/k=6) {ks:List ByteArray} {xs:List Tr} (hx:∀y∈xs,rT y) (h5:k=5->ks.length=xs.length/\ks.Nodup) (h4:k≠5->ks=[]) (h6:k=6->((lB xs).map dW).Nodup):rT (.nd k 0 ⟨#[]⟩ ks xs):=by
 refine⟨?_,?_⟩
 ·rw[OkT,aFM]
  refine⟨?_,fun y hy=>(hx y hy).1,h6⟩;rw[aOm,if_neg hO,if_neg hO,if_neg uAy,if_neg,if_neg]
  ·intro h
   by_cases gp:k=5
   ·exact h (h5 gp).2
   ·rw[h4 gp]at h;exact h lO
  ·rintro(⟨e,h⟩|⟨e,h⟩)
   ·exact h (h5 e).1
   ·exact h (h4 e)
 ·rw[xR,aC2]
  exact⟨aJt,fun y hy=>(hx y hy).2⟩
theorem aEs {k i:Int} {x:List UInt8} (h0:0<=k) (h3:k<=3) (hc:iB (k,i,x)=0) (hi:InR i):rT (.nd k i ⟨x.toArray⟩ [] []):=by
 refine⟨?_,?_⟩
 ·rw[OkT,aFM]
  refine⟨?_,(fun y hy=>by cases hy),fun h=>by omega⟩;rw[aOm,if_neg hO,if_pos h3,if_neg uAy];have hz:kb (⟨x.toArray⟩:ByteArray)=x:=by simp[kb]
  rw[hz];exact hc
 ·rw[xR,aC2]
  exact⟨hi,fun y hy=>by cases hy⟩
def aSw (k:Int) (d n:Nat) (seen:List (List UInt8)) (ks:List ByteArray) (xs:List Tr) (R:Rd):Prop:=
 ∃kz ys,R.t=.nd k 0 ⟨#[]⟩ (ks++kz) (xs++ys)/\(∀y∈ys,rT y/\gJ y+(d+1)<=65)/\R.n=n+cU ys/\R.n<=16384/\
  (k=5->kz.length=ys.length/\(∀z∈kz,kb z∉seen)/\kz.Nodup)/\(k≠5->kz=[])/\
  (k=6->(∀y∈ys,dW (cP y)∉seen)/\(ys.map fun y=>dW (cP y)).Nodup)
theorem aHb (l:List UInt8):∀f,(∀d a n R,d<=65->rdV l f d a n=.ok R->rT R.t/\gJ R.t+d<=65/\R.n=n+eW R.t/\R.n<=16384)/\
  (∀k d a n seen ks xs R,(k=4\/k=5\/k=6)->d<=64->rdP l f k d a n seen ks xs=.ok R->aSw k d n seen ks xs R):=by
 intro f;induction f with
 |zero=>exact⟨(fun d a n R _ h=>by rw[rdV]at h;cases h),(fun k d a n seen ks xs R _ _ h=>by rw[rdP]at h;cases h)⟩
 |succ f ih=>
  refine⟨fun d a n R yh h=> ?_,fun k d a n seen ks xs R hk yh h=> ?_⟩
  ·rw[rdV]at h
   cases h1:nxR l a with
   |error q=>rw[h1]at h;cases h
   |ok t=>
    rw[h1]at h;simp only at h;have hg:=(aCr h1).2.2.2;cases h2:hdS t with
    |none=>rw[h2]at h;cases h
    |some y=>
     obtain⟨k,i,x,p⟩:=y;rw[h2]at h;simp only at h;by_cases hd:64<d
     ·rw[if_pos hd]at h;cases h
     ·rw[if_neg hd]at h
      by_cases hn:16384<n+1
      ·rw[if_pos hn]at h;cases h
      ·rw[if_neg hn]at h
       rcases aCQ hg h2 with⟨rfl,h0,h3,hc,hi⟩|⟨rfl,hk⟩
       ·rw[if_pos rfl]at h
        simp only[cM]at h;subst h;refine⟨aEs h0 h3 hc hi,?_,?_,?_⟩
        ·rw[gJ,fP];omega
        ·simp only[eW,cU]
        ·simp only;omega
       ·rw[if_neg uAy]at h
        cases h3:nxR l t.e with
        |error q=>rw[h3]at h;cases h
        |ok u=>
         rw[h3]at h;simp only at h;by_cases h4:isS u (kR k)=true
         ·rw[if_pos h4]at h
          simp only[cM]at h;subst h;refine⟨aBv hk (fun y hy=>by cases hy) (fun _=>⟨rfl,lO⟩) (fun _=>rfl) (fun _=>by rw[lB];exact lO),?_,?_,?_⟩
          ·rw[gJ,fP];omega
          ·simp only[eW,cU]
          ·simp only;omega
         ·rw[if_neg h4]at h
          cases h5:rdP l f k d t.e (n+1) [] [] []with
          |error q=>rw[h5]at h;cases h
          |ok r=>
           rw[h5]at h;simp only[cM]at h;subst h;obtain⟨kz,ys,e1,e2,e3,e4,e5,e6,e7⟩:=ih.2 k d t.e (n+1) [] [] [] r hk hO h5;simp only[aT]at e1 ⊢;rw[e1];have td:∀zs:List Tr,(∀y∈zs,rT y/\gJ y+(d+1)<=65)->fP zs+(d+1)<=65:=fun zs=>by
            induction zs with
            |nil=>intro _;rw[fP];omega
            |cons z zs Xo=>
             intro hz;have:=(hz z (aZ ..)).2;have:=Xo (fun y hy=>hz y (bF _ hy));rw[fP];omega
           refine⟨aBv hk (fun y hy=>(e2 y hy).1) (fun e=>⟨(e5 e).1,(e5 e).2.2⟩) e6 (fun e=>by rw[kJ,aBH];exact(e7 e).2),?_,?_,e4⟩
           ·have:=td ys e2
            rw[gJ];omega
           ·rw[eW,e3];omega
  ·rw[rdP]at h
   cases h1:rdK l k a seen ks with
   |error q=>rw[h1]at h;cases h
   |ok y=>
    obtain⟨b,bj,kt⟩:=y;rw[h1]at h;simp only at h;have hK:=aO7 h1;cases h2:rdV l f (d+1) b n with
    |error q=>rw[h2]at h;cases h
    |ok r=>
     rw[h2]at h;simp only at h;obtain⟨v1,v2,v3,v4⟩:=ih.1 (d+1) b n r hO h2;by_cases h3:k=6/\dW (cP r.t)∈bj
     ·rw[if_pos h3]at h;cases h
     ·rw[if_neg h3]at h
      cases h4:nxR l r.e with
      |error q=>rw[h4]at h;cases h
      |ok u=>
       rw[h4]at h;simp only at h;by_cases h5:isS u 44=true
       ·rw[if_pos h5]at h
        obtain⟨kz,ys,e1,e2,e3,e4,e5,e6,e7⟩:=ih.2 k d u.e r.n _ kt (xs++[r.t]) R hk yh h;rcases hK with⟨k5,z,rfl,rfl,hz⟩|⟨k5,_,rfl,rfl⟩
        ·refine⟨z::kz,r.t::ys,by rw[e1];simp,?_,by rw[e3,v3,cU];omega,e4,fun _=> ?_,fun h=>absurd k5 h,fun h=>by omega⟩
         ·exact Ak1
         ·obtain⟨q1,q2,q3⟩:=e5 k5
          rw[if_neg hO]at q2;refine⟨by simp[q1],fun z' Bw=> ?_,List.nodup_cons.2 ⟨fun hm=> ?_,q3⟩⟩
          ·rcases bL.1 Bw with rfl|Bw
           ·exact hz
           ·exact fun hm=>q2 z' Bw (mC _ hm)
          ·exact q2 z hm (aDw _ (bV.2 rfl))
        ·refine⟨kz,r.t::ys,by rw[e1];simp,?_,by rw[e3,v3,cU];omega,e4,fun h=>absurd h k5,e6,fun k6=> ?_⟩
         ·exact Ak1
         ·obtain⟨q1,q2⟩:=e7 k6
          rw[if_pos k6]at q1;refine⟨fun y hy hm=> ?_,?_⟩
          ·rcases bL.1 hy with rfl|hy
           ·exact h3 ⟨k6,hm⟩
           ·exact q1 y hy (mC _ hm)
          ·rw[cA,List.nodup_cons]
           refine⟨fun hm=> ?_,q2⟩;obtain⟨y,hy,e⟩:=dH.1 hm;exact q1 y hy (by rw[e];exact aDw _ (bV.2 rfl))
       ·rw[if_neg h5]at h
        by_cases h6:isS u (kR k)=true
        ·rw[if_pos h6]at h
         simp only[cM]at h;subst h;rcases hK with⟨k5,z,rfl,rfl,hz⟩|⟨k5,_,rfl,rfl⟩
         ·refine⟨[z],[r.t],rfl,?_,by simp only[v3,cU];omega,v4,fun _=>⟨rfl,?_,by simp⟩,fun h=>absurd k5 h,fun h=>by omega⟩
          ·exact Am0
          ·intro y hy;rw[bV]at hy;rw[hy];exact hz
         ·refine⟨[],[r.t],by simp,?_,by simp only[v3,cU];omega,v4,fun h=>absurd h k5,fun _=>rfl,fun k6=>⟨?_,by simp⟩⟩
          ·exact Am0
          ·intro y hy hm;rw[bV]at hy;rw[hy]at hm;exact h3 ⟨k6,hm⟩
        ·rw[if_neg h6]at h;cases h
theorem jP {l:List UInt8} {a:Nat} (ha:a<=l.length) {t:Tok} (h:nxR l a=.ok t):a<=t.a/\t.a<t.e/\t.e<=l.length:=by
 obtain⟨h1,h2,rfl,_⟩:=aCr h;have:=sA l a ha h1;omega
theorem tV {l:List UInt8} {a:Nat} (ha:a<=l.length) {w:Nat} {e:Int} (h:nxR l a=.error (w,e)):w<=l.length/\e≠0:=by
 unfold nxR at h;by_cases h1:(cB l a).2.2=0
 ·rw[if_neg (by rw[h1];simp)]at h
  by_cases h2:(cB l a).1.k=0
  ·rw[if_pos h2]at h
   simp only[nP,cZ]at h;exact⟨by omega,by omega⟩
  ·rw[if_neg h2]at h;cases h
 ·rw[if_pos h1]at h
  simp only[nP]at h;have:=aOu l a ha h1;rw[h]at this h1;exact⟨this,h1⟩
def AtRd (l:List UInt8) (a:Nat):Except (Nat×Int) Rd->Prop
 | .ok R=>a<=R.a/\R.a<R.e/\R.e<=l.length
 | .error q=>q.1<=l.length/\q.2≠0
def AtP (l:List UInt8) (a:Nat):Except (Nat×Int) Rd->Prop
 | .ok R=>a<R.e/\R.e<=l.length
 | .error q=>q.1<=l.length/\q.2≠0
theorem aO8 {l:List UInt8} {k:Int} {a:Nat} (ha:a<=l.length) (seen:List (List UInt8)) (ks:List ByteArray):
  match rdK l k a seen ks with
  | .ok y=>a<=y.1/\y.1<=l.length
  | .error q=>q.1<=l.length/\q.2≠0:=by
 unfold rdK;by_cases hk:k=5
 ·rw[if_pos hk]
  cases h1:nxR l a with
  |error q=>exact tV ha h1
  |ok y=>
   obtain⟨y1,y2,y3⟩:=jP ha h1;simp only;by_cases h2:y.k≠4
   ·rw[if_pos h2];exact⟨by simp only;omega,by simp⟩
   ·rw[if_neg h2]
    by_cases h3:y.t∈seen
    ·rw[if_pos h3];exact⟨by simp only;omega,by simp⟩
    ·rw[if_neg h3]
     cases h4:nxR l y.e with
     |error q=>exact tV y3 h4
     |ok c=>
      obtain⟨c1,c2,c3⟩:=jP y3 h4;simp only;by_cases h5:isS c 58=true
      ·rw[if_pos h5];exact⟨by simp only;omega,c3⟩
      ·rw[if_neg h5];exact⟨by simp only;omega,by simp⟩
 ·rw[if_neg hk];exact⟨aA _,ha⟩
theorem aEi (l:List UInt8):∀f,(∀d a n,a<=l.length->2*(l.length-a)+1<=f->AtRd l a (rdV l f d a n))/\
  (∀k d a n seen ks xs,a<=l.length->2*(l.length-a)+2<=f->AtP l a (rdP l f k d a n seen ks xs)):=by
 intro f;induction f with
 |zero=>exact⟨(fun d a n _ h=>by omega),(fun k d a n seen ks xs _ h=>by omega)⟩
 |succ f ih=>
  refine⟨fun d a n ha hf=> ?_,fun k d a n seen ks xs ha hf=> ?_⟩
  ·rw[rdV]
   cases h1:nxR l a with
   |error q=>exact tV ha h1
   |ok t=>
    obtain⟨t1,t2,t3⟩:=jP ha h1;simp only;cases h2:hdS t with
    |none=>exact⟨by simp only;omega,by simp⟩
    |some y=>
     obtain⟨k,i,x,p⟩:=y;simp only;by_cases hd:64<d
     ·rw[if_pos hd];exact⟨by simp only;omega,by simp⟩
     ·rw[if_neg hd]
      by_cases hn:16384<n+1
      ·rw[if_pos hn];exact⟨by simp only;omega,by simp⟩
      ·rw[if_neg hn]
       by_cases hp:p=false
       ·rw[if_pos hp];exact⟨t1,t2,t3⟩
       ·rw[if_neg hp]
        cases h3:nxR l t.e with
        |error q=>exact tV t3 h3
        |ok u=>
         obtain⟨u1,u2,u3⟩:=jP t3 h3;simp only;by_cases h4:isS u (kR k)=true
         ·rw[if_pos h4];exact⟨t1,by simp only;omega,u3⟩
         ·rw[if_neg h4]
          have hP:=ih.2 k d t.e (n+1) [] [] [] t3 hO;cases h5:rdP l f k d t.e (n+1) [] [] []with
          |error q=>rw[h5]at hP;exact hP
          |ok r=>
           rw[h5]at hP;exact⟨t1,Nat.lt_trans t2 hP.1,hP.2⟩
  ·rw[rdP]
   have hK:=aO8 (k:=k) ha seen ks;cases h1:rdK l k a seen ks with
   |error q=>rw[h1]at hK;exact hK
   |ok y=>
    obtain⟨b,bj,kt⟩:=y;rw[h1]at hK;obtain⟨b1,b2⟩:=hK;simp only at b1 b2 ⊢;have hV:=ih.1 (d+1) b n b2 hO;cases h2:rdV l f (d+1) b n with
    |error q=>rw[h2]at hV;exact hV
    |ok r=>
     rw[h2]at hV;obtain⟨r1,r2,r3⟩:=hV;simp only;by_cases h3:k=6/\dW (cP r.t)∈bj
     ·rw[if_pos h3];exact⟨by simp only;omega,by simp⟩
     ·rw[if_neg h3]
      cases h4:nxR l r.e with
      |error q=>exact tV r3 h4
      |ok u=>
       obtain⟨u1,u2,u3⟩:=jP r3 h4;simp only;by_cases h5:isS u 44=true
       ·rw[if_pos h5]
        have hP:=ih.2 k d u.e r.n (if k=6 then bj++[dW (cP r.t)]else bj) kt (xs++[r.t]) u3 hO;cases h6:rdP l f k d u.e r.n (if k=6 then bj++[dW (cP r.t)]else bj) kt (xs++[r.t])with
        |error q=>rw[h6]at hP;exact hP
        |ok R=>rw[h6]at hP;exact⟨by have:=hP.1;omega,hP.2⟩
       ·rw[if_neg h5]
        by_cases h6:isS u (kR k)=true
        ·rw[if_pos h6];exact⟨by simp only;omega,u3⟩
        ·rw[if_neg h6];exact⟨by simp only;omega,by simp⟩
theorem wX (l:List UInt8) (a:Nat) (ha:a<=l.length):match mG l a with
  | .ok y=>kL y.1/\gJ y.1<=64/\eW y.1<=16384/\a<y.2/\y.2<=l.length
  | .error q=>q.1<=l.length/\q.2≠0:=by
 unfold mG;have hA:=(aEi l (2*l.length+2)).1 1 a 0 ha hO;cases h:rdV l (2*l.length+2) 1 a 0 with
 |error q=>rw[h]at hA;exact hA
 |ok R=>
  rw[h]at hA;obtain⟨a1,a2,a3⟩:=hA;obtain⟨⟨o1,o2⟩,o3,o4,o5⟩:=(aHb l _).1 1 a 0 R hO h;obtain⟨s1,s2⟩:=aIu R.t o1;exact⟨aDf R.t o1 o2,by simp only[s2];omega,by simp only[s1];omega,by simp only;omega,a3⟩
open Go.Extern.Stop Go.Stop Go.Extern
theorem aQd (v:Value) (f:Value->Sem Value) (g:Array Value->Sem Value):ReflectliteValue.method.match_2 (fun _=>Sem Value) #[v] f g=f v:=rfl
theorem aRI (a p:Addr) (W:World) (ha:W.cell? a=some (.pointer (some p))):
  (ReflectliteValue.method (ReflectliteValue.valueError "reflectlite.Value.IsNil" 0) ReflectliteValue.isNil #[.agg #[.pointer (some ⟨7,121,none⟩),.pointer (some a),.int .u64 150]]).run Tryz.prog W=.ok (.bool false) W:=by
 delta ReflectliteValue.method
 rw[aQd];simp only[eG,aRd,Result.andThen];simp[ReflectliteValue.isNil,loadVar,isAgg,underlying,Tryz.underlying121,ha,Result.andThen]
theorem aRH (a p:Addr) (W:World) (ha:W.cell? a=some (.pointer (some p))):
  (ReflectliteValue.method (ReflectliteValue.valueError "reflectlite.Value.IsNil" 0) ReflectliteValue.isNil #[.agg #[.pointer (some ⟨7,177,none⟩),.pointer (some a),.int .u64 150]]).run Tryz.prog W=.ok (.bool false) W:=by
 delta ReflectliteValue.method
 rw[aQd];simp only[eG,aRc,Result.andThen];simp[ReflectliteValue.isNil,loadVar,isAgg,underlying,Tryz.underlying177,ha,Result.andThen]
abbrev aHX (w:World) (t:Addr):World:=(w.alloc (.cells #[.pointer (some t)] 121)).alloc (.cells #[.pointer (some ⟨7,121,none⟩),.pointer (some ⟨w.heap.size,0,none⟩),.int .u64 150] 181)
abbrev zL (w:World) (t:Addr):World:=(w.alloc (.cells #[.pointer (some t)] 177)).alloc (.cells #[.pointer (some ⟨7,177,none⟩),.pointer (some ⟨w.heap.size,0,none⟩),.int .u64 150] 181)
theorem aNe {Q:Ending->World->Prop} (E:Value) (t:Addr) (w:World) (hg:ET w)
  (h:Calls Tryz.prog 110 #[.iface 120 (.agg #[E]),.iface 121 (.pointer (some t)),vC ⟨w.heap.size,0,none⟩,.iface 220 (.agg #[.pointer (some ⟨7,31,none⟩)])] (aHX w t) fun e w'=>(∃b,e=.returned (.bool b))/\Q e w'):
  Calls Tryz.prog 61 #[.iface 120 (.agg #[E]),.iface 121 (.pointer (some t))] w Q:=by
 have IL:=@cJ Tryz.prog 107 _ (fun args=>ReflectliteValue.unpack (args.getD 0 (.tuple #[]))) Tryz.func107 uAu uAu uAu uAu;have h34:=@cJ Tryz.prog 108 _ (ReflectliteValue.methodAny (ReflectliteValue.valueError "reflectlite.Value.Type" 0) (fun t _ _ _=>ReflectliteType.toType t)) Tryz.func108 uAu uAu uAu uAu;have IM:=@cJ Tryz.prog 109 _ (ReflectliteValue.method (ReflectliteValue.valueError "reflectlite.Value.IsNil" 0) ReflectliteValue.isNil) Tryz.func109 uAu uAu uAu uAu;have IN:=@cJ Tryz.prog 300 _ (ReflectliteType.abiMethod fun t=>do pure (.int .u8 (<-Rtype.kind t))) Tryz.func300 uAu uAu uAu uAu;have IP:=@cJ Tryz.prog 319 _ (ReflectliteType.method ReflectliteType.elem) Tryz.func319 uAu uAu uAu uAu;have IQ:=@cJ Tryz.prog 320 _ (ReflectliteType.relation "Implements" ReflectliteType.implements_) Tryz.func320 uAu uAu uAu uAu;have f1:=vo_C;have f2:=ty_C;have f3:=aAV;have f4:=aAW;have f5:=rP;have f6:=aTq;have f7:=aTo;have f8:=aTL;have f9:=aTw;have n8:=aRI ⟨w.heap.size,0,none⟩ t (aHX w t) uAy;have kx:(aHX w t).cell? ⟨0,0,none⟩=some (.iface 220 (.agg #[.pointer (some ⟨7,45,none⟩)])):=dU (dU hg _) _;have H:=iH h;clear h hg;go_enter Tryz.func61,Tryz.ntmps61;go_wp2_with fail
 refine H.out.mono ?_;rintro e w1 ⟨⟨b,rfl⟩,hq⟩;go_wp2_with fail
 exact hq
theorem aAK {Q:Ending->World->Prop} (u:TypeId) (E:Value) (t:Addr) (w:World) (hg:ET w)
  (h:Calls Tryz.prog 110 #[.iface u E,.iface 177 (.pointer (some t)),vP ⟨w.heap.size,0,none⟩,.iface 220 (.agg #[.pointer (some ⟨7,152,none⟩)])] (zL w t) fun e w'=>(∃b,e=.returned (.bool b))/\Q e w'):
  Calls Tryz.prog 61 #[.iface u E,.iface 177 (.pointer (some t))] w Q:=by
 have IL:=@cJ Tryz.prog 107 _ (fun args=>ReflectliteValue.unpack (args.getD 0 (.tuple #[]))) Tryz.func107 uAu uAu uAu uAu;have h34:=@cJ Tryz.prog 108 _ (ReflectliteValue.methodAny (ReflectliteValue.valueError "reflectlite.Value.Type" 0) (fun t _ _ _=>ReflectliteType.toType t)) Tryz.func108 uAu uAu uAu uAu;have IM:=@cJ Tryz.prog 109 _ (ReflectliteValue.method (ReflectliteValue.valueError "reflectlite.Value.IsNil" 0) ReflectliteValue.isNil) Tryz.func109 uAu uAu uAu uAu;have IN:=@cJ Tryz.prog 300 _ (ReflectliteType.abiMethod fun t=>do pure (.int .u8 (<-Rtype.kind t))) Tryz.func300 uAu uAu uAu uAu;have IP:=@cJ Tryz.prog 319 _ (ReflectliteType.method ReflectliteType.elem) Tryz.func319 uAu uAu uAu uAu;have IQ:=@cJ Tryz.prog 320 _ (ReflectliteType.relation "Implements" ReflectliteType.implements_) Tryz.func320 uAu uAu uAu uAu;have f1:=vo_P;have f2:=ty_P;have f3:=aAV;have f4:=aAW;have f5:=rP;have f6:=aTp;have f7:=aTn;have f8:=aTK;have f9:=aTv;have n8:=aRH ⟨w.heap.size,0,none⟩ t (zL w t) uAy;have kx:(zL w t).cell? ⟨0,0,none⟩=some (.iface 220 (.agg #[.pointer (some ⟨7,45,none⟩)])):=dU (dU hg _) _;have H:=iH h;clear h hg;go_enter Tryz.func61,Tryz.ntmps61;go_wp2_with fail
 refine H.out.mono ?_;rintro e w1 ⟨⟨b,rfl⟩,hq⟩;go_wp2_with fail
 exact hq
theorem rF.returned {w:World} {t:Addr} {c:Option Int} {e:Ending} {w':World} (h:rF w t c e w'):∃b,e=.returned (.bool b):=by
 rcases h with⟨k,_,h,_⟩|⟨_,h,_⟩<;>exact⟨_,h⟩
theorem aSz {B:Nat} (E:Value) (c:Option Int) (l:List Int) (t:Addr) (old:Value) (w:World) (hg:ET w) (uq:Ch B w E c l) (hB:B<=w.heap.size) (ht:w.cell? t=some old) (hf:w.frozen? t=false):
  Calls Tryz.prog 61 #[.iface 120 (.agg #[E]),.iface 121 (.pointer (some t))] w fun e w'=>rF w t c e w':=by
 have hb:Below w.heap.size w (aHX w t):=Below.more (Below.newly' _ _) _;refine aNe E t w hg ((aSn E c l t ⟨w.heap.size,0,none⟩ old (aHX w t) (uq.later (hb.mono hB) (aA _)) (aI hB hb.size) (dU (dU ht _) _) (iC (dU ht _) (iC ht hf _) _)).mono fun e w' h=>⟨h.returned,h.after hb⟩)
theorem aK1 (p t:Addr) (old:Value) (w:World) (hg:ET w) (ht:w.cell? t=some old) (hf:w.frozen? t=false):
  Calls Tryz.prog 61 #[.iface 120 (.agg #[.iface 152 (.pointer (some p))]),.iface 177 (.pointer (some t))] w fun e w'=>aGr w t (.pointer (some p)) e w':=by
 have hb:Below w.heap.size w (zL w t):=Below.more (Below.newly' _ _) _;refine aAK _ _ t w hg ((aJR p t ⟨w.heap.size,0,none⟩ old (zL w t) (dU (dU ht _) _) (iC (dU ht _) (iC ht hf _) _)).mono fun e w' h=> ?_);obtain⟨h1,w2,h2,h3⟩:=h;exact⟨⟨_,h1⟩,h1,w2,tW hb h2,h3⟩
theorem aK2 (c:Int) (t:Addr) (w:World) (hg:ET w):
  Calls Tryz.prog 61 #[.iface 120 (.agg #[.iface 31 (.int .i64 c)]),.iface 177 (.pointer (some t))] w fun e w'=>tF w e w':=by
 have hb:Below w.heap.size w (zL w t):=Below.more (Below.newly' _ _) _;refine aAK _ _ t w hg ((aJS c t ⟨w.heap.size,0,none⟩ (zL w t)).mono fun e w' h=>⟨⟨_,h.1⟩,h.1,tW hb h.2⟩)
theorem aGu (t:Addr) (w:World) (hg:ET w):
  Calls Tryz.prog 61 #[.iface 120 (.agg #[.nilIface]),.iface 177 (.pointer (some t))] w fun e w'=>tF w e w':=by
 have hb:Below w.heap.size w (zL w t):=Below.more (Below.newly' _ _) _;refine aAK _ _ t w hg ((aGl t ⟨w.heap.size,0,none⟩ (zL w t)).mono fun e w' h=>⟨⟨_,h.1⟩,h.1,tW hb h.2⟩)
open Go.Shelf
def Eps (B:Nat) (v:Value) (ps:List Nat) (w:World):Prop:=w.ownsRow B 211 1 v ps.length (en enE ps)/\B<=w.heap.size
structure Ap (n₀:Nat) (w w':World):Prop where
 below:Below n₀ w w'
 kept:∀(g:Nat) (o:Obj),w.heap[g]? =some o->(∀cs fr,o≠.cells cs 211 fr)->w'.heap[g]? =some o
section
variable {B : Nat} {v : Value} {ps : List Nat} {w w1 : World}
theorem Eps.nil (h:B<=w.heap.size):Eps B (.slice none 0 0) [] w:=⟨rW _ _ _ _,h⟩
theorem Eps.grown {row:Option Nat} (h:Eps B v ps w) (hg:w.grownBy w1 row) (bn:v.ownBlock=none\/v.ownBlock≠row):Eps B v ps w1:=⟨h.1.kept hg bn,aI h.2 hg.size⟩
theorem Eps.later (h:Eps B v ps w) (hb:Below w.heap.size w w1):Eps B v ps w1:=h.grown (row:=none) ⟨hb.os,hb.tape,hb.output,hb.size,fun k hk _=>hb.block k hk⟩ uGx
theorem Eps.low {B':Nat} (h:Eps B v ps w) (hB:B'<=B):Eps B' v ps w:=by
 exact Ac7
theorem Eps.len (h:Eps B v ps w):∃a c,v=.slice a ps.length c:=by
 exact Ad6
theorem Eps.cut (h:Eps B v ps w):bY (fun _=>True) w 1 v (en enE ps) ps.length:=(pT h.1).weak fun _ _=>trivial
theorem aI4 {A C:World} {row:Option Nat} (h:Eps B v ps A) (hg:A.grownBy C row) (hr:∀r,row=some r->∃o:Obj,A.heap[r]? =some o/\o.isCells=false):Eps B v ps C:=by
 refine h.grown hg ?_;cases hv:v.ownBlock with
 |none=>exact .inl rfl
 |some k=>
  refine .inr fun e=> ?_
  obtain⟨o,ho,hc⟩:=hr k e.symm;obtain⟨⟨_,h2⟩,_⟩:=h;rcases h2 with⟨rfl,_⟩|⟨g,cap,aj,rfl,_,hb,_⟩
  ·cases hv
  ·obtain rfl:g=k:=by simpa[Value.ownBlock]using hv
   rw[hb]at ho;cases ho
   cases hc
theorem aRW {L:Nat} {cs:Array Value} {T:TypeId} {fr:Nat×Nat} (h:Eps B v ps w) (hb:w.heap[L]? =some (.cells cs T fr)) (hT:T≠211):v.ownBlock≠some L:=by
 exact Af4
theorem Eps.only {L:Nat} {cs:Array Value} {T:TypeId} {fr:Nat×Nat} (h:Eps B v ps w) (k:iL L w w1) (hb:w.heap[L]? =some (.cells cs T fr)) (hT:T≠211):Eps B v ps w1:=h.grown k.by_ (.inr (aRW h hb hT))
theorem Ap.refl (n₀:Nat) (w:World):Ap n₀ w w:=⟨bB _ _,fun _ _ h _=>h⟩
theorem Ap.trans {n₀:Nat} {a b c:World} (h:Ap n₀ a b) (k:Ap n₀ b c):Ap n₀ a c:=⟨h.below.trans k.below,fun g o hg ho=>k.kept g o (h.kept g o hg ho) ho⟩
theorem Ap.later {n₀:Nat} {a b:World} (h:Below a.heap.size a b) (hn:n₀<=a.heap.size):Ap n₀ a b:=⟨h.mono hn,fun g _ hg _=>(h.block g (gZ hg)).trans hg⟩
theorem Ap.grown {n₀:Nat} (h:Eps n₀ v ps w) (hg:w.grownBy w1 v.ownBlock):Ap n₀ w w1:=by
 obtain⟨⟨_,h2⟩,hB⟩:=h;refine⟨⟨hg.os,hg.tape,hg.output,hg.size,fun k hk=>hg.block k hO ?_⟩,fun g o ho bn=>(hg.block g (gZ ho) ?_).trans ho⟩
 ·rcases h2 with⟨rfl,_⟩|⟨g,cap,aj,rfl,hB,_⟩
  ·simp[Value.ownBlock]
  ·simp[Value.ownBlock]
   omega
 ·rcases h2 with⟨rfl,_⟩|⟨g',cap,aj,rfl,_,wo,_⟩
  ·simp[Value.ownBlock]
  ·intro e
   obtain rfl:g=g':=by simpa[Value.ownBlock]using e
   rw[wo]at ho;cases ho
   exact bn _ _ rfl
theorem Ap.keeps {n₀:Nat} {a b:World} (h:Ap n₀ a b):KeepsOthers a b:=⟨h.below.size,fun k o hk ho=>h.kept k o hk (fun cs fr e=>by subst e;cases ho)⟩
theorem Ap.row {n₀ X:Nat} {a b:World} {cs:Array Value} {T:TypeId} {fr:Nat×Nat} (h:Ap n₀ a b) (hX:a.heap[X]? =some (.cells cs T fr)) (hT:T≠211):b.heap[X]? =some (.cells cs T fr):=
 h.kept X _ hX (fun _ _ e=>by cases e;exact hT rfl)
theorem Ap.tab {n₀:Nat} {a b:World} (h:Ap n₀ a b) (hn:4<n₀) (hT:iF a):iF b:=fun j hj=>(h.below.cell (p:=⟨4,j,none⟩) hn).trans (hT j hj)
theorem Ap.kp {n₀:Nat} {a b:World} {S:Nat->Prop} (h:Ap n₀ a b) (hS:∀g,S g->g<n₀):Kp S a b:=Kp.low h.below hS
theorem Ap.wrote {n₀ X:Nat} {a b c:World} (h:Ap n₀ a b) (k:iL X b c) (hn:a.heap.size<=X) (nb:n₀<=a.heap.size):Ap n₀ a c:=
 ⟨h.below.trans (k.below hO),fun g o hg ho=>k.other (h.kept g o hg ho) (fun e=>by have:=(gZ hg);omega)⟩
end
theorem aJl {w w1:World} {c:Array Value} {T:TypeId} (h:w.alloc (.cells c T)=w1):Below w.heap.size w w1/\w1.heap[w.heap.size]? =some (.cells c T (0,0))/\w1.heap.size=w.heap.size+1:=by
 exact Am6
theorem bY.low {S:Nat->Prop} {n₀:Nat} {W W':World} {s n:Nat} {v:Value} {cs:List Value} (h:bY S W s v cs n) (hb:Below n₀ W W') (hS:∀g,S g->g<n₀):bY S W' s v cs n:=by
 obtain⟨a,c,h1,h2,h3,h4⟩:=h;refine⟨a,c,h1,h2,h3,h4.imp_right ?_⟩;rintro⟨g,o,e,hg,hlt,h5⟩;exact⟨g,o,e,hg,bK hlt hb.size,fun j u hu=>(hb.cell (p:=⟨g,o+j,none⟩) (hS g hg)).trans (h5 j u hu)⟩
theorem aPt {o:Oper} {a:Act} {K:Act->World->Prop} {Q:Exit->Act->World->Prop} {w:World} (s x:Operand)
  (ho:o.op=.call {callee:=.builtin .append,args:=#[s,x],argTypes:=#[132,132]})
  {B:Nat} {v vr:Value} {ps rs:List Nat} (hs:a.eval s=v) (hb:Eps B v ps w) (hx:a.eval x=vr) {S:Nat->Prop} (hc:bY S w 1 vr (en enE rs) rs.length) (an:ps.length+rs.length<=17592186044416)
  (h:∀v' w',Eps B v' (ps++rs) w'->Ap B w w'->K (a.put o.dst v') w'):o.wp Tryz.prog a w K Q:=by
 obtain⟨i,hi,hz,h1,h2⟩:=dO sU;obtain⟨v',w',r1,r2,r3⟩:=vJ (P:=Tryz.prog) (w:=w) B 132 o.type 211 i (.pointer none) 8 Tryz.underlying132 hi hz h1 h2 rfl uAv hb.1 hc (uD aKU _)
  uCx hO hb.2
 unfold Oper.wp execOp;simp only[ho,resolve,invoke,builtin,eG,eZ,cR,iE,cA,gY,hs,hx,r1];exact h v' w' ⟨by rw[aB,aD0];exact r2,aI hb.2 r3.size⟩ (Ap.grown hb r3)
theorem aPu {ops:Array Oper} {rest:List Oper} {o:Oper} {a:Act} {Q:Exit->Act->World->Prop} {w:World} (fj:o.guard=none) (s x:Operand)
  (ho:o.op=.call {callee:=.builtin .append,args:=#[s,x],argTypes:=#[132,132]})
  {B:Nat} {v vr:Value} {ps rs:List Nat} (hs:a.eval s=v) (hb:Eps B v ps w) (hx:a.eval x=vr) {S:Nat->Prop} (hc:bY S w 1 vr (en enE rs) rs.length) (an:ps.length+rs.length<=17592186044416)
  (h:∀v' w',Eps B v' (ps++rs) w'->Ap B w w'->wpList Tryz.prog ops Q rest (a.put o.dst v') w'):wpList Tryz.prog ops Q (o::rest) a w:=
 gC fj fun _ hK=>aPt s x ho hs hb hx hc an fun v' w' h1 h2=>hK _ _ (h v' w' h1 h2)
theorem aTH {ops:Array Oper} {rest:List Oper} {o:Oper} {a:Act} {Q:Exit->Act->World->Prop} {w:World} {n l:Nat} (fj:o.guard=none) (s x:Operand)
  (ho:o.op=.call {callee:=.builtin .append,args:=#[s,x],argTypes:=#[132,132]})
  {B:Nat} {v vr:Value} {ps rs:List Nat} (hs:a.eval s=v) (hb:Eps B v ps w) (hx:a.eval x=vr) {S:Nat->Prop} (hc:bY S w 1 vr (en enE rs) rs.length) (an:ps.length+rs.length<=17592186044416)
  (h:∀v' w',Eps B v' (ps++rs) w'->Ap B w w'->wpListIn (Fence.wide.inRound l) n Tryz.prog ops Q rest (a.put o.dst v') w'):wpListIn (Fence.wide.inRound l) n Tryz.prog ops Q (o::rest) a w:=
 uA fj (fun c' hc=>by rw[ho]at hc;cases hc) fun _ hK=>aPt s x ho hs hb hx hc an fun v' w' h1 h2=>hK _ _ (h v' w' h1 h2)
end Go.Proofs.YthmfgidbcghnfaaGreatDoor
