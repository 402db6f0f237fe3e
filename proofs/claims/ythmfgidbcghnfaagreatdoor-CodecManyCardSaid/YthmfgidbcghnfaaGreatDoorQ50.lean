import Derived.Test.YthmfgidbcghnfaaGreatDoorQ0
import Derived.Test.YthmfgidbcghnfaaGreatDoorQ25
set_option maxRecDepth 1000000
set_option maxHeartbeats 8000000
set_option linter.unusedSimpArgs false
namespace Go.Proofs.YthmfgidbcghnfaaGreatDoor
open Go.RowKit
def aE3 (r:List UInt8):Prop:=∀c q,r=c::q->nbS c=false/\c≠61
theorem aGX:aE3 []:=fun _ _ h=>by cases h
theorem sH {c:UInt8} {r:List UInt8} (h:nbS c=false) (h':c≠61):aE3 (c::r):=fun _ _ e=>by cases e;exact⟨h,h'⟩
theorem aK5 (p:UInt8->Bool) (hp:∀c,p c=true->nbS c=true) (l r:List UInt8) (hl:l.all p=true) (hr:aE3 r):(l++r).takeWhile p=l:=by
 induction l with
 |nil=>
  cases r with
  |nil=>rfl
  |cons c q=>
   rw[aT,dZ,if_neg];intro h;have:=hp c h;rw[(hr c q rfl).1]at this;cases this
 |cons c l ih=>
  rw[jW,eQ]at hl;rw[aP,dZ,if_pos hl.1,ih hl.2]
theorem aGP (x:TkR) (hx:(x.k=2/\x.n=0/\aCw x.t=true)\/(x.k=3/\InR x.n/\x.t=[])\/(x.k=4/\x.n=0)) (r:List UInt8) (hr:aE3 r):mQ (jN x++r)=(x,(jN x).length,0)/\∃c t,jN x=c::t/\uI c=false:=by
 obtain⟨k,n,t⟩:=x;rcases hx with⟨rfl,rfl,h3⟩|⟨rfl,h2,rfl⟩|⟨rfl,rfl⟩
 ·have hp:jN ⟨2,0,t⟩=t:=rfl
  rw[hp];cases t with
  |nil=>cases h3
  |cons c q=>
   unfold aCw at h3;obtain⟨h4,h5⟩:=bH.1 h3;have hl:=of_decide_eq_true (show decide (97<=c.toNat/\c.toNat<=122\/65<=c.toNat/\c.toNat<=90\/c.toNat=95)=true from h4);have hd:iM c=false:=dB hO;have hn:(c::q).all nbS=true:=by rw[jW];unfold nbS;rw[h4];exact h5
   have Ca:=aK5 nbS (fun _ h=>h) (c::q) r hn hr;refine⟨?_,c,q,rfl,dB hO⟩;rw[aP]at Ca ⊢;rw[iR];rw[if_neg hO,if_neg (fun h=>h.elim hO (fun h=>by rw[hd]at h;cases h)),if_pos h4,Ca]
 ·have hp:jN ⟨3,n,[]⟩=Lib.itoa n:=rfl
  rw[hp];obtain⟨c,q,he,hc,ha,h34,hb⟩:=aEF n;have Ca:=aK5 iM (fun c h=>by unfold nbS;rw[h];simp) q r ha hr;exact Ah0
 ·exact Ae2
theorem aSD (l:List UInt8) (a:Nat) (r:List UInt8) (x:TkR) (m:Nat) (hl:l.drop a=r) (ht:mQ r=(x,m,0)) (hk:x.k≠0) (hb:∀c t,r=c::t->uI c=false):nxR l a=.ok (gS a x m):=by
 have h:=aBx l a false r hl hb;rw[ht,if_pos rfl]at h;unfold nxR;rw[h,if_neg uAy];exact if_neg (show¬x.k=0 from hk)
theorem aCp (l:List UInt8) (a:Nat) (x:TkR) (r:List UInt8) (hx:(x.k=2/\x.n=0/\aCw x.t=true)\/(x.k=3/\InR x.n/\x.t=[])\/(x.k=4/\x.n=0)) (hr:aE3 r) (hl:l.drop a=jN x++r):nxR l a=.ok (gS a x (jN x).length):=by
 obtain⟨h1,c,t,h2,h3⟩:=aGP x hx r hr;refine aSD l a _ x _ hl h1 (by rcases hx with h|h|h<;>rw[h.1]<;>decide) fun c' t' e=> ?_
 rw[h2,aP,dA]at e;rw[<-e.1];exact h3
theorem aEU {l x r:List UInt8} {a:Nat} (h:l.drop a=x++r):l.drop (a+x.length)=r:=by
 rw[<-gH,h,oY]
def One (c:UInt8):Prop:=c=91\/c=93\/c=123\/c=125\/c=60\/c=62\/c=44\/c=58
theorem aPq {c:UInt8} (h:One c) (r:List UInt8) (hr:∀q,r≠61::q):gE.find? (fun y=>y.isPrefixOf (c::r))=some [c]:=by
 cases r with
 |nil=>rcases h with rfl|rfl|rfl|rfl|rfl|rfl|rfl|rfl<;>decide
 |cons d q=>
  have hd:(61==d)=false:=by
   rw[aE];intro e;subst e;exact hr q rfl
  rcases h with rfl|rfl|rfl|rfl|rfl|rfl|rfl|rfl<;>simp[gE,List.isPrefixOf,hd]
theorem aQK {c:UInt8} (h:One c) (r:List UInt8) (hr:∀q,r≠61::q):mQ (c::r)=(⟨1,0,[c]⟩,1,0):=by
 rw[iR,aPq h r hr];rcases h with rfl|rfl|rfl|rfl|rfl|rfl|rfl|rfl<;>rfl
theorem vO (l:List UInt8) (a:Nat) {c:UInt8} (h:One c) (r:List UInt8) (hr:∀q,r≠61::q) (hl:l.drop a=c::r):nxR l a=.ok (gS a ⟨1,0,[c]⟩ 1):=by
 refine aSD l a _ _ _ hl (aQK h r hr) (show(1:Int)≠0 by decide) fun c' t' e=> ?_
 rw[dA]at e;rw[<-e.1];rcases h with rfl|rfl|rfl|rfl|rfl|rfl|rfl|rfl<;>decide
theorem aKG (t:ByteArray):(⟨(kb t).toArray⟩:ByteArray)=t:=by
 cases t;simp[kb]
theorem aJE {a:Tr} (h:a.k<=3) (h0:iB (a.k,a.n,kb a.t)=0) (hn:InR a.n):
  ∃x:TkR,eY a=jN x/\((x.k=2/\x.n=0/\aCw x.t=true)\/(x.k=3/\InR x.n/\x.t=[])\/(x.k=4/\x.n=0))/\∀p m,hdS (gS p x m)=some (a.k,a.n,kb a.t,false):=by
 obtain⟨k,n,t,ks,xs⟩:=a;simp only[Tr.k,Tr.n,Tr.t]at h h0 hn ⊢;rcases xM _ h0 with e|e|e|⟨m,e⟩|⟨s,e⟩<;>simp only[cZ]at e<;>obtain⟨rfl,rfl,e⟩:=e
 ·exact⟨⟨2,0,[110,117,108,108]⟩,rfl,.inl ⟨rfl,rfl,by decide⟩,fun p m=>by rw[e];rfl⟩
 ·exact⟨⟨2,0,[102,97,108,115,101]⟩,rfl,.inl ⟨rfl,rfl,by decide⟩,fun p m=>by rw[e];rfl⟩
 ·exact⟨⟨2,0,[116,114,117,101]⟩,rfl,.inl ⟨rfl,rfl,by decide⟩,fun p m=>by rw[e];rfl⟩
 ·exact⟨⟨3,n,[]⟩,rfl,.inr (.inl ⟨rfl,hn,rfl⟩),fun p m=>by rw[e];rfl⟩
 ·exact⟨⟨4,0,kb t⟩,rfl,.inr (.inr ⟨rfl,rfl⟩),fun p m=>rfl⟩
theorem aKn {k:Int} (hk:k=4\/k=5\/k=6):One (sK k):=by
 rcases hk with rfl|rfl|rfl
 ·exact .inl rfl
 ·exact .inr (.inr (.inl rfl))
 ·exact .inr (.inr (.inr (.inr (.inl rfl))))
theorem zE {k:Int} (hk:k=4\/k=5\/k=6):One (kR k):=by
 rcases hk with rfl|rfl|rfl
 ·exact .inr (.inl rfl)
 ·exact .inr (.inr (.inr (.inl rfl)))
 ·exact .inr (.inr (.inr (.inr (.inr (.inl rfl)))))
theorem aFL {c:UInt8} (h:One c):c≠61/\nbS c=false:=by
 rcases h with rfl|rfl|rfl|rfl|rfl|rfl|rfl|rfl<;>decide
theorem aAy {a:Tr} (h:kL a):∃c q,eY a=c::q/\c≠61:=by
 rcases qX h with⟨h1,h2,h3,_,_⟩|⟨_,_,h3,_⟩
 ·obtain⟨x,e,hx,_⟩:=aJE h1 h2 h3
  obtain⟨ht,c,q,hc,hb⟩:=aGP x hx [] aGX;rw[e,hc];refine⟨c,q,rfl,?_⟩;rintro rfl;rw[fE,hc,iR,if_neg uAv,if_neg uAv,if_neg uAv]at ht;have hk:=aU (fun y=>y.1.k) ht;simp only at hk;split at hk
  ·rw[<-hk]at hx;simp at hx
  ·rw[<-hk]at hx;simp[zTk]at hx
 ·obtain⟨k,n,t,ks,xs⟩:=a
  replace h3:k=4\/k=5\/k=6:=h3;rw[pG h3];exact⟨_,_,rfl,(aFL (aKn h3)).1⟩
theorem sV (k:Int) (kz:List ByteArray) (x:Tr) (r:List Tr):kU k kz (x::r)=(if k=5 then gI (kb (kz.headD ⟨#[]⟩))++[58]else[])++(eY x++nK k kz.tail r):=by rw[kU]
theorem aCZ {k:Int} {kz:List ByteArray} {x:Tr} {r:List Tr} (h:kL x):∃c q,kU k kz (x::r)=c::q/\c≠61:=by
 rw[sV];by_cases hk:k=5
 ·rw[if_pos hk]
  exact⟨34,_,rfl,by decide⟩
 ·rw[if_neg hk]
  obtain⟨c,q,e,h⟩:=aAy h;rw[e];exact⟨c,_,rfl,h⟩
theorem ne61 {x y:List UInt8} (h:∃c q,x=c::q/\c≠61):∀q,x++y≠61::q:=by
 obtain⟨c,q,rfl,h⟩:=h;intro q' e;rw[aP,dA]at e;exact h e.1
def aLa (y:Tr):Prop:=∀(l:List UInt8) (a d n f:Nat) (r:List UInt8),l.drop a=eY y++r->aE3 r->gJ y+d<=65->n+eW y<=16384->2*(eY y).length+1<=f->
 rdV l f d a n=.ok ⟨y,a+(eY y).length,n+eW y,a⟩
theorem aRY {a:Tr} (h:kL a):1<=(eY a).length:=by
 obtain⟨c,q,e,_⟩:=aAy h;rw[e];simp
theorem aER (k:Int) (hk:k=4\/k=5\/k=6) (kz:List ByteArray) (ys:List Tr) (r:List UInt8):aE3 (nK k kz ys++(kR k::r)):=by
 cases ys with
 |nil=>rw[nK,aT];exact sH (aFL (zE hk)).2 (aFL (zE hk)).1
 |cons y ys=>rw[nV,aP];exact sH uAv uAv
theorem yK (p m:Nat) (c d:UInt8):isS (gS p ⟨1,0,[c]⟩ m) d=(c==d):=by
 unfold isS gS;simp
theorem aJd {a:Tr} (h:kL a) (hk:a.k<=3):aLa a:=by
 intro l p d n f r hl hr hd hn hf;rcases qX h with⟨_,h2,h3,h4,h5⟩|⟨_,_,h3,_⟩
 ·obtain⟨x,e,hx,hh⟩:=aJE hk h2 h3
  rw[e]at hl hf ⊢;obtain⟨f,rfl⟩:∃g,f=g+1:=⟨f-1,by omega⟩
  have Ta:eW a=1:=by rw[qK,h5];rfl
  have Zv:=zU a;rw[rdV,aCp l p x r hx hr hl];simp only[hh];rw[if_neg hO,if_neg hO,if_pos trivial,aKG,Ta];obtain⟨k,n',t,ks,xs⟩:=a;simp only[Tr.k,Tr.n,Tr.t,Tr.ks,Tr.xs]at h4 h5 ⊢;subst h4 h5;rfl
 ·omega
theorem aLY (l:List UInt8) (k:Int) (hk:k=4\/k=5\/k=6) (d:Nat):∀(ys:List Tr) (kz:List ByteArray) (a n f:Nat) (seen:List (List UInt8)) (ks:List ByteArray) (xs:List Tr) (r:List UInt8),
  ys≠[]->(∀y∈ys,kL y/\aLa y/\gJ y+(d+1)<=65)->l.drop a=kU k kz ys++(kR k::r)->(∀q,r≠61::q)->
  (k=5->kz.length=ys.length/\(∀z∈kz,kb z∉seen)/\kz.Pairwise (fun a b=>kb a≠kb b))->(k≠5->kz=[])->
  (k=6->(∀y∈ys,dW y∉seen)/\ys.Pairwise (fun a b=>dW a≠dW b))->n+cU ys<=16384->2*(kU k kz ys).length+2<=f->
  rdP l f k d a n seen ks xs=.ok ⟨.nd k 0 ⟨#[]⟩ (ks++kz) (xs++ys),a+(kU k kz ys).length+1,n+cU ys,0⟩:=by
 intro ys;induction ys with
 |nil=>intro kz a n f seen ks xs r h;exact absurd rfl h
 |cons y ys ih=>
  intro kz a n f seen ks xs r _ hy hl hr h5 hz h6 hn hf;obtain⟨hg,dm,Gy⟩:=hy y (aZ ..);obtain⟨f,rfl⟩:∃g,f=g+1:=⟨f-1,by omega⟩
  rw[cU]at hn;have AB:∃b kt bj,l.drop b=eY y++(nK k kz.tail ys++(kR k::r))/\a<=b/\a+(kU k kz (y::ys)).length=b+((eY y).length+(nK k kz.tail ys).length)/\(k=5->∃z,kz=z::kz.tail/\kt=ks++[z]/\bj=seen++[kb z])/\(k≠5->kt=ks/\bj=seen)/\
    rdK l k a seen ks=.ok (b,bj,kt):=by
   by_cases gp:k=5
   ·obtain⟨an,A5,NP⟩:=h5 gp
    obtain⟨z,zs,rfl⟩:∃z zs,kz=z::zs:=by
     cases kz with
     |nil=>simp at an
     |cons z zs=>exact⟨z,zs,rfl⟩
    rw[sV,if_pos gp]at hl ⊢;simp only[aDv,yB,bG]at hl ⊢;have h1:=aCp l a ⟨4,0,kb z⟩ _ (.inr (.inr ⟨rfl,rfl⟩)) (sH uAv uAv) hl;have cw:l.drop (a+(gI (kb z)).length)=58::(eY y++(nK k zs ys++(kR k::r))):=aEU hl;have h2:=vO l _ (.inr (.inr (.inr (.inr (.inr (.inr (.inr rfl))))))) _ (ne61 (aAy hg)) cw;refine⟨a+(gI (kb z)).length+1,ks++[z],seen++[kb z],?_,by omega,?_,fun _=>⟨z,rfl,rfl,rfl⟩,fun h=>absurd gp h,?_⟩
    ·rw[<-gH,cw];rfl
    ·simp only[aB,aD,aK];omega
    ·unfold rdK
     rw[if_pos gp,h1];have e4:(gS a ⟨4,0,kb z⟩ (jN ⟨4,0,kb z⟩).length).k=4:=rfl;have et:(gS a ⟨4,0,kb z⟩ (jN ⟨4,0,kb z⟩).length).t=kb z:=rfl;have ee:(gS a ⟨4,0,kb z⟩ (jN ⟨4,0,kb z⟩).length).e=a+(gI (kb z)).length:=rfl;simp only[e4,et,ee,h2];rw[if_neg uAy,if_neg (A5 z (aZ ..)),yK,if_pos uAv,aKG];rfl
   ·rw[sV,if_neg gp]at hl ⊢
    refine⟨a,ks,seen,?_,aA _,?_,fun h=>absurd h gp,fun _=>⟨rfl,rfl⟩,by unfold rdK;rw[if_neg gp]⟩
    ·rw[hl];simp
    ·simp
  obtain⟨b,kt,bj,Bo,hab,an,hA,hB,hS⟩:=AB;have mq:=aRY hg;have hv:=dm l b (d+1) n f _ Bo (aER k hk _ _ _) hO hO hO;have hc:cP y=y:=aJN y hg;rw[rdP,hS];simp only;rw[hv];simp only;rw[hc,if_neg (fun⟨e6,hm⟩=>by
   obtain⟨_,rfl⟩:=hB hO;exact(h6 e6).1 y (aZ ..) hm)]
  have Tk:=aEU Bo;cases ys with
  |nil=>
   rw[nK,aT]at Tk;rw[nK,aK,jV]at an;rw[vO l _ (zE hk) r hr Tk];simp only[yK];rw[if_neg (by rcases hk with rfl|rfl|rfl<;>decide),if_pos uAy];have ei:kt=ks++kz:=by
    by_cases gp:k=5
    ·obtain⟨z,e1,e2,_⟩:=hA gp
     have:=(h5 gp).1;rw[e2,e1];rw[e1]at this;simp only[aD,aK]at this;rw[aQ (by omega:kz.tail.length=0)]
    ·rw[(hB gp).1,hz gp,fE]
   rw[ei,an,cU,cU];rfl
  |cons y2 ys=>
   rw[nV,aP]at Tk;rw[nV,aD]at an;have FD:∀y∈y2::ys,kL y/\aLa y/\gJ y+(d+1)<=65:=fun y h=>hy y (bF _ h)
   rw[vO l _ (.inr (.inr (.inr (.inr (.inr (.inr (.inl rfl))))))) _ (ne61 (aCZ (FD y2 (aZ ..)).1)) Tk];simp only[yK];rw[if_pos uAv];have MB:l.drop (b+(eY y).length+1)=kU k kz.tail (y2::ys)++(kR k::r):=by rw[<-gH,Tk];rfl
   have he:(gS (b+(eY y).length) ⟨1,0,[44]⟩ 1).e=b+(eY y).length+1:=rfl;rw[he];rw[ih kz.tail (b+(eY y).length+1) (n+eW y) f (if k=6 then bj++[dW y]else bj) kt (xs++[y]) r uAy FD MB hr ?_ ?_ ?_ hO hO]
   ·have ei:kt++kz.tail=ks++kz:=by
     by_cases gp:k=5
     ·obtain⟨z,e1,e2,_⟩:=hA gp
      rw[e2,bG];exact aU (ks++ ·) e1.symm
     ·rw[(hB gp).1,hz gp];rfl
    rw[ei,an,cU,bG,aA8 n];have e9:b+(eY y).length+1+(kU k kz.tail (y2::ys)).length+1=b+((eY y).length+((kU k kz.tail (y2::ys)).length+1))+1:=by omega
    rw[e9];rfl
   ·intro gp
    obtain⟨z,e1,_,e3⟩:=hA gp;obtain⟨q1,q2,q3⟩:=h5 gp;rw[e1]at q1 q2 q3;rw[gG]at q3;rw[if_neg hO,e3];refine⟨by simpa using q1,fun z' Bw=> ?_,q3.2⟩;rw[dL,bV];rintro(h|h)
    ·exact q2 z' (bF _ Bw) h
    ·exact q3.1 z' Bw h.symm
   ·intro gp;rw[hz gp];rfl
   ·intro Oy
    obtain⟨q1,q2⟩:=h6 Oy;rw[gG]at q2;rw[if_pos Oy,(hB hO).2];refine⟨fun y' Tl=> ?_,q2.2⟩;rw[dL,bV];rintro(h|h)
    ·exact q1 y' (bF _ Tl) h
    ·exact q2.1 y' Tl h.symm
theorem aHq {k n:Int} {t:ByteArray} {ks:List ByteArray} {xs:List Tr} (h:kL (.nd k n t ks xs)) (hk:k=4\/k=5\/k=6) {l:List UInt8} {a:Nat} {r:List UInt8} (hl:l.drop a=eY (.nd k n t ks xs)++r):
  nxR l a=.ok (gS a ⟨1,0,[sK k]⟩ 1)/\l.drop (a+1)=kU k ks xs++(kR k::r):=by
 rw[pG hk,aP,bG,nY]at hl;refine⟨vO l a (aKn hk) _ ?_ hl,by rw[<-gH,hl];rfl⟩;cases xs with
 |nil=>
  rw[kU,aT];intro q e;rw[dA]at e;exact(aFL (zE hk)).1 e.1
 |cons x xs=>exact ne61 (aCZ (h.part (aZ ..)))
theorem aJc {y:Tr} (h:kL y) {l:List UInt8} {a:Nat} {r:List UInt8} (hl:l.drop a=eY y++r) (hr:aE3 r):∃u,nxR l a=.ok u/\∀k:Int,k=4\/k=5\/k=6->isS u (kR k)=false:=by
 rcases qX h with⟨h1,h2,h3,_,_⟩|⟨_,_,h3,_⟩
 ·obtain⟨x,e,hx,_⟩:=aJE h1 h2 h3
  rw[e]at hl;refine⟨_,aCp l a x r hx hr hl,fun k _=> ?_⟩;unfold isS gS;rcases hx with h|h|h<;>rw[h.1]<;>rfl
 ·obtain⟨k,n,t,ks,xs⟩:=y
  refine⟨_,(aHq h h3 hl).1,fun k' Og=> ?_⟩;replace h3:k=4\/k=5\/k=6:=h3;rw[yK];rcases h3 with rfl|rfl|rfl<;>rcases Og with rfl|rfl|rfl<;>decide
theorem aTD {k:Int} (hk:k=4\/k=5\/k=6) (a m:Nat):hdS (gS a ⟨1,0,[sK k]⟩ m)=some (k,0,[],true):=by
 rcases hk with rfl|rfl|rfl<;>rfl
theorem aPB {x:Tr} {xs:List Tr} (h:x∈xs):gJ x<=fP xs:=by
 induction xs with
 |nil=>cases h
 |cons y ys ih=>
  rw[fP];rcases bL.1 h with rfl|h
  ·exact Nat.le_max_left _ _
  ·exact aI (ih h) (Nat.le_max_right _ _)
theorem aMK (y:Tr):kL y->aLa y:=by
 induction y using kD with
 |h k n t ks xs ih=>
  intro h;by_cases nh:k<=3
  ·exact aJd h nh
  ·rcases qX h with⟨h1,_⟩|⟨h1,h2,h3,h4,h5,h6⟩
   ·exact absurd h1 nh
   ·simp only[Tr.k,Tr.n,Tr.t,Tr.ks,Tr.xs]at h1 h2 h3 h4 h5 h6
    subst h1 h2;intro l p d m f r hl hr hd hn hf;obtain⟨pf,th⟩:=aHq h h3 hl;have o9:∀q,r≠61::q:=fun q e=>(hr 61 q e).2 rfl
    obtain⟨f,rfl⟩:∃g,f=g+1:=⟨f-1,by omega⟩
    have an:(eY (.nd k 0 ⟨#[]⟩ ks xs)).length=(kU k ks xs).length+2:=by rw[pG h3];simp
    rw[an]at hf ⊢;rw[gJ]at hd;rw[eW]at hn ⊢;have e1:(gS p ⟨1,0,[sK k]⟩ 1).e=p+1:=rfl;have e2:(gS p ⟨1,0,[sK k]⟩ 1).a=p:=rfl;rw[rdV,pf];simp only[aTD h3,e1,e2];rw[if_neg hO,if_neg hO,if_neg uAy];cases xs with
    |nil=>
     rw[kU,aT]at th;rw[vO l _ (zE h3) r o9 th];simp only[yK];have gv:ks=[]:=by
      by_cases gp:k=5
      ·exact aQ (h5 gp).1
      ·exact h4 gp
     rw[if_pos uAy,gv,kU,cU];rfl
    |cons x xs=>
     have hu:∃u,nxR l (p+1)=.ok u/\isS u (kR k)=false:=by
      by_cases gp:k=5
      ·rw[sV,if_pos gp]at th
       simp only[bG]at th;refine⟨_,aCp l (p+1) ⟨4,0,_⟩ _ (.inr (.inr ⟨rfl,rfl⟩)) (sH uAv uAv) th,?_⟩;rfl
      ·rw[sV,if_neg gp,aT,bG]at th
       obtain⟨u,hu,hi⟩:=aJc (h.part (aZ ..)) th (aER k h3 _ _ _);exact⟨u,hu,hi k h3⟩
     obtain⟨u,hu,hi⟩:=hu;have hP:=aLY l k h3 d (x::xs) ks (p+1) (m+1) f [] [] [] r uAy
      (fun y hy=>⟨h.part hy,ih y hy (h.part hy),by have:=aPB hy;omega⟩) th o9
      (fun e=>⟨(h5 e).1,fun _ _=>by simp,(h5 e).2.imp fun {a b} hab e=>by rw[e]at hab;exact absurd hab (List.lt_irrefl _)⟩) h4
      (fun e=>⟨fun _ _=>by simp,(h6 e).imp fun {a b} hab e=>by rw[e]at hab;exact absurd hab (List.lt_irrefl _)⟩) hO hO
     rw[hu];simp only;rw[if_neg (by rw[hi];decide),hP];simp only[aT];have e9:p+1+(kU k ks (x::xs)).length+1=p+((kU k ks (x::xs)).length+2):=by omega
     have e8:m+1+cU (x::xs)=m+(cU (x::xs)+1):=by omega
     rw[e9,e8]
theorem aNN {y:Tr} (h:kL y) (hd:gJ y<=64) (hn:eW y<=16384) (p r:List UInt8) (hr:aE3 r):mG (p++(eY y++r)) p.length=.ok (y,p.length+(eY y).length):=by
 unfold mG;rw[aMK y h _ p.length 1 0 _ r (by rw[oY]) hr hO hO (by simp only[aB];omega)];simp only;rw[aJN y h]
theorem zC {y:Tr} (h:kL y) (hd:gJ y<=64) (hn:eW y<=16384) (hl:(eY y).length<=1048576):jO (eY y)=.ok y:=by
 have ht:=aNN h hd hn [] [] aGX;rw[aT,fE,aK,eA]at ht;unfold jO;rw[if_neg hO,ht];have hx:cB (eY y) (eY y).length=(gS (eY y).length zTk 0,0,0):=by
  have:=aBx (eY y) (eY y).length false [] (by rw[List.drop_length];rfl) (fun _ _ e=>by cases e);rw[this];rfl
 simp only[hx];rw[if_neg uAy,if_neg (by show¬((0:Int)≠0);simp)]
end Go.Proofs.YthmfgidbcghnfaaGreatDoor
