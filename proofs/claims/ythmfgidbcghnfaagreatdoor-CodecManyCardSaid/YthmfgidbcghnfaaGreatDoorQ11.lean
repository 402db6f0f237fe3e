import Derived.Test.YthmfgidbcghnfaaGreatDoorQ0
import Derived.Test.YthmfgidbcghnfaaGreatDoorQ10
set_option maxRecDepth 1000000
set_option maxHeartbeats 8000000
set_option linter.unusedSimpArgs false
namespace Go.Proofs.YthmfgidbcghnfaaGreatDoor
open Go.RowKit
structure Kid where
 a:Value
 b:Value
 l:List Cel
 k:Nat
 ha:a.oneCell'=true
 hb:b.oneCell'=true
def fY (h:Nat) (p:Kid):List Value:=[.int .i64 (p.l.length:Int),.int .i64 ((h+1:Nat):Int),p.a,p.b]
theorem sO (h:Nat) (p:Kid):(fY h p).length=4:=rfl
theorem vT (h:Nat) (p:Kid):∀u∈fY h p,u.oneCell'=true:=by
 intro u hu;simp only[fY,bL,gL,uS]at hu;rcases hu with rfl|rfl|rfl|rfl
 ·rfl
 ·rfl
 ·exact p.ha
 ·exact p.hb
def eS (ks:List Kid):List Cel:=ks.flatMap (·.l)
theorem lU (xs ys:List Kid):eS (xs++ys)=eS xs++eS ys:=by simp[eS]
theorem aAE (x:Kid) (ys:List Kid):eS (x::ys)=x.l++eS ys:=by simp[eS]
theorem aA2 (x:Kid):eS [x]=x.l:=by simp[eS]
def eT (S:Nat->Prop) (W:World):Nat->Kid->Prop
 |0,p=>p.a=.slice none 0 0/\p.k=p.l.length/\1<=p.k/\p.k<=16/\dE S W 37 4 p.b (ivV p.l) p.k
 |h+1,p=>p.b=.slice none 0 0/\1<=p.k/\p.k<=16/\∃ks:List Kid,dE S W 125 4 p.a (en (fY h) ks) p.k/\ks.length=p.k/\p.l=eS ks/\∀q∈ks,8<=q.k/\eT S W h q
section
variable {S S' : Nat → Prop} {W W' : World} {n₀ : Nat}
theorem eT.weak (hs:∀g,S g->S' g):∀{h:Nat} {p:Kid},eT S W h p->eT S' W h p
 |0,_,⟨h1,h2,h3,h4,h5⟩=>⟨h1,h2,h3,h4,h5.weak hs⟩
 |_+1,_,⟨h1,h2,h3,ks,h4,h5,h6,h7⟩=>⟨h1,h2,h3,ks,h4.weak hs,h5,h6,fun q hq=>⟨(h7 q hq).1,(h7 q hq).2.weak hs⟩⟩
theorem eT.old:∀{h:Nat} {p:Kid},eT S W h p->eT (fun g=>S g/\g<W.heap.size) W h p
 |0,_,⟨h1,h2,h3,h4,h5⟩=>⟨h1,h2,h3,h4,h5.old⟩
 |_+1,_,⟨h1,h2,h3,ks,h4,h5,h6,h7⟩=>⟨h1,h2,h3,ks,h4.old,h5,h6,fun q hq=>⟨(h7 q hq).1,(h7 q hq).2.old⟩⟩
theorem eT.kept {row:Option Nat} (hg:W.grownBy W' row) (hr:∀X,row=some X->¬S X):∀{h:Nat} {p:Kid},eT S W h p->eT S W' h p
 |0,_,⟨h1,h2,h3,h4,h5⟩=>⟨h1,h2,h3,h4,h5.kept hg hr⟩
 |_+1,_,⟨h1,h2,h3,ks,h4,h5,h6,h7⟩=>⟨h1,h2,h3,ks,h4.kept hg hr,h5,h6,fun q hq=>⟨(h7 q hq).1,(h7 q hq).2.kept hg hr⟩⟩
theorem eT.keptT {row:Option Nat} (hg:W.grownBy W' row) (hT:∀X,row=some X->∃o:Obj,W.heap[X]? =some o/\∀cs fr,o≠.cells cs 37 fr/\o≠.cells cs 125 fr):∀{h:Nat} {p:Kid},eT S W h p->eT S W' h p
 |0,_,⟨h1,h2,h3,h4,h5⟩=>⟨h1,h2,h3,h4,h5.keptT hg fun X e=>by obtain⟨o,h1,h2⟩:=hT X e;exact⟨o,h1,fun cs fr=>(h2 cs fr).1⟩⟩
 |_+1,_,⟨h1,h2,h3,ks,h4,h5,h6,h7⟩=>⟨h1,h2,h3,ks,h4.keptT hg fun X e=>by obtain⟨o,h1,h2⟩:=hT X e;exact⟨o,h1,fun cs fr=>(h2 cs fr).2⟩,h5,h6,fun q hq=>⟨(h7 q hq).1,(h7 q hq).2.keptT hg hT⟩⟩
theorem eT.later {h:Nat} {p:Kid} (hn:eT S W h p) (hb:Below W.heap.size W W'):eT S W' h p:=
 hn.kept (row:=none) ⟨hb.os,hb.tape,hb.output,hb.size,fun k hk _=>hb.block k hk⟩ (fun _ e=>by cases e)
theorem eT.low (hb:Below n₀ W W'):∀{h:Nat} {p:Kid},eT (fun g=>g<n₀) W h p->eT (fun g=>g<n₀) W' h p
 |0,_,⟨h1,h2,h3,h4,h5⟩=>⟨h1,h2,h3,h4,h5.low hb⟩
 |_+1,_,⟨h1,h2,h3,ks,h4,h5,h6,h7⟩=>⟨h1,h2,h3,ks,h4.low hb,h5,h6,fun q hq=>⟨(h7 q hq).1,(h7 q hq).2.low hb⟩⟩
theorem eT.wid {h:Nat} {p:Kid} (hn:eT S W h p):1<=p.k/\p.k<=16:=by
 cases h with
 |zero=>exact⟨hn.2.2.1,hn.2.2.2.1⟩
 |succ h=>exact⟨hn.2.1,hn.2.2.1⟩
theorem eT.shape {h:Nat} {p:Kid} (hn:eT S W h p):(∃q k c,p.a=.slice q k c)/\∃q k c,p.b=.slice q k c:=by
 cases h with
 |zero=>obtain⟨q,c,e,_⟩:=hn.2.2.2.2.shape;exact⟨⟨_,_,_,hn.1⟩,_,_,_,e⟩
 |succ h=>obtain⟨h1,_,_,ks,h4,_⟩:=hn;obtain⟨q,c,e,_⟩:=h4.shape;exact⟨⟨_,_,_,e⟩,_,_,_,h1⟩
end
theorem tC {c:Nat}:∀ks:List Kid,(∀q∈ks,c<=q.l.length)->ks.length*c<=(eS ks).length
 |[],_=>by simp[eS]
 |q::ks,h=>by
  have h1:=tC ks (fun x hx=>h x (bF _ hx));exact Aj2
theorem aF0 {c:Nat}:∀ks:List Kid,(∀q∈ks,q.l.length<=c)->(eS ks).length<=ks.length*c
 |[],_=>by simp[eS]
 |q::ks,h=>by
  have h1:=aF0 ks (fun x hx=>h x (bF _ hx));exact Aj2
theorem eT.least {S:Nat->Prop} {W:World}:∀{h:Nat} {p:Kid},eT S W h p->p.k*8^h<=p.l.length
 |0,p,hn=>by rw[hn.2.1];simp
 |h+1,p,⟨_,_,_,ks,_,h5,h6,h7⟩=>by
  rw[h6,<-h5];refine aI ?_ (tC (c:=8^(h+1)) ks fun q hq=> ?_)
  ·exact aA _
  ·have h1:=eT.least (h7 q hq).2
   have h2:8*8^h<=q.k*8^h:=cS _ (h7 q hq).1;rw[aBG];omega
theorem eT.most {S:Nat->Prop} {W:World}:∀{h:Nat} {p:Kid},eT S W h p->p.l.length<=p.k*16^h
 |0,p,hn=>by rw[hn.2.1];simp
 |h+1,p,⟨_,_,_,ks,_,h5,h6,h7⟩=>by
  rw[h6,<-h5];refine aI (aF0 (c:=16^(h+1)) ks fun q hq=> ?_) (aA _);have h1:=eT.most (h7 q hq).2;have h2:q.k*16^h<=16*16^h:=cS _ (h7 q hq).2.wid.2;rw[aBG];omega
theorem eT.high {S:Nat->Prop} {W:World} {h:Nat} {p:Kid} (hn:eT S W h p):h<p.l.length:=by
 have h1:=hn.least;have h2:h<8^h:=Nat.lt_pow_self uAv;have h3:1*8^h<=p.k*8^h:=cS _ hn.wid.1;omega
theorem eT.len0 {S:Nat->Prop} {W:World} {h:Nat} {p:Kid} (hn:eT S W h p):0<p.l.length:=by have:=hn.high;omega
def jS (S:Nat->Prop) (W:World) (h:Nat) (v:Value) (ks:List Kid):Prop:=bY S W 4 v (en (fY h) ks) ks.length/\∀p∈ks,eT S W h p
section
variable {S S' : Nat → Prop} {W W' : World} {h : Nat} {v : Value} {ks : List Kid}
theorem jS.weak (hn:jS S W h v ks) (hs:∀g,S g->S' g):jS S' W h v ks:=⟨hn.1.weak hs,fun p hp=>(hn.2 p hp).weak hs⟩
theorem jS.old (hn:jS S W h v ks):jS (fun g=>S g/\g<W.heap.size) W h v ks:=⟨hn.1.old,fun p hp=>(hn.2 p hp).old⟩
theorem jS.kept {row:Option Nat} (hn:jS S W h v ks) (hg:W.grownBy W' row) (hr:∀X,row=some X->¬S X):jS S W' h v ks:=⟨hn.1.kept hg hr,fun p hp=>(hn.2 p hp).kept hg hr⟩
theorem jS.later (hn:jS S W h v ks) (hb:Below W.heap.size W W'):jS S W' h v ks:=⟨hn.1.later hb,fun p hp=>(hn.2 p hp).later hb⟩
end
def Fit (N:Nat) (ks:List Kid):Prop:=ks.length=lJ N/\∀p∈ks,(2<=ks.length->8<=p.k)/\(ks.length=1->p.k=N)
def oA:Array Value:=#[.int .i64 0,.int .i64 0,.slice none 0 0,.slice none 0 0]
def cW (S:Nat->Prop) (W:World) (c:Array Value) (l:List Cel):Prop:=
 (l=[]/\c=oA)\/∃h p,c=(fY h p).toArray/\p.l=l/\eT S W h p/\(h=0\/2<=p.k)
section
variable {S S' : Nat → Prop} {W W' : World} {c : Array Value} {l : List Cel} {n₀ : Nat}
theorem cW.weak (hn:cW S W c l) (hs:∀g,S g->S' g):cW S' W c l:=by
 rcases hn with hn|⟨h,p,h1,h2,h3,h4⟩
 ·exact .inl hn
 ·exact .inr ⟨h,p,h1,h2,h3.weak hs,h4⟩
theorem cW.old (hn:cW S W c l):cW (fun g=>S g/\g<W.heap.size) W c l:=by
 rcases hn with hn|⟨h,p,h1,h2,h3,h4⟩
 ·exact .inl hn
 ·exact .inr ⟨h,p,h1,h2,h3.old,h4⟩
theorem cW.kept {row:Option Nat} (hn:cW S W c l) (hg:W.grownBy W' row) (hr:∀X,row=some X->¬S X):cW S W' c l:=by
 rcases hn with hn|⟨h,p,h1,h2,h3,h4⟩
 ·exact .inl hn
 ·exact .inr ⟨h,p,h1,h2,h3.kept hg hr,h4⟩
theorem cW.keptT {row:Option Nat} (hn:cW S W c l) (hg:W.grownBy W' row) (hT:∀X,row=some X->∃o:Obj,W.heap[X]? =some o/\∀cs fr,o≠.cells cs 37 fr/\o≠.cells cs 125 fr):cW S W' c l:=by
 rcases hn with hn|⟨h,p,h1,h2,h3,h4⟩
 ·exact .inl hn
 ·exact .inr ⟨h,p,h1,h2,h3.keptT hg hT,h4⟩
theorem cW.later (hn:cW S W c l) (hb:Below W.heap.size W W'):cW S W' c l:=by
 rcases hn with hn|⟨h,p,h1,h2,h3,h4⟩
 ·exact .inl hn
 ·exact .inr ⟨h,p,h1,h2,h3.later hb,h4⟩
theorem cW.low (hn:cW (fun g=>g<n₀) W c l) (hb:Below n₀ W W'):cW (fun g=>g<n₀) W' c l:=by
 rcases hn with hn|⟨h,p,h1,h2,h3,h4⟩
 ·exact .inl hn
 ·exact .inr ⟨h,p,h1,h2,h3.low hb,h4⟩
theorem cW.but {X:Nat} {cs:Array Value} {T:TypeId} {fr:Nat×Nat} (hn:cW S W c l) (k:iL X W W') (hX:W.heap[X]? =some (.cells cs T fr)) (h1:T≠37) (h2:T≠125):cW S W' c l:=
 hn.keptT k.by_ fun Y e=>by
  cases e
  exact⟨_,hX,fun cs fr=>⟨fun e=>(by simp only[dK]at e;exact h1 e.2.1),fun e=>(by simp only[dK]at e;exact h2 e.2.1)⟩⟩
theorem cW.size (hn:cW S W c l):c.size=4:=by
 rcases hn with⟨_,rfl⟩|⟨h,p,rfl,_⟩<;>rfl
theorem cW.one (hn:cW S W c l):c.all (·.oneCell')=true:=by
 rcases hn with⟨_,rfl⟩|⟨h,p,rfl,_⟩
 ·simp[oA,Value.oneCell']
 ·exact Ak2
theorem cW.n (hn:cW S W c l):c[0]? =some (.int .i64 (l.length:Int)):=by
 rcases hn with⟨rfl,rfl⟩|⟨h,p,rfl,rfl,_⟩<;>rfl
theorem cW.cells (hn:cW S W c l):∃(d:Nat) (q1:Option Addr) (n1 c1:Nat) (q2:Option Addr) (n2 c2:Nat),c=#[.int .i64 (l.length:Int),.int .i64 (d:Int),.slice q1 n1 c1,.slice q2 n2 c2]/\d<=l.length/\(d=0↔l.length=0)/\(2<=d->2*8^(d-1)<=l.length)/\l.length<=16^d:=by
 rcases hn with⟨rfl,rfl⟩|⟨h,p,rfl,rfl,h3,h4⟩
 ·exact⟨0,_,_,_,_,_,_,rfl,aA _,Iff.rfl,fun h=>absurd h hO,by simp⟩
 ·obtain⟨⟨q1,n1,c1,e1⟩,q2,n2,c2,e2⟩:=h3.shape
  have h5:=h3.high;have h6:=h3.most;have h7:=h3.wid;refine⟨h+1,q1,n1,c1,q2,n2,c2,by rw[fY,e1,e2],by omega,by constructor<;>(intro;omega),fun h8=> ?_,?_⟩
  ·have h9:=h3.least
   have:2*8^h<=p.k*8^h:=cS _ (by rcases h4 with h4|h4<;>omega);rw[Nat.add_sub_cancel];omega
  ·have:p.k*16^h<=16*16^h:=cS _ h7.2
   rw[aBG];omega
end
end Go.Proofs.YthmfgidbcghnfaaGreatDoor
namespace Go.Proofs.YthmfgidbcghnfaaGreatDoor
open Go.RowKit
theorem aH7 {B:Nat} {e:TypeId} {s:Nat} {v:Value} {cs:List (Array Value)} {w:World} (h:bW B e s v cs w):bY (fun g=>B<=g) w s v (cs.flatMap Array.toList) cs.length:=by
 obtain⟨h1,h2,h3⟩:=h;have nl:=h1;obtain⟨hl,h4⟩:=h1;rcases h4 with⟨rfl,e0⟩|⟨g,cap,aj,fz,rfl,a2,a3,a4,a5,a6,a7⟩
 ·rw[e0]
  exact⟨none,0,rfl,aA _,by rw[hl,e0],.inl ⟨rfl,rfl⟩⟩
 ·refine⟨_,cap,rfl,by omega,hl,.inr ⟨g,0,rfl,a2,(gZ a3),fun j u hu=> ?_⟩⟩
  have:=nl.cells (g:=g) rfl j u hu;rwa[rE]at this
theorem aEC (h:Nat) (ks:List Kid):(ks.map fun p=>(fY h p).toArray).flatMap Array.toList=en (fY h) ks:=by
 unfold en;induction ks with
 |nil=>rfl
 |cons p ks ih=>rw[cA,cC,cC,ih]
theorem aPo {α:Type} {xs:List α} {kq:List (Kid×List α)} (h:kq.map (·.2)=jC (lJ xs.length) xs) (hk:∀x∈kq,x.1.k=x.2.length):Fit xs.length (kq.map (·.1)):=by
 have hl:kq.length=lJ xs.length:=by
  exact Am3
 refine⟨by rw[aM,hl],fun p hp=> ?_⟩;obtain⟨x,hx,rfl⟩:=dH.1 hp;have hm:x.2∈jC (lJ xs.length) xs:=by rw[<-h];exact dH.2 ⟨x,hx,rfl⟩
 rw[aM,hl,hk x hx];refine⟨(wH xs _ hm).2.2,fun h1=> ?_⟩;rw[aJI xs h1,bV]at hm;rw[hm]
theorem aIt:∀kq:List (Kid×List Cel),(∀x∈kq,x.1.l=x.2)->eS (kq.map (·.1))=(kq.map (·.2)).flatten
 |[],_=>rfl
 |x::kq,h=>by
  rw[cA,cA,aAE,rX,h x (aZ ..),aIt kq fun y hy=>h y (bF _ hy)]
theorem aF1:∀kq:List (Kid×List Kid),(∀x∈kq,x.1.l=eS x.2)->eS (kq.map (·.1))=eS ((kq.map (·.2)).flatten)
 |[],_=>rfl
 |x::kq,h=>by
  rw[cA,cA,aAE,rX,lU,h x (aZ ..),aF1 kq fun y hy=>h y (bF _ hy)]
theorem uF {α:Type} (xs:List α):(jC (lJ xs.length) xs).flatten=xs:=
 aB4 _ _ fun h=>aQ (by unfold lJ at h;omega)
theorem aHm {α:Type} {xs:List α} {pl:List (Value×List α)} (h:pl.map (·.2)=jC (lJ xs.length) xs) {k:Nat} (hk:k<pl.length):1<=pl[k].2.length/\pl[k].2.length<=16:=by
 have hm:pl[k].2∈jC (lJ xs.length) xs:=by rw[<-h];exact dH.2 ⟨pl[k],aX hk,rfl⟩
 exact⟨(wH xs _ hm).1,(wH xs _ hm).2.1⟩
theorem aEp {α:Type} {xs:List α} {pl:List (Value×List α)} (h:pl.map (·.2)=jC (lJ xs.length) xs):pl.length=lJ xs.length:=by
 exact Am3
theorem aLP (w:World) {S:Nat->Prop} (B:Nat) (ls:List (Value×List Cel)) (bt:∀k (hk:k<ls.length),w.cell? ⟨B,k,none⟩=some ls[k].1) (ev:∀p∈ls,bY S w 4 p.1 (ivV p.2) p.2.length)
  (xs:List Cel) (uk:fB ls ls.length=xs) (hN:xs.length<=100000) (hl:ls.length<=1000):
  Calls Tryz.prog 152 #[.slice (some ⟨B,0,none⟩) ls.length ls.length] w fun e w'=>∃v,e=.returned v/\∃ks,jS (fun g=>w.heap.size<=g) w' 0 v ks/\eS ks=xs/\Fit xs.length ks/\Below w.heap.size w w':=by
 have Li:=iH (aSZ xI aKT w B ls bt (fun p hp=>by exact ev p hp) xs uk hN hl);have HN:=iH hN;clear bt ev uk hN;go_enter Tryz.func152,Tryz.ntmps152;go_wp2_with (go_at_call 175;refine Li.out.mono ?_;rintro e w1 ⟨v1,rfl,pl,⟨a1,g1,Wf,rfl,Pw,dr,Px⟩,hpl,af⟩;have Oa:=iH Pw;have bd:=iH dr;have Wg:=iH Px;have jm:=iH hpl;have HB1:=iH af;clear Pw dr Px hpl af)
 clear Li;have Wh:(pl.length:Int)<=100000:=by have:=aEp jm.out;have:=HN.out;unfold lJ at*;omega
 go_loopw [3,9] (fun nv iv wr=>∃(k:Nat) (kq:List (Kid×List Cel)),iv=.int .i64 (k:Int)/\k<=pl.length/\Hid (bW w1.heap.size 125 4 nv ((kq.map (·.1)).map fun p=>(fY 0 p).toArray) wr)/\
  Hid ((∀x∈kq,eT (fun g=>w.heap.size<=g/\g<w1.heap.size) wr 0 x.1/\x.1.l=x.2)/\kq.map (·.2)=(pl.take k).map (·.2))/\Hid (Below w1.heap.size w1 wr)) (fun _ iv _=>pl.length-(intOf iv).toNat)
 case atStart=>exact⟨0,[],rfl,aS _,⟨lM _ _ _ _,aA _,fun c h=>uOu⟩,⟨fun x h=>uOu,rfl⟩,bB _ _⟩
 case round=>
  obtain⟨k,kq,rfl,hk,HP,HK,HB⟩:=hrel;by_cases hlt:k<pl.length
  ·have gj:=aHm jm.out hlt
   obtain rfl:a1=some ⟨g1,0,none⟩:=Oa.out hO;have hc:=(HB.out.cell (p:=⟨g1,k,none⟩) (aO _ _ (bd.out k hlt))).trans (bd.out k hlt);have HH:=iH (Wg.out _ (aX hlt));obtain⟨q,hq⟩:∃q,q=pl[k]:=⟨_,rfl⟩
   rw[<-hq]at hc gj HH;obtain⟨qv,ql⟩:=q;dsimp only at hc gj HH;obtain⟨n,hn⟩:∃n,n=ql.length:=⟨_,rfl⟩
   rw[<-hn]at gj HH;obtain⟨g,c,aj,fr,rfl,jq,_⟩:=HH.out.pos gj.1;have HQ:=iH hq;have mu:=iH hn;have Py:=iH gj;have x6:(n:Int)<=16:=by omega
   have bz:Hid (kq.length<=100000):=by
    exact Ai6
   clear hq hn gj jq hk;go_wp2_with (first
    |(refine aGh rfl 122 125 _ rfl #[.int .i64 (n:Int),.int .i64 1,.slice none 0 0,.slice (some ⟨g,0,none⟩) n c] 4 (.agg oA) rfl rfl uAv uAv Tryz.underlying122 uAu ?_;intro w3 h3 au gi;have je:=iH h3;have av:=iH au;clear h3 au gi)
    |(refine sI rfl (z:=.agg oA) (by_:=64) 122 125 _ _ rfl rfl (HP.out.later av.out) wr.heap.size rfl je.out rfl uAx Tryz.underlying122 uAu rfl uAv (by rw[aM,aM];exact bz.out) uAv ?_;intro v6 w6 Bm Ep;have lg:=iH Bm;have jl:=iH Ep;clear Bm Ep))
   go_roundw
   case rel=>
    have Ob:=HP.out.later av.out;have Jp:∀X,_=some X->w1.heap.size<=X:=fun X e=>by
     exact Ah3
    refine⟨k+1,kq++[(⟨.slice none 0 0,.slice (some ⟨g,0,none⟩) n c,ql,n,rfl,rfl⟩,ql)],by simp,by omega,?_,⟨fun x hx=> ?_,?_⟩,?_⟩
    ·rw[bZ,bZ]
     have e:((fY 0 ⟨.slice none 0 0,.slice (some ⟨g,0,none⟩) n c,ql,n,rfl,rfl⟩).toArray:Array Value)=#[.int .i64 (n:Int),.int .i64 1,.slice none 0 0,.slice (some ⟨g,0,none⟩) n c]:=by rw[mu.out];rfl
     rw[qR,qR,e];exact lg.out
    ·rcases dL.1 hx with hx|hx
     ·exact⟨((HK.out.1 x hx).1.later av.out).kept jl.out (fun X e h=>by have:=Jp X e;omega),(HK.out.1 x hx).2⟩
     ·rw[bV]at hx
      subst hx;refine⟨⟨rfl,mu.out,Py.out.1,Py.out.2,?_⟩,rfl⟩;have hh:=HH.out.old;exact((hh.later (tW HB.out av.out)).kept jl.out (fun X e h=>by have:=Jp X e;omega))
    ·exact Aj6
    ·exact(tW HB.out av.out).trans (jR jl.out (by have:=HB.out.size;have:=av.out.size;omega) Jp)
   case measure=>simp[intOf];omega
  ·obtain rfl:k=pl.length:=by omega
   go_wp2_with fail
   go_ret;have hk:=HK.out;rw[mZ,jm.out]at hk;refine⟨_,rfl,kq.map (·.1),⟨?_,fun p hp=> ?_⟩,?_,aPo hk.2 fun x hx=> ?_,tW HB1.out HB.out⟩
   ·have h:=(aH7 HP.out).weak (S':=fun g=>w.heap.size<=g) (fun g hg=>aI HB1.out.size hg)
    rw[aEC,aM]at h;exact h
   ·exact Ak8
   ·rw[aIt _ fun x hx=>(hk.1 x hx).2,hk.2,uF]
   ·have h:=(hk.1 x hx)
    rw[h.1.2.1,h.2]
theorem qZ {W:World} {T:TypeId} {h g:Nat} {ks:List Kid} {aj:Array Value} {fr:Nat×Nat} (hg:W.heap[g]? =some (.cells aj T fr)) (hc:∀(j:Nat) (u:Value),(en (fY h) ks)[j]? =some u->aj[j]? =some u) {j:Nat} (hj:j<ks.length):
  W.rangeAt g (j*4) (fY h ks[j]):=by
 intro i v hv;have hi:i<4:=by have:=(List.getElem?_eq_some_iff.1 hv).1;exact this
 refine aG hg (hc _ v ?_);rw[zT (sO h) ks j i ks[j] (List.getElem?_eq_getElem hj) hi];exact hv
theorem pP {ks:List Kid} {j:Nat} (hj:j<ks.length):(eS (ks.take (j+1))).length=(eS (ks.take j)).length+ks[j].l.length:=by
 rw[bP hj,lU,aA2,aB]
theorem wJ {ks:List Kid}:∀j,(eS (ks.take j)).length<=(eS ks).length:=fun j=>by
 have e:=eD j ks;have:=aU (fun x=>(eS x).length) e;rw[lU,aB]at this;omega
theorem aHE {α:Type} {ys:List α}:∀{L:List (List α)},ys∈L->∀y∈ys,y∈L.flatten:=fun h _ hy=>List.mem_flatten.2 ⟨_,h,hy⟩
theorem aDd:∀(L:List (List Kid)) {ys:List Kid},ys∈L->(eS ys).length<=(eS L.flatten).length
 |[],_,h=>by cases h
 |x::L,ys,h=>by
  rw[rX,lU,aB];rcases bL.1 h with rfl|h
  ·omega
  ·have:=aDd L h
   omega
theorem aEg (w:World) {S:Nat->Prop} (h:Nat) (B:Nat) (ls:List (Value×List Kid)) (bt:∀k (hk:k<ls.length),w.cell? ⟨B,k,none⟩=some ls[k].1) (ev:∀p∈ls,bY S w 4 p.1 (en (fY h) p.2) p.2.length)
  (xs:List Kid) (uk:fB ls ls.length=xs) (hx:∀q∈xs,8<=q.k/\eT S w h q) (hN:(eS xs).length<=100000) (hl:ls.length<=1000):
  Calls Tryz.prog 174 #[.slice (some ⟨B,0,none⟩) ls.length ls.length] w fun e w'=>∃v,e=.returned v/\∃ks,jS (fun g=>S g\/w.heap.size<=g) w' (h+1) v ks/\eS ks=eS xs/\Fit xs.length ks/\Below w.heap.size w w':=by
 have Lj:xs.length<=100000:=by
  have:=tC (c:=1) xs fun q hq=>(hx q hq).2.len0
  omega
 have Li:=iH (aQU (sO h) (vT h) w B ls bt ev xs uk Lj hl);have HN:=iH hN;have GD:=iH Lj;have HX:Hid (∀q∈xs,8<=q.k/\eT (fun g=>S g/\g<w.heap.size) w h q):=fun q hq=>⟨(hx q hq).1,(hx q hq).2.old⟩
 obtain⟨H,hH⟩:∃H,H=h+1:=⟨_,rfl⟩
 have Wi:=iH hH;clear bt ev uk hN Lj hx hH;go_enter Tryz.func174,Tryz.ntmps174;go_wp2_with (go_at_call 212;refine Li.out.mono ?_;rintro e w1 ⟨v1,rfl,pl,⟨a1,g1,Wf,rfl,Pw,dr,Px⟩,hpl,af⟩;have Oa:=iH Pw;have bd:=iH dr;have Wg:=iH Px;have jm:=iH hpl;have HB1:=iH af;clear Pw dr Px hpl af)
 clear Li;have Wh:(pl.length:Int)<=100000:=by have:=aEp jm.out;have:=GD.out;unfold lJ at*;omega
 go_loopw [3,12] (fun nv iv wr=>∃(k:Nat) (kq:List (Kid×List Kid)),iv=.int .i64 (k:Int)/\k<=pl.length/\Hid (bW w1.heap.size 125 4 nv ((kq.map (·.1)).map fun p=>(fY (h+1) p).toArray) wr)/\
  Hid ((∀x∈kq,eT (fun g=>(S g\/w.heap.size<=g)/\g<w1.heap.size) wr (h+1) x.1/\x.1.l=eS x.2/\x.1.k=x.2.length)/\kq.map (·.2)=(pl.take k).map (·.2))/\Hid (Below w1.heap.size w1 wr)) (fun _ iv _=>pl.length-(intOf iv).toNat)
 case atStart=>exact⟨0,[],rfl,aS _,⟨lM _ _ _ _,aA _,fun c h=>uOu⟩,⟨fun x h=>uOu,rfl⟩,bB _ _⟩
 case round=>
  obtain⟨Wo,Pz⟩:∃Wo,Wo=wr:=⟨_,rfl⟩
  subst Pz;obtain⟨k,kq,rfl,hk,HP,HK,HB⟩:=hrel;by_cases hlt:k<pl.length
  ·have gj:=aHm jm.out hlt
   obtain rfl:a1=some ⟨g1,0,none⟩:=Oa.out hO;have hc:=(HB.out.cell (p:=⟨g1,k,none⟩) (aO _ _ (bd.out k hlt))).trans (bd.out k hlt);have HH:=iH (Wg.out _ (aX hlt));have pd:pl[k].2∈jC (lJ xs.length) xs:=by rw[<-jm.out];exact dH.2 ⟨pl[k],aX hlt,rfl⟩
   obtain⟨q,hq⟩:∃q,q=pl[k]:=⟨_,rfl⟩
   rw[<-hq]at hc gj HH pd;obtain⟨qv,ql⟩:=q;dsimp only at hc gj HH pd;have T6:∀y∈ql,y∈xs:=fun y hy=>by have:=aHE pd y hy;rwa[uF]at this
   have jz:(eS ql).length<=100000:=by have:=aDd _ pd;rw[uF]at this;have:=HN.out;omega
   obtain⟨n,hn⟩:∃n,n=ql.length:=⟨_,rfl⟩
   rw[<-hn]at gj HH;obtain⟨g,c,aj,fr,rfl,jq,Wj,hg,ep⟩:=HH.out.pos gj.1;have MM:(H:Int)<=100000:=by
    have h1:=(HX.out _ (T6 ql[0] (aX hO))).2.high;have h2:=tC (c:=1) ql fun q hq=>(HX.out q (T6 q hq)).2.len0
    have h3:ql[0].l.length<=(eS ql).length:=by
     have e1:(eS (ql.take 1)).length=(eS (ql.take 0)).length+ql[0].l.length:=pP hO;have:=wJ (ks:=ql) 1;omega
    have:=Wi.out;omega
   have Cn:=(HB.out.block g (gZ hg)).trans hg;have ch:Wo.cell? ⟨g,1,none⟩=some (.int .i64 (H:Int)):=by
    have:=qZ (h:=h) (g:=g) Cn ep (j:=0) hO 1 (.int .i64 ((h+1:Nat):Int)) rfl;rw[Wi.out];simpa using this
   have zi:=iH Cn;have Jk:=iH ep;have HQ:=iH hq;have mu:=iH hn;have Py:=iH gj;have AS:=iH T6;have Wk:=iH jz;have x6:(n:Int)<=16:=by omega
   have Lc:(0:Int)<n:=by omega
   have Wl:Hid (g<w1.heap.size):=(gZ hg)
   have bz:Hid (kq.length<=100000):=by
    exact Ai6
   have AT:=iH HH.out.old;clear hq hn gj jq hk T6 jz pd Wj hg ep Cn;go_wp2_with (refine aV rfl 125 _ _ rfl Wo.heap.size #[.int .i64 0,.int .i64 ((H:Int)+1),.slice (some ⟨g,0,none⟩) n c,.slice none 0 0] rfl rfl 125 oA (aC _ _) cV rfl uAx ?_;intro w2 h2 k2;have HG2:=iH h2;have aq:Hid (Below Wo.heap.size Wo w2):=(Below.newly' _ _).trans (k2.below (aA _));clear h2 k2)
   go_loopw [25] (fun iv wl=>∃(j:Nat),iv=.int .i64 (j:Int)/\j<=n/\Hid (wl.heap[Wo.heap.size]? =some (.cells #[.int .i64 ((eS (ql.take j)).length:Int),.int .i64 ((H:Int)+1),.slice (some ⟨g,0,none⟩) n c,.slice none 0 0] 125 (0,0)))/\Hid (Below Wo.heap.size Wo wl)) (fun iv _=>n-(intOf iv).toNat)
   case atStart=>exact⟨0,rfl,aS _,HG2,aq⟩
   case round=>
    clear HG2 aq;obtain⟨j,rfl,hj,HG,jt⟩:=hrel;by_cases T7:j<n
    ·have tp:j<ql.length:=by have:=mu.out;omega
     have nc:=iH (qZ (h:=h) (g:=g) ((jt.out.block g (gZ zi.out)).trans zi.out) Jk.out tp);have od:=iH (pP tp);have dx:=wJ (ks:=ql) (j+1);obtain⟨y,hy⟩:∃y,y=ql[j]:=⟨_,rfl⟩
     rw[<-hy]at nc od;obtain⟨s,hs⟩:∃s,s=(eS (ql.take j)).length:=⟨_,rfl⟩
     obtain⟨z,hz⟩:∃z,z=y.l.length:=⟨_,rfl⟩
     have de:(s:Int)+(z:Int)<=100000:=by have:=Wk.out;have:=od.out;omega
     rw[<-hs]at HG;have HS:=iH hs;have HZ:=iH hz;have P0:(j:Int)<n:=by omega
     have GE:Hid ((fY h y).toArray.all (·.oneCell')=true):=by
      show _=_;rw[cD];intro u hu;exact vT h y u uPy
     have x7:Hid (Wo.heap.size<wr.heap.size):=(gZ HG.out)
     clear hy hs hz dx hj tp T7;go_wp2_with (first
      |(refine cO rfl 125 _ rfl g (j*4) rfl (fY h y) _ nc.out Tryz.underlying125 rfl cV ?_)
      |(refine aV rfl 125 _ _ rfl wr.heap.size (fY h y).toArray rfl rfl 125 oA (aC _ _) cV rfl GE.out ?_;intro w5 h5 k5;have bp:Hid (Below wr.heap.size wr w5):=(Below.newly' _ _).trans (k5.below (aA _));have fg:=iH ((bp.out.block _ x7.out).trans HG.out);have q5:w5.cell? ⟨Wo.heap.size,0,none⟩=some (.int .i64 (s:Int)):=aG fg.out rfl;have f5:w5.frozen? ⟨Wo.heap.size,0,none⟩=false:=frozen_of_row _ _ _ _ _ fg.out;have r5:w5.cell? ⟨wr.heap.size,0,none⟩=some (.int .i64 (z:Int)):=(by rw[HZ.out];exact aG h5 rfl);clear h5 k5))
     go_roundw
     case rel=>
      refine⟨j+1,by simp,by have:=mu.out;omega,?_,(tW jt.out bp.out).setCell (p:=⟨Wo.heap.size,0,none⟩) (aA _) _⟩;rw[od.out,<-HS.out,<-HZ.out];exact heap_setCell_same w5 _ 0 _ _ _ fg.out
     case measure=>simp[intOf];omega
    ·obtain rfl:j=n:=by omega
     have Wm:Hid (eS (ql.take j)=eS ql):=by show _=_;rw[bC (by have:=mu.out;omega)]
     rw[Wm.out]at HG;have AU:=iH (HP.out.later jt.out);clear hj T7;go_wp2_with (first
      |(refine aW rfl 125 _ rfl Wo.heap.size rfl 125 _ _ _ HG.out Tryz.underlying125 rfl cV ?_)
      |(refine aGh rfl 122 125 _ rfl #[.int .i64 ((eS ql).length:Int),.int .i64 ((H:Int)+1),.slice (some ⟨g,0,none⟩) j c,.slice none 0 0] 4 (.agg oA) rfl rfl uAv uAv Tryz.underlying122 uAu ?_;intro w3 h3 au gi;have je:=iH h3;have av:=iH au;clear h3 au gi)
      |(refine sI rfl (z:=.agg oA) (by_:=64) 122 125 _ _ rfl rfl (AU.out.later av.out) wr.heap.size rfl je.out rfl uAx Tryz.underlying122 uAu rfl uAv (by rw[aM,aM];exact bz.out) uAv ?_;intro v6 w6 Bm Ep;have lg:=iH Bm;have jl:=iH Ep;clear Bm Ep))
     go_roundw
     case rel=>
      have Ob:=AU.out.later av.out;have au:Below Wo.heap.size Wo w3:=tW jt.out av.out;have Jp:∀X,_=some X->w1.heap.size<=X:=fun X e=>by
       exact Ah3
      have ag:w.heap.size<=w1.heap.size:=HB1.out.size;refine⟨k+1,kq++[(⟨.slice (some ⟨g,0,none⟩) j c,.slice none 0 0,eS ql,j,rfl,rfl⟩,ql)],by simp,by omega,?_,⟨fun x hx=> ?_,?_⟩,?_⟩
      ·rw[bZ,bZ]
       have e:((fY (h+1) ⟨.slice (some ⟨g,0,none⟩) j c,.slice none 0 0,eS ql,j,rfl,rfl⟩).toArray:Array Value)=#[.int .i64 ((eS ql).length:Int),.int .i64 ((H:Int)+1),.slice (some ⟨g,0,none⟩) j c,.slice none 0 0]:=by
        rw[Wi.out];simp[fY]
       rw[qR,qR,e];exact lg.out
      ·rcases dL.1 hx with hx|hx
       ·exact⟨((HK.out.1 x hx).1.later au).kept jl.out (fun X e h=>by have:=Jp X e;omega),(HK.out.1 x hx).2⟩
       ·rw[bV]at hx
        subst hx;refine⟨⟨rfl,Py.out.1,Py.out.2,ql,?_,mu.out.symm,rfl,fun q hq=>⟨(HX.out q (AS.out q hq)).1,?_⟩⟩,rfl,mu.out⟩
        ·exact(((AT.out.later HB.out).later au).kept jl.out (fun X e h=>by have:=Jp X e;omega)).weak fun g hg=>⟨.inr hg.1,hg.2⟩
        ·exact(((HX.out q (AS.out q hq)).2.later (HB1.out.trans ((tW HB.out au).mono ag))).kept jl.out (fun X e h=>by have:=Jp X e;omega)).weak fun g hg=>⟨.inl hg.1,by omega⟩
      ·exact Aj6
      ·exact(tW HB.out au).trans (jR jl.out (by have:=HB.out.size;have:=au.size;omega) Jp)
     case measure=>simp[intOf];omega
  ·obtain rfl:k=pl.length:=by omega
   go_wp2_with fail
   go_ret;have hk:=HK.out;rw[mZ,jm.out]at hk;refine⟨_,rfl,kq.map (·.1),⟨?_,fun p hp=> ?_⟩,?_,aPo hk.2 fun x hx=>(hk.1 x hx).2.2,tW HB1.out HB.out⟩
   ·have h:=(aH7 HP.out).weak (S':=fun g=>S g\/w.heap.size<=g) (fun g hg=>.inr (aI HB1.out.size hg))
    rw[aEC,aM]at h;exact h
   ·exact Ak8
   ·rw[aF1 _ fun x hx=>(hk.1 x hx).2.1,hk.2,uF]
theorem aEx {α:Type} (w:World) (ls:List (Value×α)) (T:TypeId):∀k (hk:k<ls.length),(w.alloc (.cells (ls.map (·.1)).toArray T)).cell? ⟨w.heap.size,k,none⟩=some ls[k].1:=fun k hk=>
 aG (aC w _) (by rw[List.getElem?_toArray,List.getElem?_map,List.getElem?_eq_getElem hk];rfl)
theorem aKD (h:Nat) (p:Kid):(fY h p).toArray.all (·.oneCell')=true:=by
 exact Ak2
theorem fL {W:World} {c d:Array Value} {T T':TypeId} {w2:World} (e:(W.alloc (.cells c T)).alloc (.cells d T')=w2):
  Below W.heap.size W w2/\w2.heap[W.heap.size]? =some (.cells c T (0,0))/\w2.heap[W.heap.size+1]? =some (.cells d T' (0,0))/\w2.heap.size=W.heap.size+2:=by
 subst e;refine⟨Below.more (Below.newly' _ _) _,((Below.newly' _ _).block _ uAy).trans (aC _ _),?_,by simp⟩;have h:=aC (W.alloc (.cells c T)) (.cells d T');rwa[World.size_alloc]at h
theorem jG {W W':World} {g o:Nat} {vs:List Value} (h:W.rangeAt g o vs) (hb:Below W.heap.size W W'):W'.rangeAt g o vs:=
 fun j v hv=>(hb.cell (p:=⟨g,o+j,none⟩) (aO W _ (h j v hv))).trans (h j v hv)
theorem aJu (w:World) {S:Nat->Prop} (h:Nat) (ls:List (Value×List Kid)) (ev:∀p∈ls,bY S w 4 p.1 (en (fY h) p.2) p.2.length)
  (xs:List Kid) (uk:fB ls ls.length=xs) (hx:∀q∈xs,8<=q.k/\eT S w h q) (hN:(eS xs).length<=100000) (hl:ls.length<=1000):
  Calls Tryz.prog 174 #[.slice (some ⟨w.heap.size,0,none⟩) ls.length ls.length] (w.alloc (.cells (ls.map (·.1)).toArray 122)) fun e w'=>∃v,e=.returned v/\∃ks,jS (fun g=>S g\/w.heap.size<=g) w' (h+1) v ks/\eS ks=eS xs/\Fit xs.length ks/\Below w.heap.size w w':=by
 have hb:=Below.newly' w (.cells (ls.map (·.1)).toArray 122);refine(aEg (S:=S) _ h w.heap.size ls (aEx w ls _) (fun p hp=>(ev p hp).later hb) xs uk (fun q hq=>⟨(hx q hq).1,(hx q hq).2.later hb⟩) hN hl).mono ?_;rintro e w' ⟨v,rfl,ks,h1,h2,h3,h4⟩;exact⟨v,rfl,ks,h1.weak fun g hg=>hg.imp_right fun h=>(by simp at h;omega),h2,h3,tW hb h4⟩
theorem aCH (w:World) {S:Nat->Prop} (ls:List (Value×List Cel)) (ev:∀p∈ls,bY S w 4 p.1 (ivV p.2) p.2.length)
  (xs:List Cel) (uk:fB ls ls.length=xs) (hN:xs.length<=100000) (hl:ls.length<=1000):
  Calls Tryz.prog 152 #[.slice (some ⟨w.heap.size,0,none⟩) ls.length ls.length] (w.alloc (.cells (ls.map (·.1)).toArray 123)) fun e w'=>∃v,e=.returned v/\∃ks,jS (fun g=>w.heap.size<=g) w' 0 v ks/\eS ks=xs/\Fit xs.length ks/\Below w.heap.size w w':=by
 have hb:=Below.newly' w (.cells (ls.map (·.1)).toArray 123);refine(aLP (S:=S) _ w.heap.size ls (aEx w ls _) (fun p hp=>(ev p hp).later hb) xs uk hN hl).mono ?_;rintro e w' ⟨v,rfl,ks,h1,h2,h3,h4⟩;exact⟨v,rfl,ks,h1.weak fun g hg=>(by simp at hg;omega),h2,h3,tW hb h4⟩
theorem aHZ {N m:Nat} {ks:List Kid} (hf:Fit N ks) (h0:1<=N) (h1:N<=32) (hm:m<=8) (hN:m<=N):(1<=ks.length/\ks.length<=2)/\∀x∈ks,m<=x.k/\(2<=ks.length->8<=x.k):=by
 have hl:1<=ks.length/\ks.length<=2:=by rw[hf.1];unfold lJ;omega
 refine⟨hl,fun x hx=>⟨?_,(hf.2 x hx).1⟩⟩;by_cases h2:2<=ks.length
 ·have:=(hf.2 x hx).1 h2;omega
 ·have:=(hf.2 x hx).2 hO;omega
inductive Tr where
 |nd (k n:Int) (t:ByteArray) (ks:List ByteArray) (xs:List Tr)
namespace Tr
def k:Tr->Int|nd k _ _ _ _=>k
def n:Tr->Int|nd _ n _ _ _=>n
def t:Tr->ByteArray|nd _ _ t _ _=>t
def ks:Tr->List ByteArray|nd _ _ _ ks _=>ks
def xs:Tr->List Tr|nd _ _ _ _ xs=>xs
end Tr
abbrev jH:Tr:=.nd 0 0 ⟨#[]⟩ [] []
theorem kD {P:Tr->Prop} (h:∀k n t ks xs,(∀x∈xs,P x)->P (.nd k n t ks xs)):∀a,P a:=by
 intro a;apply Tr.rec (motive_1:=P) (motive_2:=fun l=>∀x∈l,P x)
 ·intro k n t ks xs ih;exact h k n t ks xs ih
 ·intro x hx;cases hx
 ·intro a l ha hl x hx
  rcases bL.1 hx with rfl|hx
  ·exact ha
  ·exact hl x hx
mutual
def gJ:Tr->Nat
 | .nd _ _ _ _ xs=>fP xs+1
def fP:List Tr->Nat
 |[]=>0
 |x::r=>max (gJ x) (fP r)
end
mutual
def eW:Tr->Nat
 | .nd _ _ _ _ xs=>cU xs+1
def cU:List Tr->Nat
 |[]=>0
 |x::r=>eW x+cU r
end
theorem xJ (a:Tr):gJ a=fP a.xs+1:=by cases a;rw[gJ];rfl
theorem qK (a:Tr):eW a=cU a.xs+1:=by cases a;rw[eW];rfl
theorem aRl (a:Tr):1<=eW a:=by rw[qK];omega
theorem zU (a:Tr):1<=gJ a:=by rw[xJ];omega
theorem qW (l m:List Tr):cU (l++m)=cU l+cU m:=by
 induction l with
 |nil=>simp[cU]
 |cons x l ih=>rw[aP,cU,cU,ih];omega
theorem sW (l m:List Tr):fP (l++m)=max (fP l) (fP m):=by
 induction l with
 |nil=>simp[fP]
 |cons x l ih=>rw[aP,fP,fP,ih];omega
theorem nT {l m:List Tr} (h:l.Perm m):cU l=cU m:=by
 induction h with
 |nil=>rfl
 |cons x _ ih=>rw[cU,cU,ih]
 |swap x y l=>simp only[cU];omega
 |trans _ _ h1 h2=>rw[h1,h2]
theorem pH {l m:List Tr} (h:l.Perm m):fP l=fP m:=by
 induction h with
 |nil=>rfl
 |cons x _ ih=>rw[fP,fP,ih]
 |swap x y l=>simp only[fP];omega
 |trans _ _ h1 h2=>rw[h1,h2]
theorem aHy {l:List Tr} {x:Tr} (h:x∈l):eW x<=cU l:=by
 induction l with
 |nil=>cases h
 |cons y l ih=>
  rw[cU];rcases bL.1 h with rfl|h
  ·omega
  ·have:=ih h;omega
theorem zV {l:List Tr} {x:Tr} (h:x∈l):gJ x<=fP l:=by
 induction l with
 |nil=>cases h
 |cons y l ih=>
  rw[fP];rcases bL.1 h with rfl|h
  ·omega
  ·have:=ih h;omega
theorem aOU (l:List Tr):l.length<=cU l:=by
 induction l with
 |nil=>simp
 |cons x l ih=>rw[cU,aD];have:=aRl x;omega
def aBj (k:ByteArray):List UInt8:=pW (3,0,kb k)
mutual
def dW:Tr->List UInt8
 | .nd k n t ks xs=>if k<=3 then pW (k,n,kb t)else bt8 (k+1)::(nC k ks xs++[0])
def nC (k:Int):List ByteArray->List Tr->List UInt8
 |_,[]=>[]
 |ks,x::r=>(if k=5 then aBj (ks.headD ⟨#[]⟩)else[])++(dW x++nC k ks.tail r)
end
mutual
def kL:Tr->Prop
  | .nd k n t ks xs=>aDo xs/\
    ((0<=k/\k<=3/\iB (k,n,kb t)=0/\InR n/\ks=[]/\xs=[])\/
     (n=0/\t=⟨#[]⟩/\((k=4/\ks=[])\/(k=5/\ks.length=xs.length/\ks.Pairwise fun a b=>kb a<kb b)\/(k=6/\ks=[]/\xs.Pairwise fun a b=>dW a<dW b))))
def aDo:List Tr->Prop
 |[]=>True
 |x::r=>kL x/\aDo r
end
theorem aMD {l:List Tr}:aDo l↔∀x∈l,kL x:=by
 induction l with
 |nil=>simp[aDo]
 |cons x l ih=>rw[aDo,ih];simp
theorem iA {a:Tr}:kL a↔(∀x∈a.xs,kL x)/\
    ((0<=a.k/\a.k<=3/\iB (a.k,a.n,kb a.t)=0/\InR a.n/\a.ks=[]/\a.xs=[])\/
     (a.n=0/\a.t=⟨#[]⟩/\((a.k=4/\a.ks=[])\/(a.k=5/\a.ks.length=a.xs.length/\a.ks.Pairwise fun a b=>kb a<kb b)\/(a.k=6/\a.ks=[]/\a.xs.Pairwise fun a b=>dW a<dW b)))):=by
  cases a with
  |nd k n t ks xs=>rw[kL,aMD];rfl
theorem kL.part {a x:Tr} (h:kL a) (hx:x∈a.xs):kL x:=(iA.1 h).1 x hx
theorem aJt:InR 0:=by unfold InR;omega
end Go.Proofs.YthmfgidbcghnfaaGreatDoor
