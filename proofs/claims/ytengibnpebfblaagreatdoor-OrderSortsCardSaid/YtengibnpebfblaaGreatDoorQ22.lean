import Derived.Test.YtengibnpebfblaaGreatDoorQ0
import Derived.Test.YtengibnpebfblaaGreatDoorQ18
import Derived.Test.YtengibnpebfblaaGreatDoorQ20
set_option maxRecDepth 1000000
set_option maxHeartbeats 8000000
set_option linter.unusedSimpArgs false
namespace Go.Proofs.YtengibnpebfblaaGreatDoor
open Go.RowKit
def Kq (S:Nat->Prop) (w w':World):Prop:=∀(g:Nat) (o:Obj),S g->w.heap[g]? =some o->w'.heap[g]? =some o
section
variable {S S' : Nat → Prop} {w w' w'' : World}
theorem Kq.later (hb:Below w.heap.size w w'):Kq S w w':=fun g _ _ h=>(hb.block g (gZ h)).trans h
theorem Kq.low {n₀:Nat} (hb:Below n₀ w w') (hS:∀g,S g->g<n₀):Kq S w w':=fun g _ hg h=>(hb.block g (hS g hg)).trans h
theorem Kq.only {X:Nat} (k:jK X w w') (hX:¬S X):Kq S w w':=fun _ _ hg h=>k.other h (fun e=>hX (e▸hg))
theorem Kq.grown {row:Option Nat} (hg:w.grownBy w' row) (hX:∀X,row=some X->¬S X):Kq S w w':=fun g _ hS h=>(hg.block g (gZ h) (fun e=>hX g e.symm hS)).trans h
theorem Kq.kp (h:Kq S w w'):Kp S w w':=fun g o hg _ e=>h g o hg e
theorem Kq.refl:Kq S w w:=fun _ _ _ e=>e
theorem Kq.trans (h:Kq S w w') (k:Kq S w' w''):Kq S w w'':=fun g o hg e=>k g o hg (h g o hg e)
theorem bZ.imp {s n:Nat} {v:Value} {cs:List Value} (h:bZ S w s v cs n) (k:Kq S w w') (hS:∀g,S g->g<w.heap.size->S' g):bZ S' w' s v cs n:=by
 obtain⟨a,cap,h1,h2,h3,h4⟩:=h;refine⟨a,cap,h1,h2,h3,h4.imp_right ?_⟩;rintro⟨g,o,e,hg,hlt,h⟩;have hb:w.heap[g]? =some w.heap[g]:=Array.getElem?_eq_getElem hlt;have hb':=k g _ hg hb;exact⟨g,o,e,hS g hg hlt,(gZ hb'),fun j u hu=>(World.cell?_of_block (a:=⟨g,o+j,none⟩) (hb'.trans hb.symm)).trans (h j u hu)⟩
theorem dP.imp {T:TypeId} {s n:Nat} {v:Value} {cs:List Value} (h:dP S w T s v cs n) (k:Kq S w w') (hS:∀g,S g->g<w.heap.size->S' g):dP S' w' T s v cs n:=by
 obtain⟨h0,h⟩:=h;refine⟨h0,h.imp_right ?_⟩;rintro⟨h1,g,c,cur,fr,h2,h3,hg,h4,h5⟩;exact⟨h1,g,c,cur,fr,h2,h3,hS g hg (gZ h4),k g _ hg h4,h5⟩
theorem fD.imp (k:Kq S w w') (hS:∀g,S g->g<w.heap.size->S' g):∀{h:Nat} {p:Kid},fD S w h p->fD S' w' h p
 |0,_,⟨h1,h2,h3,h4,h5⟩=>⟨h1,h2,h3,h4,h5.imp k hS⟩
 |_+1,_,⟨h1,h2,h3,ks,h4,h5,h6,h7⟩=>⟨h1,h2,h3,ks,h4.imp k hS,h5,h6,fun q hq=>⟨(h7 q hq).1,(h7 q hq).2.imp k hS⟩⟩
theorem dS.imp {c:Array Value} {l:List Cel} (hn:dS S w c l) (k:Kq S w w') (hS:∀g,S g->g<w.heap.size->S' g):dS S' w' c l:=by
 rcases hn with hn|⟨h,p,h1,h2,h3,h4⟩
 ·exact .inl hn
 ·exact .inr ⟨h,p,h1,h2,h3.imp k hS,h4⟩
end
def iW (rc mc:Array Value) (d:Value) (n:Nat):Array Value:=rc++mc++ #[d,.int .i64 (n:Int)]
def wT (k:Int) (l:List Cel):List Cel:=if k=4 then l else[]
def pC (k:Int) (ks:List ByteArray) (xs:List Tr) (l:List Cel):List Ent:=(wR k ks xs).zip l
def aDt (S:Nat->Prop) (W:World) (b:Nat) (k:Int) (ks:List ByteArray) (xs:List Tr) (l:List Cel):Prop:=
 ∃(rc mc:Array Value) (d:Value) (fr:Nat×Nat) (s:Nat) (n:Int),W.heap[b]? =some (.cells (iW rc mc d (eO xs)) 103 fr)/\s<18446744073709551616/\dS S W rc (wT k l)/\eQ S W s n (pC k ks xs l) mc/\bZ S W 1 d (iv (tal xs)) (tal xs).length
mutual
def VAt (S:Nat->Prop) (W:World):Tr->Cel->Prop
 | .nd k n t ks xs,x=>x.k=k/\x.n=n/\x.t=t/\((k<=3/\x.p=none)\/(4<=k/\∃(b:Nat) (l:List Cel),x.p=some ⟨b,0,none⟩/\S b/\gC S W xs l/\aDt S W b k ks xs l))
def gC (S:Nat->Prop) (W:World):List Tr->List Cel->Prop
 |[],l=>l=[]
 |x::r,l=>∃c l',l=c::l'/\VAt S W x c/\gC S W r l'
end
theorem fG {S:Nat->Prop} {W:World}:∀{xs:List Tr} {l:List Cel},gC S W xs l->l.length=xs.length
 |[],l,h=>by rw[gC]at h;subst h;rfl
 |x::r,l,h=>by
  rw[gC]at h;obtain⟨c,l',rfl,_,h⟩:=h;rw[aL,aL,fG h]
theorem tF {S:Nat->Prop} {W:World}:∀{xs:List Tr} {l:List Cel} {j:Nat} (_:gC S W xs l) (hj:j<xs.length) (hl:j<l.length),VAt S W xs[j] l[j]
 |[],_,_,_,hj,_=>by simp at hj
 |x::r,l,0,h,_,_=>by
  rw[gC]at h;obtain⟨c,l',rfl,h,_⟩:=h;exact h
 |x::r,l,j+1,h,hj,hl=>by
  rw[gC]at h;obtain⟨c,l',rfl,_,h⟩:=h;exact tF h uDx uNz
theorem yE {S:Nat->Prop} {W:World}:∀{xs:List Tr} {l:List Cel},l.length=xs.length->(∀j (hj:j<xs.length) (hl:j<l.length),VAt S W xs[j] l[j])->gC S W xs l
 |[],l,h,_=>by rw[gC];exact aT h
 |x::r,[],h,_=>by simp at h
 |x::r,c::l,h,hv=>by
  rw[gC];exact⟨c,l,rfl,hv 0 uBu uBu,yE uDw fun j hj hl=>hv (j+1) uDx uNz⟩
theorem aB8 {S:Nat->Prop} {W:World} {xs:List Tr} {l:List Cel} (h:gC S W xs l) {j:Nat} {c:Cel} (hc:l[j]? =some c):∃a,xs[j]? =some a/\VAt S W a c:=by
 obtain⟨hl,rfl⟩:=List.getElem?_eq_some_iff.1 hc;have hj:j<xs.length:=by rw[<-fG h];exact hl
 exact⟨xs[j],List.getElem?_eq_getElem hj,tF h hj hl⟩
theorem yF {S:Nat->Prop} {W:World}:∀{xs ys:List Tr} {l m:List Cel},gC S W xs l->gC S W ys m->gC S W (xs++ys) (l++m)
 |[],_,l,m,h,hy=>by rw[gC]at h;subst h;exact hy
 |x::r,ys,l,m,h,hy=>by
  rw[gC]at h;obtain⟨c,l',rfl,h1,h2⟩:=h;rw[bC,bC,gC];exact⟨c,_,rfl,h1,yF h2 hy⟩
theorem aER {S:Nat->Prop} {W:World} {x:Tr} {c:Cel} (h:VAt S W x c):gC S W [x] [c]:=by
 rw[gC];exact⟨c,[],rfl,h,by rw[gC]⟩
theorem aDt.imp {S S':Nat->Prop} {w w':World} {b:Nat} {k:Int} {ks:List ByteArray} {xs:List Tr} {l:List Cel} (h:aDt S w b k ks xs l) (hb:S b) (hk:Kq S w w') (hS:∀g,S g->g<w.heap.size->S' g):aDt S' w' b k ks xs l:=by
 obtain⟨rc,mc,d,fr,s,n,h1,h2,h3,h4,h5⟩:=h;exact⟨rc,mc,d,fr,s,n,hk b _ hb h1,h2,h3.imp hk hS,h4.imp hk.kp hS,h5.imp hk hS⟩
theorem aM5 {S S':Nat->Prop} {w w':World} (hk:Kq S w w') (hS:∀g,S g->g<w.heap.size->S' g) (a:Tr):∀x,VAt S w a x->VAt S' w' a x:=by
 induction a using fS with
 |h k n t ks xs ih=>
  intro x hv;rw[VAt]at hv ⊢;obtain⟨h1,h2,h3,h4⟩:=hv;refine⟨h1,h2,h3,h4.imp_right ?_⟩;rintro⟨h4,b,l,h5,h6,h7,h8⟩;have hlt:b<w.heap.size:=by obtain⟨_,_,_,_,_,_,h,_⟩:=h8;exact(gZ h)
  refine⟨h4,b,l,h5,hS b h6 hlt,yE (fG h7) fun j hj hl=>ih _ (aO hj) _ (tF h7 hj hl),h8.imp h6 hk hS⟩
section
variable {S S' : Nat → Prop} {w w' : World} {a : Tr} {x : Cel} {xs : List Tr} {l : List Cel}
theorem VAt.imp (h:VAt S w a x) (hk:Kq S w w') (hS:∀g,S g->g<w.heap.size->S' g):VAt S' w' a x:=aM5 hk hS a x h
theorem VAt.later (h:VAt S w a x) (hb:Below w.heap.size w w'):VAt S w' a x:=h.imp (Kq.later hb) fun _ h _=>h
theorem VAt.weak (h:VAt S w a x) (hS:∀g,S g->S' g):VAt S' w a x:=h.imp Kq.refl fun g h _=>hS g h
theorem VAt.old (h:VAt S w a x):VAt (fun g=>S g/\g<w.heap.size) w a x:=h.imp Kq.refl fun _ h h'=>⟨h,h'⟩
theorem VAt.kq (h:VAt S w a x) (hk:Kq S w w'):VAt S w' a x:=h.imp hk fun _ h _=>h
theorem VAt.low {n₀:Nat} (h:VAt (fun g=>g<n₀) w a x) (hb:Below n₀ w w'):VAt (fun g=>g<n₀) w' a x:=h.kq (Kq.low hb fun _ h=>h)
theorem gC.imp (h:gC S w xs l) (hk:Kq S w w') (hS:∀g,S g->g<w.heap.size->S' g):gC S' w' xs l:=
 yE (fG h) fun _ hj hl=>(tF h hj hl).imp hk hS
theorem gC.later (h:gC S w xs l) (hb:Below w.heap.size w w'):gC S w' xs l:=h.imp (Kq.later hb) fun _ h _=>h
theorem gC.weak (h:gC S w xs l) (hS:∀g,S g->S' g):gC S' w xs l:=h.imp Kq.refl fun g h _=>hS g h
theorem gC.old (h:gC S w xs l):gC (fun g=>S g/\g<w.heap.size) w xs l:=h.imp Kq.refl fun _ h h'=>⟨h,h'⟩
theorem VAt.k (h:VAt S w a x):x.k=a.k:=by cases a;rw[VAt]at h;exact h.1
theorem VAt.n (h:VAt S w a x):x.n=a.n:=by cases a;rw[VAt]at h;exact h.2.1
theorem VAt.t (h:VAt S w a x):x.t=a.t:=by cases a;rw[VAt]at h;exact h.2.2.1
theorem VAt.leaf (h:VAt S w a x) (h3:a.k<=3):x.p=none:=by
 cases a with
 |nd k n t ks xs=>
  rw[VAt]at h;rcases h.2.2.2 with h|h
  ·exact h.2
  ·have h3':k<=3:=h3
   omega
theorem VAt.parts (h:VAt S w a x) (h4:4<=a.k):∃(b:Nat) (l:List Cel),x.p=some ⟨b,0,none⟩/\S b/\gC S w a.xs l/\aDt S w b a.k a.ks a.xs l:=by
 cases a with
 |nd k n t ks xs=>
  have h4':4<=k:=h4;rw[VAt]at h;rcases h.2.2.2 with h|h
  ·omega
  ·exact h.2
theorem mI (S:Nat->Prop) (w:World):VAt S w iE gT:=by rw[VAt];exact⟨rfl,rfl,rfl,.inl ⟨by decide,rfl⟩⟩
theorem aJS (S:Nat->Prop) (w:World) {a:Tr} (h3:a.k<=3):VAt S w a ⟨a.k,a.n,a.t,none⟩:=by
 cases a with
 |nd k n t ks xs=>rw[VAt];exact⟨rfl,rfl,rfl,.inl ⟨h3,rfl⟩⟩
theorem vG {b:Nat} (h4:4<=a.k) (hb:S b) (hl:gC S w a.xs l) (hi:aDt S w b a.k a.ks a.xs l):VAt S w a ⟨a.k,a.n,a.t,some ⟨b,0,none⟩⟩:=by
 cases a with
 |nd k n t ks xs=>rw[VAt];exact⟨rfl,rfl,rfl,.inr ⟨h4,b,l,rfl,hb,hl,hi⟩⟩
end
section
variable {S : Nat → Prop} {W : World} {b : Nat} {rc mc : Array Value} {d : Value} {n : Nat} {T : TypeId} {fr : Nat × Nat}
theorem nW (hr:rc.size=4) (hm:mc.size=6):(iW rc mc d n).size=12:=by simp[iW,hr,hm]
theorem aA7 (hr:rc.size=4) (h:W.heap[b]? =some (.cells (iW rc mc d n) T fr)):W.rangeAt b 0 rc.toList:=fun j u hu=>aK h (by
 have hj:j<rc.size:=by simpa using(List.getElem?_eq_some_iff.1 hu).1
 rw[dL,iW,Array.getElem?_append_left uDv,Array.getElem?_append_left hj];simpa using hu)
theorem oV (hr:rc.size=4) (hm:mc.size=6) (h:W.heap[b]? =some (.cells (iW rc mc d n) T fr)):W.rangeAt b 4 mc.toList:=fun j u hu=>aK h (by
 have hj:j<mc.size:=by simpa using(List.getElem?_eq_some_iff.1 hu).1
 rw[iW,Array.getElem?_append_left uDv,Array.getElem?_append_right uAu,hr,mA];simpa using hu)
theorem aFR (hr:rc.size=4) (hm:mc.size=6) (h:W.heap[b]? =some (.cells (iW rc mc d n) T fr)):W.rangeAt b 10 [d,.int .i64 (n:Int)]:=fun j u hu=>aK h (by
 rw[iW,Array.getElem?_append_right uDv];have e:10+j-(rc++mc).size=j:=by simp;omega
 rw[e];simpa using hu)
end
end Go.Proofs.YtengibnpebfblaaGreatDoor
namespace Go.Proofs.YtengibnpebfblaaGreatDoor
open Go.RowKit
theorem gR:(Tryz.prog.info? 101).map (·.size)=some 2:=by kernel_rfl
theorem aJb {S:Nat->Prop} {w:World} {d:Value} {l:List Int} (h:bZ S w 1 d (iv l) l.length):kU w 1 d (fi fun j=>l.getD j 0) l.length:=
 h.places.congr fun j hj=>by
  rw[nT]at hj;have e:=aHQ l j hj;rw[List.getD_eq_getElem?_getD,e];rfl
theorem aMR {S:Nat->Prop} {w:World} {a:Option Addr} {c:Nat} {l:List Int} (h:bZ S w 1 (.slice a l.length c) (iv l) l.length) (h0:0<l.length):∃g o,a=some ⟨g,o,none⟩/\∀j,j<l.length->w.cell? ⟨g,o+j,none⟩=some (.int .i64 (l.getD j 0)):=by
 obtain⟨g,o,c',e,_,_,_,hc⟩:=h.pos h0;simp only[dR]at e;exact⟨g,o,e.1,fun j hj=>hc j _ (aHQ l j hj)⟩
theorem aFT {l:List Int} {j:Nat} (h:l.length<=j):l.getD j 0=0:=by rw[List.getD_eq_getElem?_getD,List.getElem?_eq_none h];rfl
theorem aDn {B g n c:Nat} {W:World} {cur:Array Value} {l:List Int} (hg:W.heap[g]? =some (.cells cur 3 (0,0))) (hB:B<=g) (hn:n=l.length) (hc:n<=c) (h:∀j,j<l.length->cur[j]? =some (.int .i64 (l.getD j 0))):
  bZ (fun g=>B<=g) W 1 (.slice (some ⟨g,0,none⟩) n c) (iv l) l.length:=by
 subst hn;refine⟨_,c,rfl,hc,by rw[aBM,nT],.inr ⟨g,0,rfl,hB,(gZ hg),fun j u hu=> ?_⟩⟩;have hj:j<l.length:=by have:=(List.getElem?_eq_some_iff.1 hu).1;rwa[aBM]at this
 rw[aHQ l j hj]at hu;rw[dL];exact aK hg ((h j hj).trans hu)
def aNk (l:List Int):Prop:=∀j,0<=l.getD j 0/\l.getD j 0<=100000
theorem aDT {xs:List Tr} (h:xs.length<=100000):aNk (tal xs):=fun j=>by
 rw[yK];have:=aN5 xs j;omega
theorem aEW (w:World) (a:Option Addr) (k c:Nat) (n:Int) (hk:k<=100000):Calls Tryz.prog 85 #[.agg #[.slice a k c,.int .i64 n]] w fun r w'=>r=.returned (.int .i64 ((k+1:Nat):Int))/\Below w.heap.size w w':=by
 have hk1:(k:Int)<=100000:=by omega
 have HB:=iH (Below.newly' w (.cells #[.slice a k c,.int .i64 n] 101));go_enter Tryz.func85,Tryz.ntmps85;go_wp2
 go_ret;exact⟨by first|rfl|simp,HB.out⟩
theorem aMm {S:Nat->Prop} (w:World) (d e:Value) (l m:List Int) (n p:Nat) (hd:bZ S w 1 d (iv l) l.length) (he:bZ S w 1 e (iv m) m.length) (hl:l.length<=100) (hm:m.length<=100) (hlb:aNk l) (hmb:aNk m) (hn:n<=100000) (hp:p<=100000):
  Calls Tryz.prog 49 #[.agg #[d,.int .i64 (n:Int)],.agg #[e,.int .i64 (p:Int)]] w fun r w'=>∃d',r=.returned (.agg #[d',.int .i64 ((n+p:Nat):Int)])/\bZ (fun g=>w.heap.size<=g) w' 1 d' (iv (aBr l m)) (aBr l m).length/\Below w.heap.size w w':=by
 obtain⟨i,hi,hz,h1,h2⟩:=dV aFL;obtain⟨da,dc,rfl,_⟩:=hd.shape;obtain⟨ea,ec,rfl,_⟩:=he.shape;obtain⟨w3,hw3⟩:∃w3,((w.alloc (.cells #[.slice da l.length dc,.int .i64 (n:Int)] 101)).alloc (.cells #[.slice ea m.length ec,.int .i64 (p:Int)] 101)).alloc (.cells #[.slice none 0 0,.int .i64 0] 101)=w3:=⟨_,rfl⟩
 obtain⟨hb3,hx3,hy3,hz3,hs3⟩:=lI hw3;obtain⟨N,hN⟩:∃N,N=max l.length m.length:=⟨_,rfl⟩
 have hmx:max (l.length:Int) (m.length:Int)=(N:Int):=by omega
 have cx0:w3.cell? ⟨w.heap.size,0,none⟩=some (.slice da l.length dc):=aK hx3 rfl;have cy0:w3.cell? ⟨w.heap.size+1,0,none⟩=some (.slice ea m.length ec):=aK hy3 rfl;have HX3:=iH hx3;have HY3:=iH hy3;have HZ3:=iH hz3;have HB3:=iH hb3;have HS3:=iH hs3;have HD:=iH (hd.later hb3);have HE:=iH (he.later hb3);have HI:=iH (And.intro hi (And.intro hz (And.intro h1 h2)));have HN:=iH (And.intro hN (And.intro hl (And.intro hm (And.intro hn hp))));have HLB:=iH hlb;have HMB:=iH hmb;have hl':(l.length:Int)<=100:=by omega
 have hm':(m.length:Int)<=100:=by omega
 have hN':(N:Int)<=100:=by omega
 have hn':(n:Int)<=100000:=by omega
 have hp':(p:Int)<=100000:=by omega
 clear hi hz h1 h2 hb3 hx3 hy3 hz3 hs3 hd he hl hm hlb hmb hn hp hN;go_enter Tryz.func49,Tryz.ntmps49;go_upto_region 1 with fail
 clear hw3;go_upto_region 2 with(first
  |(refine mH _ rfl _ _ 99 rfl 3 i (.int .i64 0) 1 Tryz.underlying99 HI.out.1 HI.out.2.1 HI.out.2.2.1 .i64 .i64 N rfl rfl uLy uAu ?_))
 clear hmx;obtain⟨w4,hw4⟩:∃w4,w4=w3.alloc (.cells (madeCells #[.int .i64 0] N) 3):=⟨_,rfl⟩
 have hb4:Below w3.heap.size w3 w4:=by rw[hw4];exact Below.newly' _ _
 have HG4:Hid (w4.heap[w3.heap.size]? =some (.cells (madeCells #[.int .i64 0] N) 3 (0,0))):=by show _=_;rw[hw4];exact aF _ _
 replace cx0:w4.cell? ⟨w.heap.size,0,none⟩=some (.slice da l.length dc):=(hb4.cell (aM _ _ cx0)).trans cx0;rw[<-hw4];have HD4:=iH (HD.out.later hb4);have HB4:=iH hb4;obtain⟨G,hG⟩:∃G,G=w3.heap.size:=⟨_,rfl⟩
 have HGE:=iH hG;rw[<-hG]at HG4 ⊢;clear hw4 hb4 hG cy0 HD;go_upto_region 3 with(first
  |(refine aCo rfl _ _ 99 99 rfl 3 Tryz.underlying99 1 aBO G N N rfl _ rfl (fi fun j=>l.getD j 0) l.length (aJb HD4.out) (by have:=HN.out.1;omega) 3 _ HG4.out (by rw[nS];have:=HN.out.1;omega) (fun _ _=>rfl) ?_;intro w5 c5 hg5 hs5 hc5 k5;have HG5:=iH hg5;have HS5:=iH hs5;have HC5:=iH hc5;have HK5:=iH k5;clear hg5 hs5 hc5 k5))
 have hge:=HGE.out;have hs3:=HS3.out;have HB5:Hid (Below w3.heap.size w3 w5):=HB4.out.trans (HK5.out.below uAu);have HE5:=iH (HE.out.later HB5.out);have HX5:=iH ((HB5.out.block _ uAu).trans HX3.out);have HY5:=iH ((HB5.out.block _ uAu).trans HY3.out);have cy0:w5.cell? ⟨w.heap.size+1,0,none⟩=some (.slice ea m.length ec):=aK HY5.out rfl;have HA5:Hid (c5.size=N/\∀j,j<N->c5[j]? =some (.int .i64 (l.getD j 0))):=by
  refine⟨by rw[HS5.out,nS],fun j hj=> ?_⟩;rw[HC5.out j];split
  ·rfl
  ·rw[aAU _ _ _ uAu,aFT uAu]
   simp[Value.cells,Nat.mod_one]
 clear hge hs3 cx0 HG4 HD4 HS5 HC5 HK5 HB4;go_wp2_with fail
 go_loopw [23] (fun iv_ wr=>∃(q:Nat) (cur:Array Value),iv_=.int .i64 (q:Int)/\q<=m.length/\Hid (wr.heap[G]? =some (.cells cur 3 (0,0)))/\Hid (cur.size=N/\∀j,j<N->cur[j]? =some (.int .i64 (l.getD j 0+if j<q then m.getD j 0 else 0)))/\Hid (Below w3.heap.size w3 wr)) (fun iv_ _=>m.length-(intOf iv_).toNat)
 case atStart=>exact⟨0,c5,rfl,aQ _,HG5,⟨HA5.out.1,fun j hj=>by rw[HA5.out.2 j hj];simp⟩,HB5⟩
 case round=>
  clear HG5 HA5 HB5 HX5 HY5 HE5 cy0;obtain⟨q,cur,rfl,hq,HG,HC,HB⟩:=hrel;by_cases hlt:q<m.length
  ·have hqN:q<N:=by have:=HN.out.1;omega
   have hqN':(q:Int)<(N:Int):=by omega
   have hlt':(q:Int)<(m.length:Int):=by omega
   obtain⟨x,hx⟩:∃x,x=l.getD q 0:=⟨_,rfl⟩
   obtain⟨y,hy⟩:∃y,y=m.getD q 0:=⟨_,rfl⟩
   have cg:wr.cell? ⟨G,q,none⟩=some (.int .i64 x):=by
    have:=HC.out.2 q hqN;rw[if_neg uAu,Int.add_zero,<-hx]at this;exact aK HG.out this
   obtain⟨g,o,rfl,hcs⟩:=aMR (HE.out.later HB.out) uAu;have cm:=hcs q hlt;rw[<-hy]at cm;have hxb:=HLB.out q;have hyb:=HMB.out q;rw[<-hx]at hxb;rw[<-hy]at hyb;obtain⟨hx0,hx1⟩:=hxb;obtain⟨hy0,hy1⟩:=hyb;have HX:=iH (And.intro hx hy);clear hcs hx hy;go_wp2_with (first
    |(refine qZ rfl 3 _ _ rfl G q (.int .i64 (x+y)) rfl rfl rfl 3 cur HG.out aBO (by have:=HC.out.1;omega) ?_;intro w6 h6 k6;have HG6:=iH h6;have HK6:=iH k6;clear h6 k6))
   go_roundw
   case rel=>
    refine⟨q+1,_,by simp,by omega,HG6,⟨by rw[zS];exact HC.out.1,fun j hj=> ?_⟩,HB.out.trans (HK6.out.below (by have:=HGE.out;omega))⟩;rw[Array.getElem?_setIfInBounds];by_cases e:q=j
    ·subst e
     rw[if_pos rfl,if_pos (by have:=HC.out.1;omega),if_pos uAu,<-HX.out.1,<-HX.out.2]
    ·rw[if_neg e,HC.out.2 j hj]
     by_cases h:j<q
     ·rw[if_pos h,if_pos uAu]
     ·rw[if_neg h,if_neg uAu]
   case measure=>simp[intOf];omega
  ·obtain rfl:q=m.length:=by omega
   have hs3:=HS3.out;have hge:=HGE.out;have hx:=(HB.out.block w.heap.size uAu).trans HX3.out;have hy:=(HB.out.block (w.heap.size+1) uAu).trans HY3.out;have HZ:=iH ((HB.out.block (w.heap.size+2) uAu).trans HZ3.out);have cx1:wr.cell? ⟨w.heap.size,1,none⟩=some (.int .i64 (n:Int)):=aK hx rfl;have cy1:wr.cell? ⟨w.heap.size+1,1,none⟩=some (.int .i64 (p:Int)):=aK hy rfl;clear hx hy hs3 hge;go_wp2_with (first
    |(refine bV rfl 101 _ _ rfl (w.heap.size+2) #[.slice (some ⟨G,0,none⟩) N N,.int .i64 ((n:Int)+(p:Int))] rfl rfl 101 _ HZ.out gR rfl uAy ?_;intro w7 h7 k7))
   have hs3:=HS3.out;have hge:=HGE.out;refine bF (cE rfl _ _ (w.heap.size+2) 101 _ (0,0) _ rfl h7 Tryz.underlying101 rfl gR) rfl ⟨_,by rw[Int.natCast_add],?_,(tW HB3.out HB.out).trans (k7.below uAu)⟩;refine aDn (k7.other HG.out uAu) uAu (by rw[vI];exact HN.out.1) (aE _) fun j hj=> ?_
   rw[vI,<-HN.out.1]at hj;rw[aD1 _ _ (by have:=HN.out.1;omega),HC.out.2 j hj];split
   ·rfl
   ·rw[aFT (l:=m) uAu]
end Go.Proofs.YtengibnpebfblaaGreatDoor
