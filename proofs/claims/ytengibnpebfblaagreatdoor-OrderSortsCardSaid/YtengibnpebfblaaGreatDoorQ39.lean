import Derived.Test.YtengibnpebfblaaGreatDoorQ0
import Derived.Test.YtengibnpebfblaaGreatDoorQ35
import Derived.Test.YtengibnpebfblaaGreatDoorQ38
set_option maxRecDepth 1000000
set_option maxHeartbeats 8000000
set_option linter.unusedSimpArgs false
namespace Go.Proofs.YtengibnpebfblaaGreatDoor
open Go.RowKit
theorem aE0 {k n:Int} {t:ByteArray} {kv iv:Value} (hk:∃a l c,kv=.slice a l c) (hi:∃a l c,iv=.slice a l c):(trC k n t kv iv).all (·.oneCell')=true:=by
 obtain⟨_,_,_,rfl⟩:=hk;obtain⟨_,_,_,rfl⟩:=hi;simp[Value.oneCell']
def pB (ks:List ByteArray) (xs:List Tr) (j:Nat):List (ByteArray×Tr):=((ks.zip (cV xs)).take j).foldl (tI kbF) []
def rX (xs:List Tr) (j:Nat):List Tr:=((cV xs).take j).foldl (tI dG) []
theorem aEs {xs:List Tr} {j:Nat} (hj:j<xs.length):(cV xs)[j]? =some (cU xs[j]):=by rw[fJ,List.getElem?_map,List.getElem?_eq_getElem hj];rfl
theorem sQ (xs:List Tr):(cV xs).length=xs.length:=by rw[fJ,aH]
theorem xH {β:Type} {l:List β} {j:Nat} {y:β} (h:l[j]? =some y):l.take (j+1)=l.take j++[y]:=by
 obtain⟨hj,rfl⟩:=List.getElem?_eq_some_iff.1 h;exact aS hj
theorem aJ1 {ks:List ByteArray} {xs:List Tr} {j:Nat} (hl:ks.length=xs.length) (hj:j<xs.length):pB ks xs (j+1)=tI kbF (pB ks xs j) (ks[j]' uAu,cU xs[j]):=by
 unfold pB;rw[xH (y:=(ks[j]' uAu,cU xs[j])) (List.getElem?_zip_eq_some.2 ⟨List.getElem?_eq_getElem uAu,aEs hj⟩),nO];rfl
theorem aII {xs:List Tr} {j:Nat} (hj:j<xs.length):rX xs (j+1)=tI dG (rX xs j) (cU xs[j]):=by
 unfold rX;rw[xH (aEs hj),nO];rfl
theorem aKY {ks:List ByteArray} {xs:List Tr} (hl:ks.length=xs.length) {j:Nat} (hj:j<=xs.length):(pB ks xs j).length=j:=by
 have h:=(sF (f:=kbF) ((ks.zip (cV xs)).take j) []).length_eq;unfold pB;rw[h,bD,aV,dN,sQ];omega
theorem aKf {xs:List Tr} {j:Nat} (hj:j<=xs.length):(rX xs j).length=j:=by
 have h:=(sF (f:=dG) ((cV xs).take j) []).length_eq;unfold rX;rw[h,bD,aV,sQ];omega
theorem aKX {ks:List ByteArray} {xs:List Tr} {j:Nat} {p:ByteArray×Tr} (h:p∈pB ks xs j):p.1∈ks:=by
 have h2:=(sF (f:=kbF) ((ks.zip (cV xs)).take j) []).mem_iff.1 h;rw[bD]at h2;exact(uH (dI h2)).1
theorem aKe {xs:List Tr} {j:Nat} {p:Tr} (h:p∈rX xs j):∃x∈xs,p=cU x:=by
 have h2:=(sF (f:=dG) ((cV xs).take j) []).mem_iff.1 h;rw[bD]at h2;have h3:=dI h2;rw[fJ]at h3;obtain⟨x,hx,rfl⟩:=cH.1 h3;exact⟨x,hx,rfl⟩
theorem aCY {β:Type} {f:β->List UInt8} {K:β->ByteArray} (hK:∀b,kb (K b)=f b) (P:List β) (x:β):tI f P x=iQ (mE (P.map K) (K x)) P x:=by
 have h:mE (P.map K) (K x)=(P.takeWhile fun y=>decide (f y<f x)).length:=by
  unfold mE;rw[(aGA (fun y=>decide (kb y<kb (K x))) K P).1,aH];congr 2
  funext y
  simp[hK]
 unfold iQ tI;rw[h,aMe,aMf]
theorem aBp {β γ:Type} (g:β->γ) (n:Nat) (l:List β) (x:β):(iQ n l x).map g=iQ n (l.map g) (g x):=by
 unfold iQ;rw[bQ,cG,uA,pK]
section
variable {n0 : Nat} {kv iv : Value} {ks : List ByteArray} {xs : List Tr} {css : List (Array Value)} {j : Nat} {V V' : World}
def zM (n0:Nat) (iv:Value) (xs:List Tr) (css:List (Array Value)) (j:Nat) (V:World):Prop:=
 dC n0 28 5 iv css V/\css.length=j/\iS (fun g=>n0<=g/\iv.ownBlock≠some g) V ((cV xs).take j) css
def aJz (n0:Nat) (iv:Value) (xs:List Tr) (css:List (Array Value)) (j:Nat) (y:Tr) (c:Array Value) (V:World):Prop:=
 zM n0 iv xs css j V/\TrS (fun g=>n0<=g/\iv.ownBlock≠some g) V (cU y) (.agg c)
theorem aJK (h:n0<=V.heap.size):zM n0 (.slice none 0 0) xs [] 0 V:=⟨dC.nil h,rfl,by rw[eB,iS]⟩
theorem zM.later (h:zM n0 iv xs css j V) (hb:Below V.heap.size V V'):zM n0 iv xs css j V':=⟨h.1.later hb,h.2.1,h.2.2.later hb⟩
theorem aJz.later {y:Tr} {c:Array Value} (h:aJz n0 iv xs css j y c V) (hb:Below V.heap.size V V'):aJz n0 iv xs css j y c V':=⟨h.1.later hb,h.2.later hb⟩
theorem zM.new {y:Tr} {c:Array Value} (h:zM n0 iv xs css j V) (hb:Below V.heap.size V V') (hy:TrS (fun g=>V.heap.size<=g) V' (cU y) (.agg c)):aJz n0 iv xs css j y c V':=
 ⟨h.later hb,hy.weak fun g hg=>⟨aG h.1.2.1 hg,fun e=>by have:=(h.1.own.lt e).2;omega⟩⟩
theorem aJz.next {y:Tr} {c:Array Value} {v7:Value} (h:aJz n0 iv xs css j y c V) (hlx:j<xs.length) (hy:y=xs[j]) (hc:c.size=5) (hr:dC n0 28 5 v7 (css++[c]) V') (hg:V.grownBy V' iv.ownBlock) (hn:v7.ownBlock=iv.ownBlock\/∃g',v7.ownBlock=some g'/\V.heap.size<=g'):∃css,zM n0 v7 xs css (j+1) V':=by
 obtain⟨⟨h1,h2,h3⟩,h4⟩:=h;refine⟨css++[c],hr,by simp;omega,?_⟩;rw[xH (aEs hlx),<-hy];refine(uI h3 (aBa hc h4)).imp (KT.grown hg fun X e hX=>hX.2 e) fun g hg' hlt=>⟨hg'.1,?_⟩
 rcases hn with e|⟨g',e,hge⟩
 ·rw[e];exact hg'.2
 ·rw[e];intro e';have:=aN e';omega
theorem zM.fin {k n:Int} {t:ByteArray} (h:zM n0 iv xs css xs.length V) (h5:k≠5) (h6:k≠6) (ht:t.size<=maxLen) (hk:InR k) (hn:InR n):TrS (fun g=>n0<=g) V (cU (.nd k n t ks xs)) (.agg (trC k n t (.slice none 0 0) iv)):=by
 obtain⟨h1,h2,h3⟩:=h;have h4:=h1.own.lsT;rw[cU,if_neg h5,if_neg h6,TrS];rw[aZ (jZ (sQ xs))]at h3;refine⟨_,_,css,rfl,ht,hk,hn,vP _ _ _ _,?_,h3.weak fun g hg=>hg.1⟩;rw[sQ,<-h2];exact h4.imp (.inr rfl) KT.refl fun g hg _=>(h1.own.lt hg).1
def wI (n0:Nat) (kv iv:Value) (ks:List ByteArray) (xs:List Tr) (j:Nat) (V:World):Prop:=
 ∃css,LsT (fun g=>n0<=g) V 9 1 kv (((pB ks xs j).map (·.1)).map Value.string) (pB ks xs j).length/\LsT (fun g=>n0<=g) V 28 5 iv (css.flatMap Array.toList) (pB ks xs j).length/\iS (fun g=>n0<=g) V ((pB ks xs j).map (·.2)) css
def wH (n0:Nat) (kv iv:Value) (xs:List Tr) (j:Nat) (V:World):Prop:=
 ∃css,LsT (fun g=>n0<=g) V 9 1 kv (((rX xs j).map kB).map Value.string) (rX xs j).length/\LsT (fun g=>n0<=g) V 28 5 iv (css.flatMap Array.toList) (rX xs j).length/\iS (fun g=>n0<=g) V (rX xs j) css
theorem aL0:wI n0 (.slice none 0 0) (.slice none 0 0) ks xs 0 V:=⟨[],vP _ _ _ _,vP _ _ _ _,by simp[pB,iS]⟩
theorem aKg:wH n0 (.slice none 0 0) (.slice none 0 0) xs 0 V:=⟨[],vP _ _ _ _,vP _ _ _ _,by simp[rX,iS]⟩
theorem wI.later (h:wI n0 kv iv ks xs j V) (hb:Below V.heap.size V V'):wI n0 kv iv ks xs j V':=by
 exact Ag5
theorem wH.later (h:wH n0 kv iv xs j V) (hb:Below V.heap.size V V'):wH n0 kv iv xs j V':=by
 exact Ag5
theorem LsT.shape {S:Nat->Prop} {W:World} {T:TypeId} {s n:Nat} {v:Value} {cs:List Value} (h:LsT S W T s v cs n):∃a l c,v=.slice a l c:=by
 obtain⟨_,_,a,c,e,_⟩:=h;exact⟨a,n,c,e⟩
theorem wI.shapes (h:wI n0 kv iv ks xs j V):(∃a l c,kv=.slice a l c)/\∃a l c,iv=.slice a l c:=by
 obtain⟨css,h1,h2,h3⟩:=h;exact⟨h1.shape,h2.shape⟩
theorem wH.shapes (h:wH n0 kv iv xs j V):(∃a l c,kv=.slice a l c)/\∃a l c,iv=.slice a l c:=by
 obtain⟨css,h1,h2,h3⟩:=h;exact⟨h1.shape,h2.shape⟩
theorem wI.fin {n:Int} {t:ByteArray} (h:wI n0 kv iv ks xs xs.length V) (hl:ks.length=xs.length) (ht:t.size<=maxLen) (hn:InR n):TrS (fun g=>n0<=g) V (cU (.nd 5 n t ks xs)) (.agg (trC 5 n t kv iv)):=by
 obtain⟨css,h1,h2,h3⟩:=h;have he:pB ks xs xs.length=lJ kbF (ks.zip (cV xs)):=by
  unfold pB lJ;rw[aZ (by rw[dN,sQ];omega)]
 rw[he]at h1 h2 h3;rw[cU,if_pos rfl,TrS];exact⟨_,_,css,rfl,ht,by decide,hn,by rw[aH];exact h1,by rw[aH];exact h2,h3⟩
theorem wH.fin {n:Int} {t:ByteArray} (h:wH n0 kv iv xs xs.length V) (ht:t.size<=maxLen) (hn:InR n):TrS (fun g=>n0<=g) V (cU (.nd 6 n t ks xs)) (.agg (trC 6 n t (.slice none 0 0) iv)):=by
 obtain⟨css,h1,h2,h3⟩:=h;have he:rX xs xs.length=lJ dG (cV xs):=by
  unfold rX lJ;rw[aZ (jZ (sQ xs))]
 rw[he]at h2 h3;rw[cU,if_neg uAv,if_pos rfl,TrS];exact⟨_,_,css,rfl,ht,by decide,hn,vP _ _ _ _,h2,h3⟩
theorem wI.put {n3:Nat} {y:Tr} {yk:ByteArray} {c:Array Value} {w5 W:World} (h:wI n0 kv iv ks xs j w5) (hyt:TrS (fun g=>n3<=g) W (cU y) (.agg c)) (hb:Below w5.heap.size w5 W) (hlx:j<xs.length) (hy:y=xs[j]) (hjk:j<ks.length) (hyk:yk=ks[j]) (hl:ks.length=xs.length)
  (hx:(∀z∈ks,z.size<=3000)/\xs.length<=16383) (hn:n0<=n3/\n0<=w5.heap.size):Calls Tryz.prog 37 #[kv,iv,.string yk,.agg c] W fun r w'=>∃kv' iv',r=.returned (.tuple #[kv',iv'])/\wI n0 kv' iv' ks xs (j+1) w'/\Below W.heap.size W w':=by
 obtain⟨css,h1,h2,h3⟩:=h.later hb;have hlen:=aKY hl (mQ hlx);refine(aKt (S:=fun g=>n0<=g) W kv iv ((pB ks xs j).map (·.1)) ((pB ks xs j).map (·.2)) css yk (cU y) (.agg c) (by rw[aH];exact h1) (by rw[aH];exact h2) h3 (hyt.weak fun g hg=>aG hn.1 hg) (by rw[aH,aH]) (by rw[aH,hlen];omega) fun z hz=> ?_).mono fun r w' ⟨kv',iv',xc,e1,e2,e3,e4,e5,e6⟩=> ?_
 ·obtain⟨p,hp,rfl⟩:=cH.1 hz
  exact aG (hx.1 _ (aKX hp)) uAv
 ·have hnx:=aJ1 hl hlx
  rw[aCY (K:=fun p:ByteArray×Tr=>p.1) (fun b=>rfl)]at hnx;rw[<-hy,<-hyk]at hnx;have m1:(pB ks xs (j+1)).map (·.1)=iQ (mE ((pB ks xs j).map (·.1)) yk) ((pB ks xs j).map (·.1)) yk:=by rw[hnx,aBp]
  have m2:(pB ks xs (j+1)).map (·.2)=iQ (mE ((pB ks xs j).map (·.1)) yk) ((pB ks xs j).map (·.2)) (cU y):=by rw[hnx,aBp]
  have hs:=hb.size;refine⟨kv',iv',e2,⟨_,?_,?_,by rw[m2];exact e5⟩,e6⟩
  ·rw[show(pB ks xs (j+1)).length=((pB ks xs (j+1)).map (·.1)).length from(aH _).symm,m1]
   exact Aj9
  ·rw[show(pB ks xs (j+1)).length=((pB ks xs (j+1)).map (·.2)).length from(aH _).symm,m2]
   exact Ak0
theorem wH.put {n3:Nat} {y:Tr} {c:Array Value} {w5 W:World} (h:wH n0 kv iv xs j w5) (hyt:TrS (fun g=>n3<=g) W (cU y) (.agg c)) (hb:Below w5.heap.size w5 W) (hlx:j<xs.length) (hy:y=xs[j])
  (hx:(∀z∈xs,dW (cU z))/\xs.length<=16383) (hn:n0<=n3/\n0<=w5.heap.size):Calls Tryz.prog 37 #[kv,iv,.string (kB (cU y)),.agg c] W fun r w'=>∃kv' iv',r=.returned (.tuple #[kv',iv'])/\wH n0 kv' iv' xs (j+1) w'/\Below W.heap.size W w':=by
 obtain⟨css,h1,h2,h3⟩:=h.later hb;have hlen:=aKf (mQ hlx);refine(aKt (S:=fun g=>n0<=g) W kv iv ((rX xs j).map kB) (rX xs j) css (kB (cU y)) (cU y) (.agg c) (by rw[aH];exact h1) h2 h3 (hyt.weak fun g hg=>aG hn.1 hg) (by rw[aH]) (by rw[aH,hlen];omega) fun z hz=> ?_).mono fun r w' ⟨kv',iv',xc,e1,e2,e3,e4,e5,e6⟩=> ?_
 ·obtain⟨p,hp,rfl⟩:=cH.1 hz
  obtain⟨x,hxm,rfl⟩:=aKe hp;exact aG (hx.1 x hxm).kB uAv
 ·have hnx:=aII hlx
  rw[aCY (K:=kB) (fun b=>aBL b),<-hy]at hnx;have m1:(rX xs (j+1)).map kB=iQ (mE ((rX xs j).map kB) (kB (cU y))) ((rX xs j).map kB) (kB (cU y)):=by rw[hnx,aBp]
  have hs:=hb.size;refine⟨kv',iv',e2,⟨_,?_,?_,by rw[hnx];exact e5⟩,e6⟩
  ·rw[show(rX xs (j+1)).length=((rX xs (j+1)).map kB).length from(aH _).symm,m1]
   exact Aj9
  ·rw[hnx]
   exact Ak0
end
theorem aBl (a:Tr):∀(v:Value) (w:World),TrV w a v->OkT a->iX a<=64->fU a<=16384->jQ 3000 a->Calls Tryz.prog 12 #[v] w fun e w'=>∃c,e=.returned (.agg c)/\c.size=5/\TrS (fun g=>w.heap.size<=g) w' (cU a) (.agg c)/\Below w.heap.size w w':=by
 induction a using fS with
 |h k n t ks xs ih=>
  intro v w hv ho hdp hnd htx;obtain⟨kv,xv,rfl,ht,hk,hn,⟨kd,kcap,kb1,ko,rfl,k1,k2,k3⟩,ad,cap,bb,oo,rfl,h1,hmax,h2⟩:=hv.open';have hok:=rC.1 ho;simp only[Tr.k,Tr.xs]at hok;have hown:=mF.1 hok.1;simp only[Tr.k,Tr.n,Tr.t,Tr.ks,Tr.xs]at hown;have htx1:=eT.1 htx;simp only[Tr.t,Tr.ks,Tr.xs]at htx1;have hnd1:eO xs<=16383:=by rw[fU]at hnd;omega
  have hdp1:jY xs<=63:=by rw[iX]at hdp;omega
  obtain⟨N,hN⟩:∃N,N=xs.length:=⟨_,rfl⟩
  have hN4:N<=16383:=by rw[hN];exact aG (uR xs) hnd1
  obtain⟨lk,hlk⟩:∃lk,lk=ks.length:=⟨_,rfl⟩
  have hkl:k=5->ks.length=xs.length:=fun h5=>by
   rcases hown with⟨_,h,_⟩|⟨_,_,⟨h,_⟩|⟨_,h,_⟩|⟨h,_⟩⟩
   ·omega
   ·omega
   ·exact h
   ·omega
  have hpp:∀y∈xs,OkT y/\iX y<=64/\fU y<=16384/\jQ 3000 y:=fun y hy=>⟨hok.2.1 y hy,by have:=aC1 hy;omega,by have:=uP hy;omega,htx1.2.2 y hy⟩
  have hvb:∀y∈xs,dW (cU y):=fun y hy=>lG (hpp y hy).1 (hpp y hy).2.1 (hpp y hy).2.2.1 ((nE.1 (oG _ _ hv)).2 y hy) (hpp y hy).2.2.2
  have hts:∀z∈ks,z.size<=3000:=htx1.2.1
  rw[<-hN]at h1 ⊢;rw[<-hlk]at k1 ⊢;have HIH:=iH ih;have HLO:=iH h1;have HLC:=iH h2;have HPP:=iH hpp;have HRNG:=iH (And.intro ht (And.intro hk hn));have HKC:=iH k2;obtain⟨w2,hw2⟩:∃w2,(w.alloc (.cells (trC k n t (.slice kd lk kcap) (.slice ad N cap)) 28)).alloc (.cells (trC 0 0 ⟨#[]⟩ (.slice none 0 0) (.slice none 0 0)) 28)=w2:=⟨_,rfl⟩
  obtain⟨hb2,hx2,hr2,hs2⟩:=eR hw2;have hNL:=And.intro k1 (And.intro hN hlk);clear ih h1 h2 hmax k3 hok hown htx1 hnd1 hdp1 hpp ho hdp hnd htx hv ht hk hn k1 k2 hN hlk;by_cases c5:k=5
  ·subst c5
   have HKL:=iH (And.intro (hkl rfl) hNL);have HTX:Hid ((∀z∈ks,z.size<=3000)/\xs.length<=16383):=⟨hts,by rw[<-hNL.2.1];exact hN4⟩
   clear hkl hNL hts hvb;have HXC:Hid (∀W,Below (w.heap.size+2) w2 W->∀(i:Nat) (u:Value),(trC 5 n t (.slice kd lk kcap) (.slice ad N cap))[i]? =some u->W.cell? ⟨w.heap.size,i,none⟩=some u):=fun W hb i u hu=>aK ((hb.block _ uAu).trans hx2) hu
   have HRR:Hid (∀W,Below (w.heap.size+2) w2 W->W.heap[w.heap.size+1]? =some (.cells (trC 0 0 ⟨#[]⟩ (.slice none 0 0) (.slice none 0 0)) 28 (0,0))):=fun W hb=>(hb.block _ uAu).trans hr2
   have HN0:Hid (w2.heap.size=w.heap.size+2):=hs2;have HB2:=iH hb2;have HW:Hid (Below (w.heap.size+2) w2 w2):=aY _ _;have HS0:Hid (wI (w.heap.size+2) (.slice none 0 0) (.slice none 0 0) ks xs 0 w2):=aL0;have cx4:w2.cell? ⟨w.heap.size,4,none⟩=some (.slice ad N cap):=aK hx2 rfl;clear hx2 hr2 hs2 hb2;go_enter Tryz.func12,Tryz.ntmps12;go_upto_region 1 with fail
   clear hw2;go_wp2_with fail
   clear cx4;go_loopw [3,4,5,6,7,11] (fun a3 a4 a5 a6 a7 i wl=>∃(j:Nat) (kv iv:Value),j<=N/\i=.int .i64 (j:Int)/\kv=a3/\iv=a4/\(∃c,c=a5)/\(∃c,c=a6)/\(∃c,c=a7)/\Hid (wI (w.heap.size+2) kv iv ks xs j wl)/\Hid (Below (w.heap.size+2) w2 wl)) (fun _ _ _ _ _ i _=>N-(intOf i).toNat)
   case atStart=>exact⟨0,_,_,aQ _,rfl,rfl,rfl,⟨_,rfl⟩,⟨_,rfl⟩,⟨_,rfl⟩,HS0.out,HW.out⟩
   case round=>
    clear HW HS0;obtain⟨j,kv,iv,hj,rfl,rfl,rfl,_,_,_,HI,HW⟩:=hrel;have hst:=HI.out;clear HI;have HJN:Hid (j<=N/\N<=16383):=⟨hj,hN4⟩
    obtain⟨hke,hie⟩:=hst.shapes;by_cases hlt:j<N
    ·have hlt':(j:Int)<(N:Int):=by omega
     have i0:(0:Int)<=(j:Int):=by omega
     have hlx:j<xs.length:=by rw[<-HKL.out.2.2.1];exact hlt
     have had:ad=some ⟨bb,oo,none⟩:=HLO.out uAu;subst had;obtain⟨cs,c1,c2,c3⟩:=HLC.out j hlx;have hmem:=aO hlx;obtain⟨y,hy⟩:∃y,y=xs[j]:=⟨_,rfl⟩
     have HYE:=iH hy;rw[<-hy]at c3 hmem;obtain⟨k',n',t',pa,pl,pc,qa,ql,qc,rfl⟩:=c3.cells;have HLOW:=iH (fun W (hb:Below (w.heap.size+2) w2 W)=>HB2.out.trans (hb.mono uAu));have HR:=iH (show wr.rangeAt bb (oo+j*5) (trC k' n' t' (.slice pa pl pc) (.slice qa ql qc)).toList from fun i v hv=>((HLOW.out _ HW.out).cell (aM w _ (c2 i v hv))).trans (c2 i v hv));have hp:=HPP.out y hmem;have HYB:=iH (lG hp.1 hp.2.1 hp.2.2.1 (oG _ _ c3) hp.2.2.2);have HCL:Hid (∀W,Below (w.heap.size+2) w2 W->Calls Tryz.prog 12 #[.agg (trC k' n' t' (.slice pa pl pc) (.slice qa ql qc))] W fun e w'=>∃c,e=.returned (.agg c)/\c.size=5/\TrS (fun g=>W.heap.size<=g) w' (cU y) (.agg c)/\Below W.heap.size W w'):=fun W hW=>HIH.out y hmem _ W (c3.later (HLOW.out W hW)) hp.1 hp.2.1 hp.2.2.1 hp.2.2.2
     clear c1 c2 c3 hmem hy hp;obtain⟨wq,hwq⟩:∃wq,wq=wr:=⟨_,rfl⟩
     have HST:Hid (wI (w.heap.size+2) kv iv ks xs j wr):=hst;clear hst hwq wq;go_upto_region 6 with(first
      |(refine lM uAz _ rfl bb (oo+j*5) rfl (trC k' n' t' (.slice pa pl pc) (.slice qa ql qc)) HR.out rfl ?_)
      |(refine bV rfl 28 _ _ rfl wr.heap.size (trC k' n' t' (.slice pa pl pc) (.slice qa ql qc)) rfl rfl 28 (trC 0 0 ⟨#[]⟩ (.slice none 0 0) (.slice none 0 0)) (aF _ _) eF rfl uAy ?_;intro w3 h3 k3))
     have hb3:Below wr.heap.size wr w3:=(Below.newly' _ _).trans (k3.below (aE _));obtain⟨X,hX⟩:∃X,X=wr.heap.size:=⟨_,rfl⟩
     have HX3:=iH h3;rw[<-hX]at HX3 ⊢;replace HST:=iH (HST.out.later hb3);replace HW:=iH (HW.out.trans (hb3.mono uBz));clear h3 k3 hb3 hX;go_upto_region 7 with(first
      |(refine bR rfl 28 _ rfl X rfl 28 _ _ _ HX3.out Tryz.underlying28 rfl eF ?_)
      |(go_at_call 12;(with_reducible refine(HCL.out _ HW.out).mono ?_);rintro r w4 ⟨yc,rfl,h5,hyt,hb⟩;have HS3:Hid (w.heap.size+2<=w3.heap.size):=uGz;obtain⟨k9,n9,t9,y1,y2,y3,y4,y5,y6,rfl⟩:=hyt.trv.cells;have HYT:=iH hyt;replace HST:=iH (HST.out.later hb);replace HW:=iH (HW.out.trans (hb.mono HS3.out));clear hb h5 hyt)
      |(refine bV rfl 28 _ _ rfl w4.heap.size (trC k9 n9 t9 (.slice y1 y2 y3) (.slice y4 y5 y6)) rfl rfl 28 (trC 0 0 ⟨#[]⟩ (.slice none 0 0) (.slice none 0 0)) (aF _ _) eF rfl uAy ?_;intro w5 h6 k6))
     have hb6:Below w4.heap.size w4 w5:=(Below.newly' _ _).trans (k6.below (aE _));obtain⟨Y,hY⟩:∃Y,Y=w4.heap.size:=⟨_,rfl⟩
     have HY6:=iH h6;rw[<-hY]at HY6 ⊢;replace HST:=iH (HST.out.later hb6);replace HYT:=iH (HYT.out.later hb6);replace HW:=iH (HW.out.trans (hb6.mono uBz));have c5k:w5.cell? ⟨w.heap.size,0,none⟩=some (.int .i64 5):=HXC.out w5 HW.out 0 _ rfl;clear h6 k6 hb6 hY HX3;go_upto_region 10 with fail
     clear c5k;have hjk:j<ks.length:=by rw[HKL.out.1];exact hlx
     obtain⟨yk,hyk⟩:∃yk,yk=ks[j]:=⟨_,rfl⟩
     have hkdd:kd=some ⟨kb1,ko,none⟩:=HKL.out.2.1 uLz;subst hkdd;have hks:=HKC.out j hjk;rw[<-hyk]at hks;have hlkN:N=lk:=by rw[HKL.out.2.2.2,HKL.out.1,HKL.out.2.2.1]
     subst hlkN;have HYK:=iH hyk;have HKS:Hid (∀V,Below w5.heap.size w5 V->V.cell? ⟨w.heap.size,3,none⟩=some (.slice (some ⟨kb1,ko,none⟩) N kcap)/\V.cell? ⟨kb1,ko+j,none⟩=some (.string yk)/\V.heap[Y]? =some (.cells (trC k9 n9 t9 (.slice y1 y2 y3) (.slice y4 y5 y6)) 28 (0,0))):=fun V hb=>⟨HXC.out V (HW.out.trans (hb.mono uBz)) 3 _ rfl,((HLOW.out V (HW.out.trans (hb.mono uBz))).cell (aM w _ hks)).trans hks,(kW hb HY6.out)⟩
     have HPU:Hid (∀W,Below w5.heap.size w5 W->Calls Tryz.prog 37 #[kv,iv,.string yk,.agg (trC k9 n9 t9 (.slice y1 y2 y3) (.slice y4 y5 y6))] W fun r w'=>∃kv' iv',r=.returned (.tuple #[kv',iv'])/\wI (w.heap.size+2) kv' iv' ks xs (j+1) w'/\Below W.heap.size W w'):=fun W hb=>HST.out.put (HYT.out.later hb) hb hlx HYE.out hjk HYK.out HKL.out.1 HTX.out ⟨HS3.out,by have:=HW.out.size;have:=HN0.out;omega⟩
     have HW5:Hid (Below w5.heap.size w5 w5.drew):=bE w5;clear hks hyk;refine bL (S:=(fun V=>V.cell? ⟨w.heap.size,3,none⟩=some (.slice (some ⟨kb1,ko,none⟩) N kcap)/\V.cell? ⟨kb1,ko+j,none⟩=some (.string yk)/\V.heap[Y]? =some (.cells (trC k9 n9 t9 (.slice y1 y2 y3) (.slice y4 y5 y6)) 28 (0,0)))) [] hO uIz (fun hHeld=> ?_);refine tkL 0 27 (h:=?_);refine tkL 1 28 (h:=?_);(try simp only[pq]);refine tkL 2 29 (h:=?_);refine tkL 3 30 (h:=?_);(try simp only[pq]);refine tkL 4 31 (h:=?_);refine tkL 5 32 (h:=?_);(try simp only[pq]);refine tkL 6 33 (h:=?_);refine tyL 7 34 (hy:=aP uAz 28 _ rfl Y rfl (trC k9 n9 t9 (.slice y1 y2 y3) (.slice y4 y5 y6)) 28 (0,0) _ (fun w hw=>hw.2.2) Tryz.underlying28 rfl uMu) (h:=?_);(try simp only[pq]);refine tkO 8 (some 35) (h:=fun K hK=> ?_);go_simp;go_at_call 37;(with_reducible refine(HPU.out _ (by exact HW5.out)).mono ?_);rintro r w7 ⟨kv7,iv7,rfl,hi7,hb⟩;have HFI:=iH hi7;replace HW5:=iH (tW HW5.out hb);clear hb hi7;dsimp only;refine hK.out _ _ uIz (fun hHeld=> ?_);clear hK K;(try simp only[pq]);refine tkL 9 26 (h:=?_);refine tkL 10 36 (h:=?_);(try simp only[pq]);refine tkL 11 37 (h:=?_);refine tkL 12 3 (h:=?_);(try simp only[pq]);refine tkL 13 4 (h:=?_);exact Ac4
    ·obtain rfl:N=j:=by omega
     have hlt':¬(N:Int)<(N:Int):=by omega
     obtain⟨ka7,kl7,kc7,rfl⟩:=hke;obtain⟨ia7,il7,ic7,rfl⟩:=hie;have HFI:=iH hst;clear hst;have cw0:wr.cell? ⟨w.heap.size,0,none⟩=some (.int .i64 5):=HXC.out wr HW.out 0 _ rfl;have cw1:wr.cell? ⟨w.heap.size,1,none⟩=some (.int .i64 n):=HXC.out wr HW.out 1 _ rfl;have cw2:wr.cell? ⟨w.heap.size,2,none⟩=some (.string t):=HXC.out wr HW.out 2 _ rfl;go_wp2_with (first
      |(refine bV rfl 28 _ _ rfl (w.heap.size+1) (trC 5 n t (.slice ka7 kl7 kc7) (.slice ia7 il7 ic7)) rfl rfl 28 _ (HRR.out _ HW.out) kS rfl (aE0 ⟨_,_,_,rfl⟩ ⟨_,_,_,rfl⟩) ?_;intro w8 h8 k8))
     have hn0:=HN0.out;refine bF (cE rfl _ _ (w.heap.size+1) 28 _ (0,0) _ rfl h8 Tryz.underlying28 rfl kS) rfl ⟨_,rfl,rfl,?_,HB2.out.trans ((HW.out.mono uAu).trans (k8.below uAu))⟩;refine(((show wI _ _ _ _ _ xs.length _ by rw[<-HKL.out.2.2.1];exact HFI.out).fin HKL.out.1 HRNG.out.1 HRNG.out.2.2).kept (KT.grown k8.by_ fun Y e hY=> ?_)).weak fun g hg=> ?_
     ·cases e
      have:w.heap.size+2<=w.heap.size+1:=hY;omega
     ·have:w.heap.size+2<=g:=hg
      omega
  by_cases c6:k=6
  ·subst c6
   have HKL:=iH (And.intro trivial hNL);have HTX:Hid ((∀z∈xs,dW (cU z))/\xs.length<=16383):=⟨hvb,by rw[<-hNL.2.1];exact hN4⟩
   clear hkl hNL hts hvb c5;have HXC:Hid (∀W,Below (w.heap.size+2) w2 W->∀(i:Nat) (u:Value),(trC 6 n t (.slice kd lk kcap) (.slice ad N cap))[i]? =some u->W.cell? ⟨w.heap.size,i,none⟩=some u):=fun W hb i u hu=>aK ((hb.block _ uAu).trans hx2) hu
   have HRR:Hid (∀W,Below (w.heap.size+2) w2 W->W.heap[w.heap.size+1]? =some (.cells (trC 0 0 ⟨#[]⟩ (.slice none 0 0) (.slice none 0 0)) 28 (0,0))):=fun W hb=>(hb.block _ uAu).trans hr2
   have HN0:Hid (w2.heap.size=w.heap.size+2):=hs2;have HB2:=iH hb2;have HW:Hid (Below (w.heap.size+2) w2 w2):=aY _ _;have HS0:Hid (wH (w.heap.size+2) (.slice none 0 0) (.slice none 0 0) xs 0 w2):=aKg;have cx4:w2.cell? ⟨w.heap.size,4,none⟩=some (.slice ad N cap):=aK hx2 rfl;clear hx2 hr2 hs2 hb2;go_enter Tryz.func12,Tryz.ntmps12;go_upto_region 1 with fail
   clear hw2;go_wp2_with fail
   clear cx4;go_loopw [3,4,5,6,7,11] (fun a3 a4 a5 a6 a7 i wl=>∃(j:Nat) (kv iv:Value),j<=N/\i=.int .i64 (j:Int)/\kv=a3/\iv=a4/\(∃c,c=a5)/\(∃c,c=a6)/\(∃c,c=a7)/\Hid (wH (w.heap.size+2) kv iv xs j wl)/\Hid (Below (w.heap.size+2) w2 wl)) (fun _ _ _ _ _ i _=>N-(intOf i).toNat)
   case atStart=>exact⟨0,_,_,aQ _,rfl,rfl,rfl,⟨_,rfl⟩,⟨_,rfl⟩,⟨_,rfl⟩,HS0.out,HW.out⟩
   case round=>
    clear HW HS0;obtain⟨j,kv,iv,hj,rfl,rfl,rfl,_,_,_,HI,HW⟩:=hrel;have hst:=HI.out;clear HI;have HJN:Hid (j<=N/\N<=16383):=⟨hj,hN4⟩
    have hie:=hst.shapes.2;by_cases hlt:j<N
    ·have hlt':(j:Int)<(N:Int):=by omega
     have i0:(0:Int)<=(j:Int):=by omega
     have hlx:j<xs.length:=by rw[<-HKL.out.2.2.1];exact hlt
     have had:ad=some ⟨bb,oo,none⟩:=HLO.out uAu;subst had;obtain⟨cs,c1,c2,c3⟩:=HLC.out j hlx;have hmem:=aO hlx;obtain⟨y,hy⟩:∃y,y=xs[j]:=⟨_,rfl⟩
     have HYE:=iH hy;rw[<-hy]at c3 hmem;obtain⟨k',n',t',pa,pl,pc,qa,ql,qc,rfl⟩:=c3.cells;have HLOW:=iH (fun W (hb:Below (w.heap.size+2) w2 W)=>HB2.out.trans (hb.mono uAu));have HR:=iH (show wr.rangeAt bb (oo+j*5) (trC k' n' t' (.slice pa pl pc) (.slice qa ql qc)).toList from fun i v hv=>((HLOW.out _ HW.out).cell (aM w _ (c2 i v hv))).trans (c2 i v hv));have hp:=HPP.out y hmem;have HYB:=iH (lG hp.1 hp.2.1 hp.2.2.1 (oG _ _ c3) hp.2.2.2);have HCL:Hid (∀W,Below (w.heap.size+2) w2 W->Calls Tryz.prog 12 #[.agg (trC k' n' t' (.slice pa pl pc) (.slice qa ql qc))] W fun e w'=>∃c,e=.returned (.agg c)/\c.size=5/\TrS (fun g=>W.heap.size<=g) w' (cU y) (.agg c)/\Below W.heap.size W w'):=fun W hW=>HIH.out y hmem _ W (c3.later (HLOW.out W hW)) hp.1 hp.2.1 hp.2.2.1 hp.2.2.2
     clear c1 c2 c3 hmem hy hp;obtain⟨wq,hwq⟩:∃wq,wq=wr:=⟨_,rfl⟩
     have HST:Hid (wH (w.heap.size+2) kv iv xs j wr):=hst;clear hst hwq wq;go_upto_region 6 with(first
      |(refine lM uAz _ rfl bb (oo+j*5) rfl (trC k' n' t' (.slice pa pl pc) (.slice qa ql qc)) HR.out rfl ?_)
      |(refine bV rfl 28 _ _ rfl wr.heap.size (trC k' n' t' (.slice pa pl pc) (.slice qa ql qc)) rfl rfl 28 (trC 0 0 ⟨#[]⟩ (.slice none 0 0) (.slice none 0 0)) (aF _ _) eF rfl uAy ?_;intro w3 h3 k3))
     have hb3:Below wr.heap.size wr w3:=(Below.newly' _ _).trans (k3.below (aE _));obtain⟨X,hX⟩:∃X,X=wr.heap.size:=⟨_,rfl⟩
     have HX3:=iH h3;rw[<-hX]at HX3 ⊢;replace HST:=iH (HST.out.later hb3);replace HW:=iH (HW.out.trans (hb3.mono uBz));clear h3 k3 hb3 hX;go_upto_region 7 with(first
      |(refine bR rfl 28 _ rfl X rfl 28 _ _ _ HX3.out Tryz.underlying28 rfl eF ?_)
      |(go_at_call 12;(with_reducible refine(HCL.out _ HW.out).mono ?_);rintro r w4 ⟨yc,rfl,h5,hyt,hb⟩;have HS3:Hid (w.heap.size+2<=w3.heap.size):=uGz;obtain⟨k9,n9,t9,y1,y2,y3,y4,y5,y6,rfl⟩:=hyt.trv.cells;have HYT:=iH hyt;replace HST:=iH (HST.out.later hb);replace HW:=iH (HW.out.trans (hb.mono HS3.out));clear hb h5 hyt)
      |(refine bV rfl 28 _ _ rfl w4.heap.size (trC k9 n9 t9 (.slice y1 y2 y3) (.slice y4 y5 y6)) rfl rfl 28 (trC 0 0 ⟨#[]⟩ (.slice none 0 0) (.slice none 0 0)) (aF _ _) eF rfl uAy ?_;intro w5 h6 k6))
     have hb6:Below w4.heap.size w4 w5:=(Below.newly' _ _).trans (k6.below (aE _));obtain⟨Y,hY⟩:∃Y,Y=w4.heap.size:=⟨_,rfl⟩
     have HY6:=iH h6;rw[<-hY]at HY6 ⊢;replace HST:=iH (HST.out.later hb6);replace HYT:=iH (HYT.out.later hb6);replace HW:=iH (HW.out.trans (hb6.mono uBz));have c5k:w5.cell? ⟨w.heap.size,0,none⟩=some (.int .i64 6):=HXC.out w5 HW.out 0 _ rfl;clear h6 k6 hb6 hY HX3;go_upto_region 12 with fail
     clear c5k;have HKS:Hid (∀V,Below w5.heap.size w5 V->V.heap[Y]? =some (.cells (trC k9 n9 t9 (.slice y1 y2 y3) (.slice y4 y5 y6)) 28 (0,0))):=fun V hb=>(kW hb HY6.out)
     have HKY:Hid (∀W,Below w5.heap.size w5 W->Calls Tryz.prog 38 #[.agg (trC k9 n9 t9 (.slice y1 y2 y3) (.slice y4 y5 y6))] W fun r w'=>r=.returned (.string (kB (cU y)))/\Below W.heap.size W w'):=fun W hb=>aBk (cU y) _ W (HYT.out.later hb).trv HYB.out
     have HPU:Hid (∀W,Below w5.heap.size w5 W->Calls Tryz.prog 37 #[kv,iv,.string (kB (cU y)),.agg (trC k9 n9 t9 (.slice y1 y2 y3) (.slice y4 y5 y6))] W fun r w'=>∃kv' iv',r=.returned (.tuple #[kv',iv'])/\wH (w.heap.size+2) kv' iv' xs (j+1) w'/\Below W.heap.size W w'):=fun W hb=>HST.out.put (HYT.out.later hb) hb hlx HYE.out HTX.out ⟨HS3.out,by have:=HW.out.size;have:=HN0.out;omega⟩
     have HW5:Hid (Below w5.heap.size w5 w5.drew):=bE w5;refine bL (S:=(fun V=>V.heap[Y]? =some (.cells (trC k9 n9 t9 (.slice y1 y2 y3) (.slice y4 y5 y6)) 28 (0,0)))) [] hO uIz (fun hHeld=> ?_);refine tkL 0 41 (h:=?_);refine tkL 1 42 (h:=?_);(try simp only[pq]);refine tyL 2 43 (hy:=aP uAz 28 _ rfl Y rfl (trC k9 n9 t9 (.slice y1 y2 y3) (.slice y4 y5 y6)) 28 (0,0) _ (fun w hw=>hw) Tryz.underlying28 rfl uMu) (h:=?_);refine tyL 4 45 (hy:=aP uAz 28 _ rfl Y rfl (trC k9 n9 t9 (.slice y1 y2 y3) (.slice y4 y5 y6)) 28 (0,0) _ (fun w hw=>hw) Tryz.underlying28 rfl uMu) (h:=?_);(try simp only[pq]);refine tkO 3 (some 44) (h:=fun K hK=> ?_);go_simp;go_at_call 38;(with_reducible refine(HKY.out _ (by exact HW5.out)).mono ?_);rintro r w6 ⟨rfl,hb⟩;replace HW5:=iH (tW HW5.out hb);clear hb;dsimp only;refine hK.out _ _ uIz (fun hHeld=> ?_);clear hK K;(try simp only[pq]);refine tkO 5 (some 46) (h:=fun K hK=> ?_);go_simp;go_at_call 37;(with_reducible refine(HPU.out _ (by exact HW5.out)).mono ?_);rintro r w7 ⟨kv7,iv7,rfl,hi7,hb⟩;have HFI:=iH hi7;replace HW5:=iH (tW HW5.out hb);clear hb hi7;dsimp only;refine hK.out _ _ uIz (fun hHeld=> ?_);clear hK K;(try simp only[pq]);refine tkL 6 40 (h:=?_);refine tkL 7 47 (h:=?_);(try simp only[pq]);refine tkL 8 48 (h:=?_);refine tkL 9 3 (h:=?_);(try simp only[pq]);refine tkL 10 4 (h:=?_);exact Ac4
    ·obtain rfl:N=j:=by omega
     have hlt':¬(N:Int)<(N:Int):=by omega
     skip
     obtain⟨ia7,il7,ic7,rfl⟩:=hie;have HFI:=iH hst;clear hst;have cw0:wr.cell? ⟨w.heap.size,0,none⟩=some (.int .i64 6):=HXC.out wr HW.out 0 _ rfl;have cw1:wr.cell? ⟨w.heap.size,1,none⟩=some (.int .i64 n):=HXC.out wr HW.out 1 _ rfl;have cw2:wr.cell? ⟨w.heap.size,2,none⟩=some (.string t):=HXC.out wr HW.out 2 _ rfl;go_wp2_with (first
      |(refine bV rfl 28 _ _ rfl (w.heap.size+1) (trC 6 n t (.slice none 0 0) (.slice ia7 il7 ic7)) rfl rfl 28 _ (HRR.out _ HW.out) kS rfl (aE0 ⟨_,_,_,rfl⟩ ⟨_,_,_,rfl⟩) ?_;intro w8 h8 k8))
     have hn0:=HN0.out;refine bF (cE rfl _ _ (w.heap.size+1) 28 _ (0,0) _ rfl h8 Tryz.underlying28 rfl kS) rfl ⟨_,rfl,rfl,?_,HB2.out.trans ((HW.out.mono uAu).trans (k8.below uAu))⟩;refine(((show wH _ _ _ _ xs.length _ by rw[<-HKL.out.2.2.1];exact HFI.out).fin HRNG.out.1 HRNG.out.2.2).kept (KT.grown k8.by_ fun Y e hY=> ?_)).weak fun g hg=> ?_
     ·cases e
      have:w.heap.size+2<=w.heap.size+1:=hY;omega
     ·have:w.heap.size+2<=g:=hg
      omega
  ·have HKL:=iH (And.intro trivial hNL)
   have HKN:Hid (k≠5/\k≠6):=⟨c5,c6⟩
   clear hkl hNL hts hvb;have HXC:Hid (∀W,Below (w.heap.size+2) w2 W->∀(i:Nat) (u:Value),(trC k n t (.slice kd lk kcap) (.slice ad N cap))[i]? =some u->W.cell? ⟨w.heap.size,i,none⟩=some u):=fun W hb i u hu=>aK ((hb.block _ uAu).trans hx2) hu
   have HRR:Hid (∀W,Below (w.heap.size+2) w2 W->W.heap[w.heap.size+1]? =some (.cells (trC 0 0 ⟨#[]⟩ (.slice none 0 0) (.slice none 0 0)) 28 (0,0))):=fun W hb=>(hb.block _ uAu).trans hr2
   have HN0:Hid (w2.heap.size=w.heap.size+2):=hs2;have HB2:=iH hb2;have HW:Hid (Below (w.heap.size+2) w2 w2):=aY _ _;have HS0:Hid (∃css,zM (w.heap.size+2) (.slice none 0 0) xs css 0 w2):=⟨[],aJK uAu⟩
   have cx4:w2.cell? ⟨w.heap.size,4,none⟩=some (.slice ad N cap):=aK hx2 rfl;clear hx2 hr2 hs2 hb2;go_enter Tryz.func12,Tryz.ntmps12;go_upto_region 1 with fail
   clear hw2;go_wp2_with fail
   clear cx4;go_loopw [3,4,5,6,7,11] (fun a3 a4 a5 a6 a7 i wl=>∃(j:Nat) (kv iv:Value),j<=N/\i=.int .i64 (j:Int)/\kv=a3/\iv=a4/\(∃c,c=a5)/\(∃c,c=a6)/\(∃c,c=a7)/\kv=.slice none 0 0/\Hid (∃css,zM (w.heap.size+2) iv xs css j wl)/\Hid (Below (w.heap.size+2) w2 wl)) (fun _ _ _ _ _ i _=>N-(intOf i).toNat)
   case atStart=>exact⟨0,_,_,aQ _,rfl,rfl,rfl,⟨_,rfl⟩,⟨_,rfl⟩,⟨_,rfl⟩,rfl,HS0.out,HW.out⟩
   case round=>
    clear HW HS0;obtain⟨j,kv,iv,hj,rfl,rfl,rfl,_,_,_,rfl,HI,HW⟩:=hrel;obtain⟨css,hst⟩:=HI.out;clear HI;have HJN:Hid (j<=N/\N<=16383):=⟨hj,hN4⟩
    have hie:∃a l c,iv=.slice a l c:=by obtain⟨a,c,e⟩:=hst.1.own.shape';exact⟨a,_,c,e⟩
    by_cases hlt:j<N
    ·have hlt':(j:Int)<(N:Int):=by omega
     have i0:(0:Int)<=(j:Int):=by omega
     have hlx:j<xs.length:=by rw[<-HKL.out.2.2.1];exact hlt
     have had:ad=some ⟨bb,oo,none⟩:=HLO.out uAu;subst had;obtain⟨cs,c1,c2,c3⟩:=HLC.out j hlx;have hmem:=aO hlx;obtain⟨y,hy⟩:∃y,y=xs[j]:=⟨_,rfl⟩
     have HYE:=iH hy;rw[<-hy]at c3 hmem;obtain⟨k',n',t',pa,pl,pc,qa,ql,qc,rfl⟩:=c3.cells;have HLOW:=iH (fun W (hb:Below (w.heap.size+2) w2 W)=>HB2.out.trans (hb.mono uAu));have HR:=iH (show wr.rangeAt bb (oo+j*5) (trC k' n' t' (.slice pa pl pc) (.slice qa ql qc)).toList from fun i v hv=>((HLOW.out _ HW.out).cell (aM w _ (c2 i v hv))).trans (c2 i v hv));have hp:=HPP.out y hmem;have HYB:=iH (lG hp.1 hp.2.1 hp.2.2.1 (oG _ _ c3) hp.2.2.2);have HCL:Hid (∀W,Below (w.heap.size+2) w2 W->Calls Tryz.prog 12 #[.agg (trC k' n' t' (.slice pa pl pc) (.slice qa ql qc))] W fun e w'=>∃c,e=.returned (.agg c)/\c.size=5/\TrS (fun g=>W.heap.size<=g) w' (cU y) (.agg c)/\Below W.heap.size W w'):=fun W hW=>HIH.out y hmem _ W (c3.later (HLOW.out W hW)) hp.1 hp.2.1 hp.2.2.1 hp.2.2.2
     clear c1 c2 c3 hmem hy hp;obtain⟨wq,hwq⟩:∃wq,wq=wr:=⟨_,rfl⟩
     have HST:Hid (zM (w.heap.size+2) iv xs css j wr):=hst;clear hst hwq wq;go_upto_region 6 with(first
      |(refine lM uAz _ rfl bb (oo+j*5) rfl (trC k' n' t' (.slice pa pl pc) (.slice qa ql qc)) HR.out rfl ?_)
      |(refine bV rfl 28 _ _ rfl wr.heap.size (trC k' n' t' (.slice pa pl pc) (.slice qa ql qc)) rfl rfl 28 (trC 0 0 ⟨#[]⟩ (.slice none 0 0) (.slice none 0 0)) (aF _ _) eF rfl uAy ?_;intro w3 h3 k3))
     have hb3:Below wr.heap.size wr w3:=(Below.newly' _ _).trans (k3.below (aE _));obtain⟨X,hX⟩:∃X,X=wr.heap.size:=⟨_,rfl⟩
     have HX3:=iH h3;rw[<-hX]at HX3 ⊢;replace HST:=iH (HST.out.later hb3);replace HW:=iH (HW.out.trans (hb3.mono uBz));clear h3 k3 hb3 hX;go_upto_region 7 with(first
      |(refine bR rfl 28 _ rfl X rfl 28 _ _ _ HX3.out Tryz.underlying28 rfl eF ?_)
      |(go_at_call 12;(with_reducible refine(HCL.out _ HW.out).mono ?_);rintro r w4 ⟨yc,rfl,h5,hyt,hb⟩;have HS3:Hid (w.heap.size+2<=w3.heap.size):=uGz;obtain⟨k9,n9,t9,y1,y2,y3,y4,y5,y6,rfl⟩:=hyt.trv.cells;have HYT:=iH hyt;have HST4:=iH (HST.out.new hb hyt);replace HST:=iH (HST.out.later hb);replace HW:=iH (HW.out.trans (hb.mono HS3.out));clear hb h5 hyt)
      |(refine bV rfl 28 _ _ rfl w4.heap.size (trC k9 n9 t9 (.slice y1 y2 y3) (.slice y4 y5 y6)) rfl rfl 28 (trC 0 0 ⟨#[]⟩ (.slice none 0 0) (.slice none 0 0)) (aF _ _) eF rfl uAy ?_;intro w5 h6 k6))
     have hb6:Below w4.heap.size w4 w5:=(Below.newly' _ _).trans (k6.below (aE _));obtain⟨Y,hY⟩:∃Y,Y=w4.heap.size:=⟨_,rfl⟩
     have HY6:=iH h6;rw[<-hY]at HY6 ⊢;replace HST:=iH (HST.out.later hb6);replace HST4:=iH (HST4.out.later hb6);replace HYT:=iH (HYT.out.later hb6);replace HW:=iH (HW.out.trans (hb6.mono uBz));have c5k:w5.cell? ⟨w.heap.size,0,none⟩=some (.int .i64 k):=HXC.out w5 HW.out 0 _ rfl;clear h6 k6 hb6 hY HX3;go_wp2_with (first
      |(refine bR rfl 28 _ rfl Y rfl 28 _ _ _ HY6.out Tryz.underlying28 rfl eF ?_)
      |(refine nK rfl 26 28 _ rfl (trC k9 n9 t9 (.slice y1 y2 y3) (.slice y4 y5 y6)) 5 (.agg (trC 0 0 ⟨#[]⟩ (.slice none 0 0) (.slice none 0 0))) rfl rfl uAv uAv Tryz.underlying26 lH ?_;intro wl hl hbl hzl;have HL:=iH hl;replace HST4:=iH (HST4.out.later hbl);replace HW:=iH (HW.out.trans (hbl.mono uBz));clear hl hbl hzl)
      |(refine cW rfl fun _ hK=>oR 26 28 _ _ rfl (by_:=80) (z:=.agg (trC 0 0 ⟨#[]⟩ (.slice none 0 0) (.slice none 0 0))) (c:=(trC k9 n9 t9 (.slice y1 y2 y3) (.slice y4 y5 y6))) rfl HST4.out.1.1 _ _ rfl HL.out rfl (aE0 ⟨_,_,_,rfl⟩ ⟨_,_,_,rfl⟩) Tryz.underlying26 gQ rfl uAv (by have:=HST4.out.1.2.1;have:=HJN.out;omega) uAv ?_;intro v7 w7 hr hg hn;refine hK _ _ ?_;have HFI:=iH (And.intro hr (And.intro hg hn));have HBF:=iH (HW.out.trans (HST4.out.1.1.below' hg (aE _) uBz));clear hr hg hn hK))
     have hnx:=HST4.out.next hlx HYE.out rfl HFI.out.1 HFI.out.2.1 HFI.out.2.2;go_roundw
     case rel=>exact⟨j+1,_,_,by omega,by go_num,rfl,rfl,⟨_,rfl⟩,⟨_,rfl⟩,⟨_,rfl⟩,rfl,hnx,HBF.out⟩
     case measure=>simp[intOf];omega
    ·obtain rfl:N=j:=by omega
     have hlt':¬(N:Int)<(N:Int):=by omega
     skip
     obtain⟨ia7,il7,ic7,rfl⟩:=hie;have HFI:=iH hst;clear hst;have cw0:wr.cell? ⟨w.heap.size,0,none⟩=some (.int .i64 k):=HXC.out wr HW.out 0 _ rfl;have cw1:wr.cell? ⟨w.heap.size,1,none⟩=some (.int .i64 n):=HXC.out wr HW.out 1 _ rfl;have cw2:wr.cell? ⟨w.heap.size,2,none⟩=some (.string t):=HXC.out wr HW.out 2 _ rfl;go_wp2_with (first
      |(refine bV rfl 28 _ _ rfl (w.heap.size+1) (trC k n t (.slice none 0 0) (.slice ia7 il7 ic7)) rfl rfl 28 _ (HRR.out _ HW.out) kS rfl (aE0 ⟨_,_,_,rfl⟩ ⟨_,_,_,rfl⟩) ?_;intro w8 h8 k8))
     have hn0:=HN0.out;refine bF (cE rfl _ _ (w.heap.size+1) 28 _ (0,0) _ rfl h8 Tryz.underlying28 rfl kS) rfl ⟨_,rfl,rfl,?_,HB2.out.trans ((HW.out.mono uAu).trans (k8.below uAu))⟩;refine(((show zM _ _ _ _ xs.length _ by rw[<-HKL.out.2.2.1];exact HFI.out).fin HKN.out.1 HKN.out.2 HRNG.out.1 HRNG.out.2.1 HRNG.out.2.2).kept (KT.grown k8.by_ fun Y e hY=> ?_)).weak fun g hg=> ?_
     ·cases e
      have:w.heap.size+2<=w.heap.size+1:=hY;omega
     ·have:w.heap.size+2<=g:=hg
      omega
end Go.Proofs.YtengibnpebfblaaGreatDoor
