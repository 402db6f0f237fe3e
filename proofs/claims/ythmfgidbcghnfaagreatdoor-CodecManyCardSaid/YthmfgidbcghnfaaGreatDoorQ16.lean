import Derived.Test.YthmfgidbcghnfaaGreatDoorQ0
import Derived.Test.YthmfgidbcghnfaaGreatDoorQ13
import Derived.Test.YthmfgidbcghnfaaGreatDoorQ15
set_option maxRecDepth 1000000
set_option maxHeartbeats 8000000
set_option linter.unusedSimpArgs false
namespace Go.Proofs.YthmfgidbcghnfaaGreatDoor
open Go.RowKit
def mO (hs:ByteArray->Nat) (S:Nat->Prop) (w:World) (L:List Ent) (k:ByteArray) (p:Option Nat):Prop:=match jB L k with
 |none=>p=none
 |some x=>∃b,p=some b/\jT hs S w b (k,x)
theorem mO.kp {hs:ByteArray->Nat} {S:Nat->Prop} {w w':World} {L:List Ent} {k:ByteArray} {p:Option Nat} (h:mO hs S w L k p) (kk:Kp S w w'):mO hs S w' L k p:=by
 unfold mO at h ⊢;cases hg:jB L k with
 |none=>rw[hg]at h;exact h
 |some x=>
  rw[hg]at h;obtain⟨b,h1,h2⟩:=h;exact⟨b,h1,h2.kp kk⟩
theorem mO.later {hs:ByteArray->Nat} {S:Nat->Prop} {w w':World} {L:List Ent} {k:ByteArray} {p:Option Nat} (h:mO hs S w L k p) (hb:Below w.heap.size w w'):mO hs S w' L k p:=h.kp (Kp.later hb)
theorem mO.isSome {hs:ByteArray->Nat} {S:Nat->Prop} {w:World} {L:List Ent} {k:ByteArray} {p:Option Nat} (h:mO hs S w L k p):p.isSome=(jB L k).isSome:=by
 unfold mO at h;cases hg:jB L k with
 |none=>rw[hg]at h;rw[h];rfl
 |some x=>rw[hg]at h;obtain⟨b,h1,_⟩:=h;rw[h1];rfl
theorem mO.congr {hs:ByteArray->Nat} {S:Nat->Prop} {w:World} {L M:List Ent} {k:ByteArray} {p:Option Nat} (h:mO hs S w L k p) (e:jB L k=jB M k):mO hs S w M k p:=by
 unfold mO at h ⊢;rw[<-e];exact h
def aGs (hs:ByteArray->Nat) (f:Nat):Prop:=∀(S:Nat->Prop) (w:World) (L:List Ent) (c:Array Value) (k:ByteArray),dI hs S f w L c->jX L->L.length<=100000->
  Calls Tryz.prog 154 #[.agg c,.int .i64 ((13-f:Nat):Int),.int .u64 (hs k:Nat),.string k] w fun r w'=>∃p,r=.returned (pv p)/\mO hs S w' L k p/\Below w.heap.size w w'
theorem aMB (hs:ByteArray->Nat):aGs hs 0:=by
 intro S w L c k h hL hn;obtain⟨w1,ag⟩:∃w1,w.alloc (.cells c 134)=w1:=⟨_,rfl⟩
 have af:Below w.heap.size w w1:=by rw[<-ag];exact Below.newly' _ _
 have ai:w1.heap[w.heap.size]? =some (.cells c 134 (0,0)):=by rw[<-ag];exact aC _ _
 have HX1:=iH ai;have HB1:=iH af;have HS:=iH (aEI w1 L c k (h.later af) hL hn);have nm:=iH h.size;obtain⟨v,qs,rfl,h2,hq,h4⟩:=h;obtain⟨p1,p2⟩:=aIA hL k;rw[show(((13-0:Nat):Nat):Int)=13 from rfl];cases hg:jB L k with
 |none=>
  rw[hg]at HS;clear h2 h4 p1 p2 af ai;go_enter Tryz.func154,Tryz.ntmps154;go_upto_region 1 with fail
  clear ag;go_wp2_with (first
   |(refine aW uAz 134 _ rfl w.heap.size rfl 134 _ _ _ HX1.out Tryz.underlying134 rfl iT ?_)
   |(go_at_call 178;refine HS.out.mono ?_;rintro r w2 ⟨rfl,hb⟩;have aq:=iH (tW HB1.out hb);clear hb))
  go_ret;exact⟨none,rfl,by unfold mO;rw[hg],aq.out⟩
 |some x=>
  rw[hg]at HS;obtain⟨e,he,BM,hex⟩:=p2 (by rw[hg];rfl);obtain⟨N,hN⟩:∃N,N=(nG L k).length:=⟨_,rfl⟩
  rw[<-hN]at HS he;rw[hq,List.getElem?_map]at he;obtain⟨q,Jv,Ew⟩:=eR.1 he;have hlt:=(List.getElem?_eq_some_iff.1 Jv).1;obtain⟨hl,h2⟩:=h2;rw[hq,aM]at h2;rcases h2 with⟨h0,_⟩|⟨h0,g,cp,aj,rfl,Jm,hS,wo,hc⟩
  ·omega
  ·have gr:w.cell? ⟨g,N,none⟩=some (pv (some q.1)):=aG wo (hc N _ (by rw[zO,Jv];rfl))
   have Ex:=(af.cell (p:=⟨g,N,none⟩) (gZ wo)).trans gr;have Ag:=iH (h4 q (fK Jv));rw[hg]at hex;have Ud:q.2=(k,x):=by rw[Ew];exact Prod.ext BM (aH hex).symm
   rw[Ud]at Ag;have bd:=iH Ex;have l0:(N:Int)<(qs.length:Int):=by omega
   obtain⟨b,hb⟩:∃b,b=q.1:=⟨_,rfl⟩
   rw[<-hb]at bd Ag;have Ef:=iH (gZ wo);clear h4 p1 p2 af ai hl wo hc gr Ex he Ew Ud Jv hlt BM hex hN hb;go_enter Tryz.func154,Tryz.ntmps154;go_upto_region 1 with fail
   clear ag;go_wp2_with (first
    |(refine aW uAz 134 _ rfl w.heap.size rfl 134 _ _ _ HX1.out Tryz.underlying134 rfl iT ?_)
    |(go_at_call 178;refine HS.out.mono ?_;rintro r w2 ⟨rfl,hb⟩;have aq:=iH (tW HB1.out hb);have rm:w2.cell? ⟨w.heap.size,2,none⟩=some (.slice (some ⟨g,0,none⟩) qs.length cp):=aG (kW hb HX1.out) rfl;have MP:w2.cell? ⟨g,N,none⟩=some (pv (some b)):=(hb.cell (p:=⟨g,N,none⟩) (bK Ef.out HB1.out.size)).trans bd.out;clear hb))
   go_ret;exact⟨some b,rfl,by unfold mO;rw[hg];exact⟨b,rfl,Ag.out.later aq.out⟩,aq.out⟩
theorem kF {V:World} {X:Nat} {a b d:Value} {T:TypeId} {fr:Nat×Nat} (h:V.heap[X]? =some (.cells #[a,b,d] T fr)):V.rangeAt X 0 (#[a,b]:Array Value).toList:=fun j u hu=>by
 refine aG h ?_;rcases j with _|_|j
 ·simpa using hu
 ·simpa using hu
 ·simp at hu
theorem aMA (hs:ByteArray->Nat) (hlt:∀k,hs k<18446744073709551616) (f:Nat) (hf:f<=12) (ih:aGs hs f):aGs hs (f+1):=by
 intro S w L c k h hL hn;obtain⟨w1,ag⟩:∃w1,w.alloc (.cells c 134)=w1:=⟨_,rfl⟩
 have af:Below w.heap.size w w1:=by rw[<-ag];exact Below.newly' _ _
 have ai:w1.heap[w.heap.size]? =some (.cells c 134 (0,0)):=by rw[<-ag];exact aC _ _
 have al:w1.heap.size=w.heap.size+1:=by rw[<-ag];simp
 obtain⟨lv,Hr⟩:∃lv:Nat,lv=12-f:=⟨_,rfl⟩
 have Qn:(13-(f+1):Nat)=lv:=by omega
 rw[Qn];obtain⟨b,v,R,rfl,dj,hpl⟩:=h.row;obtain⟨i,hi⟩:∃i,i=jD (hs k) (lv:Int):=⟨_,rfl⟩
 have Cp:i<32:=by rw[hi];exact sZ _ _
 have qi:=iH (fun W=>aEv (hs k) (lv:Int) (hlt k) W);rw[<-hi]at qi;have Ey:=iH (fun W (hb:Below w.heap.size w W)=>aOd W R #[b,v] i Cp (dj.later hb));have jm:=iH (hpl i Cp);have uq:jB (chE hs lv i L) k=jB L k:=aTQ (by rw[hi]);rw[<-Hr]at jm;have vf:=iH uq;have Xa:=iH (hL.ch hs lv i);have fw:=iH (aI (aAC (hs:=hs) (lv:=lv) (i:=i) (L:=L)) hn);have pg:=iH ih;have HX1:=iH ai;have HB1:=iH af;have HS1:=iH al;have Xb:((lv:Int)==13)=false:=aE.2 hO;have Qo:(lv:Int)<=12:=by omega
 have mb:Hid ((13-f:Nat)=lv+1):=by show _=_;omega
 obtain⟨M,hM⟩:∃M,M=chE hs lv i L:=⟨_,rfl⟩
 rw[<-hM]at jm vf Xa fw;obtain⟨h1,u1⟩:∃x:Nat,x=hs k:=⟨_,rfl⟩
 have BN:=iH u1;rw[<-u1]at qi ⊢;obtain⟨bb,rfl⟩:∃bb:Nat,b=.int .u32 (bb:Int):=by obtain⟨v',e,_⟩:=dj;simp only[gU,dA]at e;exact⟨_,e.1⟩
 obtain⟨va,vn,vc,rfl⟩:∃a n c,v=.slice a n c:=by obtain⟨a,n,e⟩:=dj.shape;simp only[gU,dA]at e;exact⟨_,_,_,e.2.1⟩
 clear h dj hpl uq ai af al hi hM hL hn ih u1 Hr Qn;go_enter Tryz.func154,Tryz.ntmps154;go_upto_region 6 with fail
 clear ag;have ar:Hid (∀V,Below w1.heap.size w1 V->(V.heap[w.heap.size]? =some (.cells #[.int .u32 (bb:Int),.slice va vn vc,.slice none 0 0] 134 (0,0)))):=fun V hV=>(hV.block _ uBu).trans HX1.out
 have HW:Hid (Below w1.heap.size w1 w1.drew):=aY w1;refine bO (S:=(fun V=>V.heap[w.heap.size]? =some (.cells #[.int .u32 (bb:Int),.slice va vn vc,.slice none 0 0] 134 (0,0)))) [] uAu uAw (fun ab=> ?_);refine tkA 0 29 (h:=?_);refine tyA 1 30 (hy:=dX uAz 131 _ rfl w.heap.size 0 rfl #[.int .u32 (bb:Int),.slice va vn vc] _ (fun w hw=>(kF hw)) Tryz.underlying131 rfl (by exact iY)) (h:=?_);(try simp only[pq]);refine tkA 2 31 (h:=?_);refine tkA 3 32 (h:=?_);(try simp only[pq]);refine qJ (i:=4) (oi:=⟨some 33,_,_,_,_,_⟩) (v:=.int .i64 (i:Int)) rfl uAu uAu uAu uAu (fun _ _ _ h=>h) ⟨by rfl,fun w jy=>⟨180,#[.int .u64 (h1:Int),.int .i64 (lv:Int)],?hg1_4,(qi.out w).mono fun _ _ h=>⟨h.1,h.2.symm⟩⟩⟩ uCw ?rg1_4
 case hg1_4=>go_simp
 (try simp only[pq]);refine fU (rs:=[5,9]) uAu uAy ?_;refine jJ.cons (o:=⟨some 34,_,_,_,_,_⟩) rfl (fun K hK=> ?_) (jJ.cons (o:=⟨some 11,_,_,_,_,_⟩) rfl (fun K hK=> ?_) jJ.nil)
 focus go_simp
 focus go_at_call 179;refine(Ey.out _ (tW HB1.out HW.out)).mono ?_;rintro r w5 ⟨rfl,hb⟩;replace HW:=iH (tW HW.out hb);clear hb;dsimp only;refine hK.out _ _ uAw (fun ab=> ?_);clear hK K;(try simp only[pq]);refine tkA 6 28 (h:=?_);refine tkA 7 35 (h:=?_);(try simp only[pq]);refine tkA 8 36 (h:=?_);(try simp only[pq]);refine tkO 9 (some 11) (h:=fun K hK=> ?_);focus go_simp;have Ez:Hid (aAI (w5.alloc (.cells #[.pointer none,.pointer none] 258)) w5.heap.size (none,none)):=aC w5 _;have x7:=iH HW.out.size;replace HW:=iH (HW.out.trans ((Below.newly' w5 (.cells #[.pointer none,.pointer none] 258)).mono HW.out.size));obtain⟨X,hX⟩:∃X,X=w5.heap.size:=⟨_,rfl⟩
 rw[<-hX]at Ez x7 ⊢;clear hX;refine hK.out _ _ uAw (fun ab=> ?_);clear hK K
 rotate_left
 focus go_simp
 obtain⟨W2,o6⟩:∃W2,(w1.alloc (.cells #[.pointer none,.pointer none] 258)).drew=W2:=⟨_,rfl⟩
 have Qp:Hid (aAI W2 w1.heap.size (none,none)):=by show _=_;rw[<-o6];exact aC w1 _
 have hb:Below w1.heap.size w1 W2:=by rw[<-o6];exact Below.drewMany (Below.newly' w1 _) 1
 replace HW:=iH hb;have x7:Hid (w1.heap.size<=w1.heap.size):=aA _;have Qq:Hid (w1.heap.size<W2.heap.size):=by show _<_;rw[<-o6];simp
 rw[o6];clear hb o6;obtain⟨X,hX⟩:∃X,X=w1.heap.size:=⟨_,rfl⟩
 rw[<-hX]at Qp Qq ⊢;replace x7:Hid (w1.heap.size<=X):=by show _<=_;rw[hX];exact aA _
 clear hX;refine hK.out _ _ uAw (fun ab=> ?_);clear hK K;(try simp only[pq]);refine tkO 5 (some 34) (h:=fun K hK=> ?_);focus go_simp;focus go_at_call 179;refine(Ey.out _ (tW HB1.out HW.out)).mono ?_;rintro r w5 ⟨rfl,hb⟩;have Ez:=iH ((hb.block X Qq.out).trans Qp.out);replace HW:=iH (tW HW.out hb);clear hb;dsimp only;refine hK.out _ _ uAw (fun ab=> ?_);clear hK K;(try simp only[pq]);refine tkA 6 28 (h:=?_);refine tkA 7 35 (h:=?_);(try simp only[pq]);refine tkA 8 36 (h:=?_)
 all_goals
  (try simp only[pq]);refine tkO 10 none (h:=fun K hK=> ?_);rw[if_pos uAz];refine eC 258 _ _ rfl X (plc ((R i).getD (none,none))) rfl rfl 258 (plc (none,none)) Ez.out dN rfl (gW _) ?_;intro w6 h6 k6;have lg:=iH h6;replace HW:=iH (HW.out.trans (k6.below x7.out));clear h6 k6 Ez;refine hK.out _ _ uAw (fun ab=> ?_);clear hK K;(try simp only[pq]);refine tkA 11 12 (h:=?_);(try simp only[pq]);refine bJ uAu ?_ _;have og:=iH (tW HB1.out HW.out);clear ab;rcases M with _|⟨e,_|⟨e2,M2⟩⟩
  ·have hr:R i=none:=jm.out
   rw[hr]at lg ⊢;have tu:w6.cell? ⟨X,0,none⟩=some (.pointer none):=aG lg.out rfl;have Ah:w6.cell? ⟨X,1,none⟩=some (.pointer none):=aG lg.out rfl;have HG:Hid (jB L k=none):=by show _=_;rw[<-vf.out];rfl
   clear hr;go_wp2_with fail
   go_ret;exact⟨none,rfl,by unfold mO;rw[HG.out],og.out⟩
  ·obtain⟨b,hr,he⟩:=jm.out
   rw[hr]at lg ⊢;have zn:=iH (he.later og.out);have tu:w6.cell? ⟨X,0,none⟩=some (.pointer (some ⟨b,0,none⟩)):=aG lg.out rfl;have Ah:w6.cell? ⟨X,1,none⟩=some (.pointer none):=aG lg.out rfl;have Ue:w6.cell? ⟨b,0,none⟩=some (.string e.1):=by
    obtain⟨_,fr,h⟩:=zn.out;exact aG h rfl
   have qq:jB [e] k=if e.1=k then some e.2 else none:=by
    unfold jB;by_cases h:e.1=k
    ·simp[h]
    ·simp[h]
   have Cq:Hid (jB L k=if e.1=k then some e.2 else none):=by show _=_;rw[<-vf.out];exact qq
   clear hr he qq;by_cases hk:e.1=k
   ·have ei:(e.1.toList==k.toList)=true:=by rw[hk];simp
    have oz:=iH hk;clear hk;go_wp2_with fail
    go_ret;refine⟨some b,rfl,?_,og.out⟩;unfold mO;rw[Cq.out,if_pos oz.out];refine⟨b,rfl,?_⟩;rw[<-oz.out];exact zn.out
   ·have ei:(e.1.toList==k.toList)=false:=aE.2 fun h=>hk (vU (by rw[dJ,dJ]at h;exact h))
    have oz:=iH hk;clear hk;go_wp2_with fail
    go_ret;exact⟨none,rfl,by unfold mO;rw[Cq.out,if_neg oz.out],og.out⟩
  ·obtain⟨b,c2,fr,hr,Xc,jf,hN⟩:=jm.out
   rw[hr]at lg ⊢;have Ah:w6.cell? ⟨X,1,none⟩=some (.pointer (some ⟨b,0,none⟩)):=aG lg.out rfl;have j7:=iH (kW og.out jf);have Lu:=pg.out S w6 _ c2 k (hN.later og.out) Xa.out fw.out;rw[mb.out,<-BN.out,show(((lv+1:Nat):Nat):Int)=(lv:Int)+1 by omega]at Lu;have HF:=iH Lu;have Lv:=iH hN.size;clear hr Xc jf hN Lu;go_wp2_with (first
    |(refine aW uAz 134 _ rfl b rfl 134 _ _ _ j7.out Tryz.underlying134 rfl (by rw[Lv.out];exact iT) ?_)
    |(go_at_call 154;refine HF.out.mono ?_;rintro r w7 ⟨p,rfl,hp,hb⟩;have Lw:=iH hp;have yc:=iH (tW og.out hb);clear hp hb))
   go_ret;exact⟨p,rfl,(Lw.out.congr vf.out),yc.out⟩
theorem aG3 (hs:ByteArray->Nat) (hlt:∀k,hs k<18446744073709551616):∀f,f<=13->aGs hs f
 |0,_=>aMB hs
 |f+1,h=>aMA hs hlt f hO (aG3 hs hlt f hO)
section
variable {β : Type} (f : β → List UInt8)
def tT (l:List β) (x:β):List β:=l.takeWhile (fun y=>decide (f y<f x))++x::l.dropWhile (fun y=>decide (f y<f x))
def oE (l:List β):List β:=l.foldl (tT f) []
def rS (l:List β):Prop:=l.Pairwise fun a b=>f a<f b
variable {f}
theorem aAk (l:List β) (x:β):(tT f l x).Perm (x::l):=by
 unfold tT;refine nB.trans ?_;rw[sD]
theorem aEj {l:List β} {x:β} (h:rS f l) (hx:∀y∈l,f y≠f x):rS f (tT f l x):=by
 induction l with
 |nil=>unfold rS tT;simp
 |cons a l ih=>
  unfold rS at h ih ⊢;rw[gG]at h;unfold tT at ih ⊢;by_cases hp:f a<f x
  ·rw[dZ,List.dropWhile_cons,if_pos uUy,if_pos uUy,aP,gG]
   refine⟨fun b hb=> ?_,ih h.2 (fun y hy=>hx y (bF _ hy))⟩;have:=(aAk (f:=f) l x).mem_iff.1 hb;rcases bL.1 this with rfl|hb
   ·exact hp
   ·exact h.1 b hb
  ·rw[dZ,List.dropWhile_cons,if_neg uUy,if_neg uUy,aT,gG,gG]
   have hlt:f x<f a:=by
    rcases aK6 (f x) (f a) (fun e=>hx a (aZ ..) e.symm)with h|h
    ·exact h
    ·exact absurd h hp
   refine⟨fun b hb=> ?_,h⟩;rcases bL.1 hb with rfl|hb
   ·exact hlt
   ·exact mD hlt (h.1 b hb)
theorem aMG (l:List β):∀Dr:List β,(l.foldl (tT f) Dr).Perm (Dr++l):=by
 induction l with
 |nil=>intro Dr;simp
 |cons x l ih=>
  intro Dr;rw[vA];refine(ih _).trans ?_;refine((aAk Dr x).append_right l).trans ?_;rw[aP];exact nB.symm
theorem iG (l:List β):(oE f l).Perm l:=by
 have h:=aMG (f:=f) l [];rw[aT]at h;exact h
theorem aMF (l:List β):∀Dr:List β,rS f Dr->((Dr++l).map f).Nodup->rS f (l.foldl (tT f) Dr):=by
 induction l with
 |nil=>intro Dr h _;exact h
 |cons x l ih=>
  intro Dr h hn;rw[vA];refine ih _ (aEj h fun y hy e=> ?_) ?_
  ·rw[bZ,cA,aLm]at hn
   exact hn.2.2 (f y) (wQ hy) (f x) (aZ ..) e
  ·refine(List.Perm.nodup_iff (List.Perm.map f ?_)).2 hn
   refine((aAk Dr x).append_right l).trans ?_;rw[aP];exact nB.symm
theorem aBZ {l:List β} (h:(l.map f).Nodup):rS f (oE f l):=aMF l [] List.Pairwise.nil uDu
theorem rS.nodup {l:List β} (h:rS f l):(l.map f).Nodup:=by
 unfold List.Nodup;rw[mB];exact oQ (fun {a b} (hab:f a<f b) (e:f a=f b)=>iJ (f b) (by rwa[e]at hab)) h
theorem aLW {l m:List β} (hl:rS f l) (hm:rS f m) (h:l.Perm m):l=m:=
 List.Perm.eq_of_pairwise (le:=fun a b=>f a<f b) (fun _ _ _ _ hab xb=>absurd (mD hab xb) (iJ _)) hl hm h
theorem aNT {l:List β} (h:rS f l):oE f l=l:=aLW (aBZ h.nodup) h (iG l)
theorem aQS (l:List β):(oE f l).length=l.length:=(iG l).length_eq
end
abbrev kbF (p:ByteArray×Tr):List UInt8:=kb p.1
mutual
def cP:Tr->Tr
 | .nd k n t ks xs=>
  if k=5 then .nd k n t ((oE kbF (ks.zip (lB xs))).map (·.1)) ((oE kbF (ks.zip (lB xs))).map (·.2))
  else if k=6 then .nd k n t [] (oE dW (lB xs))
  else .nd k n t [] (lB xs)
def lB:List Tr->List Tr
 |[]=>[]
 |x::r=>cP x::lB r
end
theorem kJ (l:List Tr):lB l=l.map cP:=by
 induction l with
 |nil=>rw[lB];rfl
 |cons x l ih=>rw[lB,ih];rfl
theorem aQ3 (a:Tr):(cP a).k=a.k:=by
 cases a;rw[cP];repeat' split
 all_goals rfl
def aAm (a:Tr):Int:=
 if a.k<0\/6<a.k then 3
 else if a.k<=3 then(if a.ks≠[]\/a.xs.length≠0 then 1 else iB (a.k,a.n,kb a.t))
 else if a.n≠0\/a.t≠⟨#[]⟩then 1
 else if(a.k=5/\a.ks.length≠a.xs.length)\/(a.k≠5/\a.ks≠[])then 1
 else if¬a.ks.Nodup then 6 else 0
mutual
def uP:Tr->Nat->Nat->Nat×Int
 | .nd k n t ks xs,d,m=>
  if 64<d then(m+1,7)else if 16384<m+1 then(m+1,8)
  else if aAm (.nd k n t ks xs)≠0 then(m+1,aAm (.nd k n t ks xs))
  else if(vR xs (d+1) (m+1)).2≠0 then vR xs (d+1) (m+1)
  else if k=6/\¬((lB xs).map dW).Nodup then((vR xs (d+1) (m+1)).1,6)
  else((vR xs (d+1) (m+1)).1,0)
def vR:List Tr->Nat->Nat->Nat×Int
 |[],_,m=>(m,0)
 |x::r,d,m=>if(uP x d m).2≠0 then uP x d m else vR r d (uP x d m).1
end
def chkT (a:Tr):Int:=(uP a 1 0).2
mutual
def OkT:Tr->Prop
 | .nd k n t ks xs=>aAm (.nd k n t ks xs)=0/\OkL xs/\(k=6->((lB xs).map dW).Nodup)
def OkL:List Tr->Prop
 |[]=>True
 |x::r=>OkT x/\OkL r
end
theorem aFM {l:List Tr}:OkL l↔∀x∈l,OkT x:=by
 induction l with
 |nil=>simp[OkL]
 |cons x l ih=>rw[OkL,ih];simp
theorem aRC (a:Tr):∀d m,((uP a d m).2=0↔OkT a/\gJ a+d<=65/\m+eW a<=16384)/\((uP a d m).2=0->(uP a d m).1=m+eW a):=by
 induction a using kD with
 |h k n t ks xs ih=>
  intro d m;have hL:∀(l:List Tr),(∀x∈l,∀d m,((uP x d m).2=0↔OkT x/\gJ x+d<=65/\m+eW x<=16384)/\((uP x d m).2=0->(uP x d m).1=m+eW x))->∀d m,d<=65->m<=16384->
    ((vR l d m).2=0↔OkL l/\fP l+d<=65/\m+cU l<=16384)/\((vR l d m).2=0->(vR l d m).1=m+cU l):=by
   intro l;induction l with
   |nil=>intro _ d m hd hm;rw[vR,OkL,fP,cU];simp;omega
   |cons x r Lx=>
    intro hi d m hd hm;obtain⟨h1,h2⟩:=hi x (aZ ..) d m;rw[vR,OkL,fP,cU];by_cases hz:(uP x d m).2=0
    ·rw[if_neg (by simpa using hz),h2 hz]
     obtain⟨o1,o2,o3⟩:=h1.1 hz;obtain⟨h3,h4⟩:=Lx (fun y hy=>hi y (bF _ hy)) d (m+eW x) hd hO;rw[h3];refine⟨⟨fun⟨a,b,c⟩=>⟨⟨o1,a⟩,by omega,by omega⟩,fun⟨⟨_,a⟩,b,c⟩=>⟨a,by omega,by omega⟩⟩,fun h=> ?_⟩;rw[h4 (h3.2 h)];omega
    ·rw[if_pos (by simpa using hz)]
     refine⟨⟨fun h=>absurd h hz,fun⟨⟨a,_⟩,b,c⟩=>absurd (h1.2 ⟨a,by omega,by omega⟩) hz⟩,fun h=>absurd h hz⟩
  rw[uP,OkT,gJ,eW];by_cases h1:64<d
  ·rw[if_pos h1]
   simp;omega
  rw[if_neg h1];by_cases h2:16384<m+1
  ·rw[if_pos h2]
   simp;omega
  rw[if_neg h2];by_cases h3:aAm (.nd k n t ks xs)=0
  case neg=>
   rw[if_pos uUx];simp[h3]
  rw[if_neg uUx];obtain⟨h4,h5⟩:=hL xs ih (d+1) (m+1) hO hO;by_cases h6:(vR xs (d+1) (m+1)).2=0
  ·rw[if_neg (by simpa using h6)]
   obtain⟨o1,o2,o3⟩:=h4.1 h6;by_cases h7:k=6/\¬((lB xs).map dW).Nodup
   ·rw[if_pos h7]
    simp;intro _ _ h8;exact absurd (h8 h7.1) h7.2
   ·rw[if_neg h7,h5 h6]
    refine⟨⟨fun _=>⟨⟨h3,o1,fun hk=> ?_⟩,by omega,by omega⟩,fun _=>rfl⟩,fun _=>by omega⟩;exact eE fun hn=>h7 ⟨hk,hn⟩
  ·rw[if_pos (by simpa using h6)]
   refine⟨⟨fun h=>absurd h h6,fun⟨⟨_,a,_⟩,b,c⟩=>absurd (h4.2 ⟨a,by omega,by omega⟩) h6⟩,fun h=>absurd h h6⟩
theorem aS9 {a:Tr}:chkT a=0↔OkT a/\gJ a<=64/\eW a<=16384:=by
 unfold chkT;rw[(aRC a 1 0).1];constructor
 ·rintro⟨h1,h2,h3⟩;exact⟨h1,by omega,by omega⟩
 ·rintro⟨h1,h2,h3⟩;exact⟨h1,by omega,by omega⟩
mutual
def xR:Tr->Prop
 | .nd _ n _ _ xs=>InR n/\aQm xs
def aQm:List Tr->Prop
 |[]=>True
 |x::r=>xR x/\aQm r
end
theorem aC2 {l:List Tr}:aQm l↔∀x∈l,xR x:=by
 induction l with
 |nil=>simp[aQm]
 |cons x l ih=>rw[aQm,ih];simp
theorem rO {a:Tr}:OkT a↔aAm a=0/\(∀x∈a.xs,OkT x)/\(a.k=6->((a.xs.map cP).map dW).Nodup):=by
 cases a with
 |nd k n t ks xs=>rw[OkT,aFM,kJ];rfl
theorem qT {a:Tr}:xR a↔InR a.n/\∀x∈a.xs,xR x:=by
 cases a with
 |nd k n t ks xs=>rw[xR,aC2];rfl
theorem aAl {a:Tr}:aAm a=0↔(0<=a.k/\a.k<=3/\iB (a.k,a.n,kb a.t)=0/\a.ks=[]/\a.xs=[])\/(a.n=0/\a.t=⟨#[]⟩/\((a.k=4/\a.ks=[])\/(a.k=5/\a.ks.length=a.xs.length/\a.ks.Nodup)\/(a.k=6/\a.ks=[]))):=by
 unfold aAm;by_cases h1:a.k<0\/6<a.k
 ·rw[if_pos h1]
  constructor
  ·intro h;cases h
  ·rintro(⟨h,h2,_⟩|⟨_,_,h|h|h⟩)<;>omega
 rw[if_neg h1];by_cases h2:a.k<=3
 ·rw[if_pos h2]
  by_cases h3:a.ks≠[]\/a.xs.length≠0
  ·rw[if_pos h3]
   constructor
   ·intro h;cases h
   ·rintro(⟨_,_,_,h4,h5⟩|⟨_,_,h|h|h⟩)
    ·rcases h3 with h|h
     ·exact absurd h4 h
     ·rw[h5]at h;exact absurd rfl h
    all_goals omega
  ·rw[if_neg h3]
   constructor
   ·intro h
    exact .inl ⟨by omega,h2,h,eE fun h4=>h3 (.inl h4),List.length_eq_zero_iff.1 (eE fun h4=>h3 (.inr h4))⟩
   ·rintro(⟨_,_,h,_⟩|⟨_,_,h|h|h⟩)
    ·exact h
    all_goals omega
 ·rw[if_neg h2]
  by_cases h3:a.n≠0\/a.t≠⟨#[]⟩
  ·rw[if_pos h3]
   constructor
   ·intro h;cases h
   ·rintro(⟨_,h,_⟩|⟨h4,h5,_⟩)
    ·omega
    ·rcases h3 with h|h
     ·exact absurd h4 h
     ·exact absurd h5 h
  ·rw[if_neg h3]
   have hn:a.n=0:=eE fun h4=>h3 (.inl h4)
   have ht:a.t=⟨#[]⟩:=eE fun h4=>h3 (.inr h4)
   by_cases h5:(a.k=5/\a.ks.length≠a.xs.length)\/(a.k≠5/\a.ks≠[])
   ·rw[if_pos h5]
    constructor
    ·intro h;cases h
    ·rintro(⟨_,h,_⟩|⟨_,_,h|h|h⟩)
     ·omega
     ·rcases h5 with h6|h6
      ·omega
      ·exact absurd h.2 h6.2
     ·rcases h5 with h6|h6
      ·exact absurd h.2.1 h6.2
      ·omega
     ·rcases h5 with h6|h6
      ·omega
      ·exact absurd h.2 h6.2
   ·rw[if_neg h5]
    have gv:a.k≠5->a.ks=[]:=fun hk=>eE fun h6=>h5 (.inr ⟨hk,h6⟩)
    by_cases h6:a.ks.Nodup
    ·rw[if_neg (by simpa using h6)]
     refine⟨fun _=>.inr ⟨hn,ht,?_⟩,fun _=>rfl⟩;have hk:a.k=4\/a.k=5\/a.k=6:=by omega
     rcases hk with hk|hk|hk
     ·exact .inl ⟨hk,gv hO⟩
     ·exact .inr (.inl ⟨hk,eE fun h7=>h5 (.inl ⟨hk,h7⟩),h6⟩)
     ·exact .inr (.inr ⟨hk,gv hO⟩)
    ·rw[if_pos h6]
     constructor
     ·intro h;cases h
     ·rintro(⟨_,h,_⟩|⟨_,_,h|h|h⟩)
      ·omega
      ·rw[h.2]at h6;exact absurd lO h6
      ·exact absurd h.2.2 h6
      ·rw[h.2]at h6;exact absurd lO h6
theorem tM {α β:Type}:∀(l:List α) (m:List β),l.length=m.length->(l.zip m).map (·.1)=l
 |[],[],_=>rfl
 |a::l,b::m,h=>by simp only[aIN,cA];rw[tM l m uDu]
 |[],_::_,h=>by simp at h
 |_::_,[],h=>by simp at h
theorem aBo {α β:Type}:∀(l:List α) (m:List β),l.length=m.length->(l.zip m).map (·.2)=m
 |[],[],_=>rfl
 |a::l,b::m,h=>by simp only[aIN,cA];rw[aBo l m uDu]
 |[],_::_,h=>by simp at h
 |_::_,[],h=>by simp at h
theorem aHt {l:List ByteArray}:(l.map kb).Nodup↔l.Nodup:=by
 unfold List.Nodup;rw[mB];constructor
 ·intro h;exact oQ (fun {a b} (hab:kb a≠kb b) (e:a=b)=>hab (by rw[e])) h
 ·intro h;exact oQ (fun {a b} (hab:a≠b) (e:kb a=kb b)=>hab (vU e)) h
theorem aHn {ks:List ByteArray} {l:List Tr} (hl:ks.length=l.length) (h:ks.Nodup):((ks.zip l).map kbF).Nodup:=by
 have e:(ks.zip l).map kbF=ks.map kb:=by
  have h1:=tM ks l hl
  conv=>rhs;rw[<-h1]
  rw[aBH];rfl
 rw[e];exact aHt.2 h
theorem aDf (a:Tr):OkT a->xR a->kL (cP a):=by
 induction a using kD with
 |h k n t ks xs ih=>
  intro ho hr;rw[rO]at ho;rw[qT]at hr;simp only[Tr.k,Tr.n,Tr.t,Tr.ks,Tr.xs]at ho hr;have hp:∀y∈lB xs,kL y:=by
   intro y hy;rw[kJ]at hy;obtain⟨x,hx,rfl⟩:=dH.1 hy;exact ih x hx (ho.2.1 x hx) (hr.2 x hx)
  have an:(lB xs).length=xs.length:=by rw[kJ,aM]
  have h0:=aAl.1 ho.1;simp only[Tr.k,Tr.n,Tr.t,Tr.ks,Tr.xs]at h0;rw[cP];rw[iA];rcases h0 with⟨h1,h2,h3,rfl,rfl⟩|⟨rfl,rfl,⟨rfl,rfl⟩|⟨rfl,h4,h5⟩|⟨rfl,rfl⟩⟩
  ·rw[if_neg hO,if_neg hO]
   refine⟨hp,.inl ⟨h1,h2,h3,hr.1,rfl,?_⟩⟩;show lB []=[]
   rw[lB]
  ·rw[if_neg uAv,if_neg uAv]
   exact⟨hp,.inr ⟨rfl,rfl,.inl ⟨rfl,rfl⟩⟩⟩
  ·rw[if_pos rfl]
   have hn:=aHn (l:=lB xs) hO h5;refine⟨fun y hy=> ?_,.inr ⟨rfl,rfl,.inr (.inl ⟨rfl,?_,?_⟩)⟩⟩
   ·obtain⟨q,hq,rfl⟩:=dH.1 (show y∈(oE kbF (ks.zip (lB xs))).map (·.2)from hy)
    have:=(iG (f:=kbF) (ks.zip (lB xs))).mem_iff.1 hq;exact hp _ (uZ this).2
   ·show((oE kbF (ks.zip (lB xs))).map (·.1)).length=((oE kbF (ks.zip (lB xs))).map (·.2)).length
    rw[aM,aM]
   ·show((oE kbF (ks.zip (lB xs))).map (·.1)).Pairwise _
    rw[mB];exact aBZ hn
  ·rw[if_neg uAv,if_pos rfl]
   refine⟨fun y hy=> ?_,.inr ⟨rfl,rfl,.inr (.inr ⟨rfl,rfl,?_⟩)⟩⟩
   ·exact hp y ((iG (f:=dW) (lB xs)).mem_iff.1 hy)
   ·show(oE dW (lB xs)).Pairwise _
    refine aBZ ?_;rw[kJ];exact ho.2.2 rfl
theorem aCB {α:Type} {f:α->α}:∀{l:List α},(∀x∈l,f x=x)->l.map f=l
 |[],_=>rfl
 |x::l,h=>by rw[cA,h x (aZ ..),aCB fun y hy=>h y (bF _ hy)]
theorem aJN (a:Tr):kL a->cP a=a:=by
 induction a using kD with
 |h k n t ks xs ih=>
  intro hg;rw[iA]at hg;simp only[Tr.k,Tr.n,Tr.t,Tr.ks,Tr.xs]at hg;have hc:lB xs=xs:=by rw[kJ];exact aCB fun x hx=>ih x hx (hg.1 x hx)
  rw[cP,hc];rcases hg.2 with⟨_,h2,_,_,rfl,rfl⟩|⟨rfl,rfl,⟨rfl,rfl⟩|⟨rfl,h4,h5⟩|⟨rfl,rfl,h5⟩⟩
  ·rw[if_neg hO,if_neg hO]
  ·rw[if_neg uAv,if_neg uAv]
  ·rw[if_pos rfl]
   have hr:rS kbF (ks.zip xs):=by
    have e:((ks.zip xs).map (·.1)).Pairwise fun a b=>kb a<kb b:=by rw[tM ks xs h4];exact h5
    rw[mB]at e;exact e
   rw[aNT hr,tM ks xs h4,aBo ks xs h4]
  ·rw[if_neg uAv,if_pos rfl,aNT h5]
theorem aRP (a:Tr):kL a->OkT a:=by
 induction a using kD with
 |h k n t ks xs ih=>
  intro hg;have Gi:=hg;rw[iA]at hg;simp only[Tr.k,Tr.n,Tr.t,Tr.ks,Tr.xs]at hg;have hc:xs.map cP=xs:=aCB fun x hx=>aJN x (hg.1 x hx)
  rw[rO];refine⟨aAl.2 ?_,fun x hx=>ih x hx (hg.1 x hx),fun hk=> ?_⟩
  ·simp only[Tr.k,Tr.n,Tr.t,Tr.ks,Tr.xs]
   rcases hg.2 with⟨h1,h2,h3,_,h4,h5⟩|⟨h1,h2,h|⟨h3,h4,h5⟩|h⟩
   ·exact .inl ⟨h1,h2,h3,h4,h5⟩
   ·exact .inr ⟨h1,h2,.inl h⟩
   ·refine .inr ⟨h1,h2,.inr (.inl ⟨h3,h4,?_⟩)⟩
    exact oQ (fun {a b} (hab:kb a<kb b)=>qE hab) h5
   ·exact .inr ⟨h1,h2,.inr (.inr ⟨h.1,h.2.1⟩)⟩
  ·have Og:k=6:=hk
   show((xs.map cP).map dW).Nodup;rw[hc];rcases hg.2 with⟨_,h2,_⟩|⟨_,_,h|h|h⟩
   ·omega
   ·omega
   ·omega
   ·exact rS.nodup (f:=dW) h.2.2
theorem aIu (a:Tr):OkT a->eW (cP a)=eW a/\gJ (cP a)=gJ a:=by
 induction a using kD with
 |h k n t ks xs ih=>
  intro ho;rw[rO]at ho;simp only[Tr.k,Tr.n,Tr.t,Tr.ks,Tr.xs]at ho;have an:(lB xs).length=xs.length:=by rw[kJ,aM]
  have hs:cU (lB xs)=cU xs/\fP (lB xs)=fP xs:=by
   have:=fun x hx=>ih x hx (ho.2.1 x hx)
   clear ih ho an;induction xs with
   |nil=>rw[lB];exact⟨rfl,rfl⟩
   |cons x r Lx=>
    have h1:=this x (aZ ..);have h2:=Lx (fun y hy=>this y (bF _ hy));rw[lB,cU,cU,fP,fP];omega
  have h0:=aAl.1 ho.1;simp only[Tr.k,Tr.n,Tr.t,Tr.ks,Tr.xs]at h0;rw[cP];split
  ·rename_i hk
   have h4:ks.length=(lB xs).length:=by
    rw[an];rcases h0 with⟨_,h,_⟩|⟨_,_,h|h|h⟩
    ·omega
    ·omega
    ·exact h.2.1
    ·omega
   have hp:((oE kbF (ks.zip (lB xs))).map (·.2)).Perm (lB xs):=by
    have:=(iG (f:=kbF) (ks.zip (lB xs))).map (·.2);rwa[aBo ks _ h4]at this
   exact Ak9
  ·split
   ·have hp:=iG (f:=dW) (lB xs)
    exact Ak9
   ·rw[eW,eW,gJ,gJ,hs.1,hs.2]
    exact⟨rfl,rfl⟩
end Go.Proofs.YthmfgidbcghnfaaGreatDoor
namespace Go.Proofs.YthmfgidbcghnfaaGreatDoor
open Go.RowKit
def dY (a:Tr):Tr×Int:=if 64<gJ a then(jH,7)else if 16384<eW a then(jH,8)else(a,0)
def aQk (a:Tr):Prop:=kL a/\gJ a<=64/\eW a<=16384
theorem aQk.part {a x:Tr} (h:aQk a) (hx:x∈a.xs):aQk x:=by
 have h1:=aHy hx;have h2:=zV hx;have h3:=qK a;have h4:=xJ a;exact⟨h.1.part hx,by have:=h.2.1;omega,by have:=h.2.2;omega⟩
def eX (ks:List ByteArray) (t:ByteArray):Nat:=(ks.takeWhile fun y=>decide (kb y<kb t)).length
def eN {β:Type} (n:Nat) (l:List β) (x:β):List β:=l.take n++x::l.drop n
theorem aAj {β:Type} (n:Nat) (l:List β) (x:β):(eN n l x).Perm (x::l):=by
 unfold eN;refine nB.trans ?_;rw[eD]
theorem aHf {β:Type} (n:Nat) (l:List β) (x:β):(eN n l x).length=l.length+1:=(aAj n l x).length_eq
theorem aFk {β:Type} (p:β->Bool) (l:List β):l.take (l.takeWhile p).length=l.takeWhile p:=by
 have h:=sD (p:=p) (l:=l)
 conv=>lhs;rw[<-h]
 conv=>lhs;rw[h]
 conv=>lhs;arg 2;rw[<-h]
 rw[nA]
theorem aFm {β:Type} (p:β->Bool) (l:List β):l.drop (l.takeWhile p).length=l.dropWhile p:=by
 have h:=sD (p:=p) (l:=l)
 conv=>lhs;arg 2;rw[<-h]
 rw[oY]
theorem aR7 (ks:List ByteArray) (t:ByteArray):eN (eX ks t) ks t=tT kb ks t:=by
 unfold eN eX tT;rw[aFk,aFm]
theorem aM1 {ks:List ByteArray} {t:ByteArray} (h:ks.Pairwise fun a b=>kb a<kb b) (hn:t∉ks):(eN (eX ks t) ks t).Pairwise fun a b=>kb a<kb b:=by
 rw[aR7];exact aEj (f:=kb) h fun y hy e=>hn (by rw[<-vU e];exact hy)
theorem aHz:∀(l:List Tr) (j:Nat) (h:j<l.length),cU (l.eraseIdx j)+eW l[j]=cU l
 |[],_,h=>by simp at h
 |a::l,0,_=>by simp only[List.eraseIdx_cons_zero,aBI,cU];omega
 |a::l,j+1,h=>by
  have:=aHz l j uDu;simp only[List.eraseIdx_cons_succ,nO,cU];omega
theorem aPC {l m:List Tr} (h:l.Sublist m):fP l<=fP m:=by
 induction h with
 |slnil=>exact aA _
 |cons a _ ih=>rw[fP];omega
 |cons_cons a _ ih=>rw[fP,fP];omega
def vI (a:Tr) (sk i:Int) (t:ByteArray) (x:Tr):Tr×Int:=
 if sS a.k sk≠0 then(jH,sS a.k sk)
 else if a.k=6 then(jH,12)
 else match atT a i t with
  |some j=>dY (.nd a.k 0 ⟨#[]⟩ a.ks (a.xs.set j x))
  |none=>if a.k=4 then(jH,5)else dY (.nd a.k 0 ⟨#[]⟩ (eN (eX a.ks t) a.ks t) (eN (eX a.ks t) a.xs x))
def aDX (a:Tr) (i:Int) (x:Tr):Tr×Int:=
 if a.k≠4 then(jH,3)else if i<0\/(a.xs.length:Int)<i then(jH,4)
 else dY (.nd 4 0 ⟨#[]⟩ [] (eN i.toNat a.xs x))
def aBn (a x:Tr):Tr×Int:=
 if a.k≠6 then(jH,3)
 else match atT a 0 ⟨(dW x).toArray⟩with
  |some _=>(a,0)
  |none=>dY (.nd 6 0 ⟨#[]⟩ [] (tT dW a.xs x))
theorem kL.vec {a:Tr} (h:kL a) (h4:a.k=4):a.ks=[]/\a=.nd 4 0 ⟨#[]⟩ [] a.xs:=by
 obtain⟨k,n,t,ks,xs⟩:=a;have gn:k=4:=h4;rcases(iA.1 h).2 with h|⟨h1,h2,h|h|h⟩<;>simp only[Tr.k,Tr.n,Tr.t,Tr.ks,Tr.xs]at* <;>first|omega|skip
 obtain⟨rfl,rfl⟩:=h;subst h1 h2;exact⟨rfl,rfl⟩
theorem kL.mapD {a:Tr} (h:kL a) (h5:a.k=5):a.ks.length=a.xs.length/\a.ks.Pairwise (fun a b=>kb a<kb b)/\a=.nd 5 0 ⟨#[]⟩ a.ks a.xs:=by
 obtain⟨k,n,t,ks,xs⟩:=a;have T3:k=5:=h5;rcases(iA.1 h).2 with h|⟨h1,h2,h|h|h⟩<;>simp only[Tr.k,Tr.n,Tr.t,Tr.ks,Tr.xs]at* <;>first|omega|skip
 obtain⟨rfl,h3,h4⟩:=h;subst h1 h2;exact⟨h3,h4,rfl⟩
theorem kL.setD {a:Tr} (h:kL a) (h6:a.k=6):a.ks=[]/\a.xs.Pairwise (fun a b=>dW a<dW b)/\a=.nd 6 0 ⟨#[]⟩ [] a.xs:=by
 obtain⟨k,n,t,ks,xs⟩:=a;have IA:k=6:=h6;rcases(iA.1 h).2 with h|⟨h1,h2,h|h|h⟩<;>simp only[Tr.k,Tr.n,Tr.t,Tr.ks,Tr.xs]at* <;>first|omega|skip
 obtain⟨rfl,rfl,h4⟩:=h;subst h1 h2;exact⟨rfl,h4,rfl⟩
theorem oJ {k sk:Int} (h:sS k sk=0):(sk=0/\k=4)\/(sk=1/\k=5)\/(sk=2/\k=6):=by
 unfold sS at h;split at h
 ·split at h
  ·exact .inl ⟨by assumption,by assumption⟩
  ·cases h
 ·split at h
  ·split at h
   ·exact .inr (.inl ⟨by assumption,by assumption⟩)
   ·cases h
  ·split at h
   ·split at h
    ·exact .inr (.inr ⟨by assumption,by assumption⟩)
    ·cases h
   ·cases h
def kB (a:Tr):ByteArray:=⟨(dW a).toArray⟩
theorem aB0 (a:Tr):kb (kB a)=dW a:=by simp[kb,kB]
theorem aTs {a:Tr} {t:ByteArray}:kB a=t↔dW a=kb t:=⟨fun h=>by rw[<-h,aB0],fun h=>vU (by rw[aB0,h])⟩
mutual
def kK (B:Nat):Tr->Prop
 | .nd _ _ t ks xs=>t.size<=B/\(∀k∈ks,k.size<=B)/\aQl B xs
def aQl (B:Nat):List Tr->Prop
 |[]=>True
 |x::r=>kK B x/\aQl B r
end
theorem aND {B:Nat} {l:List Tr}:aQl B l↔∀x∈l,kK B x:=by
 induction l with
 |nil=>simp[aQl]
 |cons x l ih=>rw[aQl,ih];simp
theorem fO {B:Nat} {a:Tr}:kK B a↔a.t.size<=B/\(∀k∈a.ks,k.size<=B)/\∀x∈a.xs,kK B x:=by
 cases a with
 |nd k n t ks xs=>rw[kK,aND];rfl
theorem kK.part {B:Nat} {a x:Tr} (h:kK B a) (hx:x∈a.xs):kK B x:=(fO.1 h).2.2 x hx
theorem kK.mono {B C:Nat} (BO:B<=C) (a:Tr):kK B a->kK C a:=by
 induction a using kD with
 |h k n t ks xs ih=>
  intro h;obtain⟨h1,h2,h3⟩:=fO.1 h;exact fO.2 ⟨aI h1 BO,fun k hk=>aI (h2 k hk) BO,fun x hx=>ih x hx (h3 x hx)⟩
theorem aEE (s:Sc):(pW s).length<=2*s.2.2.length+20:=aI (aRG s) hO
theorem aP1 (k:ByteArray):(aBj k).length<=2*k.size+20:=aEE (3,0,kb k)
theorem aP0 {B:Nat} (a:Tr):kK B a->xR a->(dW a).length+(2*B+20)<=eW a*(4*B+50):=by
 induction a using kD with
 |h k n t ks xs ih=>
  intro h hr;obtain⟨h1,h2,h3⟩:=fO.1 h;obtain⟨_,r2⟩:=qT.1 hr;have hL:∀(l:List Tr) (ks:List ByteArray),(∀x∈l,kK B x->xR x->(dW x).length+(2*B+20)<=eW x*(4*B+50))->(∀x∈l,kK B x)->(∀x∈l,xR x)->(∀k∈ks,k.size<=B)->(nC k ks l).length<=cU l*(4*B+50):=by
   intro l;induction l with
   |nil=>intro ks _ _ _ _;rw[nC];simp
   |cons x r Lx=>
    intro ks hi ht BP hk;have a1:=hi x (aZ ..) (ht x (aZ ..)) (BP x (aZ ..));have a2:=Lx ks.tail (fun y hy=>hi y (bF _ hy)) (fun y hy=>ht y (bF _ hy)) (fun y hy=>BP y (bF _ hy)) (fun y hy=>hk y (List.mem_of_mem_tail hy));have a3:(if k=5 then aBj (ks.headD ⟨#[]⟩)else[]).length<=2*B+20:=by
     split
     ·have h4:(ks.headD ⟨#[]⟩).size<=B:=by
       cases ks with
       |nil=>exact aS _
       |cons y ys=>exact hk y (aZ ..)
      exact aI (aP1 _) hO
     ·simp
    rw[nC,aB,aB,cU,fJ];omega
  have h4:=hL xs ks ih h3 r2 h2;have e:(Tr.nd k n t ks xs).t=t:=rfl;rw[e]at h1;rw[dW,eW,fJ,aFa];split
  ·have:=aEE (k,n,kb t)
   have e2:(kb t).length=t.size:=bM;rw[e2]at this;omega
  ·rw[aD,aB,cQ]
   omega
theorem zM (a:Tr):kL a->xR a:=by
 induction a using kD with
 |h k n t ks xs ih=>
  intro h;refine qT.2 ⟨?_,fun x hx=>ih x hx (h.part hx)⟩;rcases(iA.1 h).2 with h|⟨h,_⟩
  ·exact h.2.2.2.1
  ·rw[show(Tr.nd k n t ks xs).n=0 from h];exact aJt
def fQ (a:Tr):Prop:=aQk a/\kK 2000000 a
theorem fQ.part {a x:Tr} (h:fQ a) (hx:x∈a.xs):fQ x:=⟨h.1.part hx,h.2.part hx⟩
theorem fQ.key {a:Tr} (h:fQ a):(dW a).length<=140000000000:=by
 have h1:=aP0 a h.2 (zM a h.1.1);have h2:=h.1.2.2;have h3:eW a*(4*2000000+50)<=16384*(4*2000000+50):=cS _ h2;omega
theorem fQ.kB {a:Tr} (h:fQ a):(kB a).size<=140000000000:=by
 have:=h.key;simp only[Go.Proofs.YthmfgidbcghnfaaGreatDoor.kB,ByteArray.size,bI];exact this
theorem fQ.len {a:Tr} (h:fQ a):a.xs.length<=16383:=by
 have h1:=aOU a.xs;have h2:=qK a;have h3:=h.1.2.2;omega
theorem fQ.kind {a:Tr} (h:fQ a):0<=a.k/\a.k<=6:=by
 rcases(iA.1 h.1.1).2 with h|⟨_,_,h|h|h⟩<;>omega
theorem fQ.leaf {a:Tr} (h:fQ a) (h3:a.k<=3):a.ks=[]/\a.xs=[]:=by
 rcases(iA.1 h.1.1).2 with h|⟨_,_,h|h|h⟩
 ·exact h.2.2.2.2
 all_goals omega
theorem fQ.inner {a:Tr} (h:fQ a) (h4:4<=a.k):a.n=0/\a.t=⟨#[]⟩:=by
 rcases(iA.1 h.1.1).2 with h|⟨h1,h2,_⟩
 ·omega
 ·exact⟨h1,h2⟩
def qD (k:Int) (ks:List ByteArray) (xs:List Tr):List ByteArray:=if k=5 then ks else if k=6 then xs.map Go.Proofs.YthmfgidbcghnfaaGreatDoor.kB else[]
theorem fQ.mkeys {a:Tr} (h:fQ a) (h4:a.k=5\/a.k=6):(qD a.k a.ks a.xs).length=a.xs.length/\(Go.Proofs.YthmfgidbcghnfaaGreatDoor.qD a.k a.ks a.xs).Pairwise (fun x y=>kb x<kb y)/\∀y∈Go.Proofs.YthmfgidbcghnfaaGreatDoor.qD a.k a.ks a.xs,y.size<=140000000000:=by
 rcases h4 with h5|h6
 ·obtain⟨h1,h2,_⟩:=h.1.1.mapD h5
  unfold Go.Proofs.YthmfgidbcghnfaaGreatDoor.qD;rw[if_pos h5];exact⟨h1,h2,fun y hy=>aI ((fO.1 h.2).2.1 y hy) uAv⟩
 ·obtain⟨h1,h2,_⟩:=h.1.1.setD h6
  unfold Go.Proofs.YthmfgidbcghnfaaGreatDoor.qD;rw[if_neg hO,if_pos h6];refine⟨by simp,?_,fun y hy=> ?_⟩
  ·rw[mB]
   exact h2.imp fun h=>by rw[aB0,aB0];exact h
  ·obtain⟨x,hx,rfl⟩:=dH.1 hy
   exact(h.part hx).kB
end Go.Proofs.YthmfgidbcghnfaaGreatDoor
