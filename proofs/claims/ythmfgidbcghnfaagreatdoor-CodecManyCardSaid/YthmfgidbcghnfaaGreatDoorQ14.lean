import Derived.Test.YthmfgidbcghnfaaGreatDoorQ0
import Derived.Test.YthmfgidbcghnfaaGreatDoorQ12
set_option maxRecDepth 1000000
set_option maxHeartbeats 8000000
set_option linter.unusedSimpArgs false
namespace Go.Proofs.YthmfgidbcghnfaaGreatDoor
open Go.RowKit Go.Shelf
attribute [local go_sem] fS
theorem aCz {ops:Array Oper} {rest:List Oper} {o:Oper} {a:Act} {w:World} {Q:Exit->Act->World->Prop} {n:Nat} (fj:o.guard=none) (ty:TypeId) (x:Operand) (ho:o.op=.load ty x)
  (b k:Nat) (hx:a.eval x=.pointer (some ⟨b,k,none⟩)) (cs:List Value) (d:TypeDesc) (hc:w.rangeAt b k cs)
  (hu:Tryz.prog.underlying ty=some d) (hd:d.isRow=true) (hi:(Tryz.prog.info? ty).map (·.size)=some cs.length)
  (h:wpListIn Fence.wide n Tryz.prog ops Q rest (a.put o.dst (.agg cs.toArray)) w):wpListIn Fence.wide n Tryz.prog ops Q (o::rest) a w:=
 aF6 fj fun _ hK=>yC (fun c' hc=>by rw[ho]at hc;cases hc) (wp_load_mid ty x ho b k hx cs d hc hu hd hi (hK _ _ h))
theorem aFx {ops:Array Oper} {rest:List Oper} {o:Oper} {a:Act} {w:World} {Q:Exit->Act->World->Prop} {n:Nat} (fj:o.guard=none) (ty:TypeId) (x y:Operand) (ho:o.op=.store ty x y)
  (X:Nat) (c':Array Value) (hx:a.eval x=.pointer (some ⟨X,0,none⟩)) (hy:a.eval y=.agg c') (T:TypeId) (c:Array Value) (hB:w.heap[X]? =some (.cells c T (0,0)))
  (hi:(Tryz.prog.info? ty).map (·.size)=some c'.size) (hs:c.size=c'.size) (h1:c'.all (·.oneCell')=true)
  (h:∀w',w'.heap[X]? =some (.cells c' T (0,0))->iL X w w'->wpListIn Fence.wide n Tryz.prog ops Q rest (a.put o.dst undef) w'):wpListIn Fence.wide n Tryz.prog ops Q (o::rest) a w:=
 aF6 fj fun _ hK=>yC (fun c' hc=>by rw[ho]at hc;cases hc) (eC ty x y ho X c' hx hy T c hB hi hs h1 fun w' h1 h2=>hK _ _ (h w' h1 h2))
def aJY (X Y:Nat) (K Kx:List Cel->World->Prop) (vg:List Cel) (n₀:Nat):Prop:=∀m pre x V,K pre V->pre++[x]<+:vg->n₀<=V.heap.size->
 CallsIn Fence.wide m Tryz.prog 132 #[.agg (aL x),.pointer (some ⟨X,0,none⟩),.pointer (some ⟨Y,0,none⟩)] V fun e V'=>
  (e=.returned (.bool true)/\K (pre++[x]) V'/\Below n₀ V V'/\TK 125 V V')\/(e=.returned (.bool false)/\Kx (pre++[x]) V')
def aGt (X Y:Nat) (K Kx:List Cel->World->Prop) (vg:List Cel) (n₀ h:Nat):Prop:=∀m (p:Kid) pre W,eT (fun g=>g<n₀) W h p->K pre W->pre++p.l<+:vg->n₀<=W.heap.size->
 CallsIn Fence.wide m Tryz.prog 131 #[.agg (fY h p).toArray,.func (.func 132) #[] #[.pointer (some ⟨X,0,none⟩),.pointer (some ⟨Y,0,none⟩)]] W fun e W'=>
  (e=.returned (.bool true)/\K (pre++p.l) W'/\Below n₀ W W'/\TK 125 W W')\/(e=.returned (.bool false)/\∃q,q<+:p.l/\Kx (pre++q) W')
theorem aMM {X Y n₀:Nat} {vg:List Cel} {K Kx:List Cel->World->Prop} (uo:aJY X Y K Kx vg n₀) (hK:∀pre A B,K pre A->Below A.heap.size A B->K pre B):aGt X Y K Kx vg n₀ 0:=by
 intro m p pre W hp hk an hn;obtain⟨w1,ag⟩:∃w1,W.alloc (.cells (fY 0 p).toArray 125)=w1:=⟨_,rfl⟩
 obtain⟨af,ai,al⟩:=sL ag;obtain⟨el,Js,qb,vh,Dn⟩:=hp;obtain⟨g,c,aj,fr,Bp,jq,hS,hg,ep⟩:=Dn.pos qb;have rm:w1.cell? ⟨W.heap.size,2,none⟩=some (.slice none 0 0):=by rw[<-el];exact aG ai rfl
 have N8:w1.cell? ⟨W.heap.size,3,none⟩=some (.slice (some ⟨g,0,none⟩) p.k c):=by rw[<-Bp];exact aG ai rfl
 obtain⟨n,nb⟩:∃n,n=p.k:=⟨_,rfl⟩
 rw[<-nb]at N8 vh qb Js jq;have HC:Hid (∀j (hj:j<p.l.length),W.rangeAt g (j*4) (enV p.l[j])):=fun j hj i v hv=>by
  have hi:i<4:=(List.getElem?_eq_some_iff.1 hv).1;refine aG hg (ep _ v ?_);rw[zT xI p.l j i p.l[j] (List.getElem?_eq_getElem hj) hi];exact hv
 have HS:Hid (g<n₀):=hS;have ox:=iH (hK _ _ _ hk af);have HB1:=iH (af.mono hn);have tq:Hid (TK 125 W w1):=TK.below af;have HP:=iH (And.intro Js (And.intro an hn));have x6:(n:Int)<=16:=by omega
 have dh:=iH hK;clear qb vh Dn Bp jq hS hg ep el af ai al hk an hn Js nb;refine iO Tryz.func131 rfl trivial ?_ rfl;simp only[Tryz.ntmps131,bI,aD,aK,Nat.reduceAdd,Nat.reduceSub,bT,bS,cH,bU,aT,aP];gi_wp2
 gi_loopw [12] (fun iv wr=>iv=.int .i64 0/\w1=wr) (fun _ _=>0)
 case atStart=>exact⟨rfl,rfl⟩
 case round=>
  obtain⟨rfl,rfl⟩:=hrel;gi_wp2
  gi_loopw [24] (fun iv wr=>∃j:Nat,iv=.int .i64 (j:Int)/\j<=n/\Hid (K (pre++p.l.take j) wr)/\Hid (Below n₀ W wr)/\Hid (TK 125 W wr)) (fun iv _=>n-(intOf iv).toNat)
  case atStart=>exact⟨0,rfl,aS _,(by simpa using ox),HB1,tq⟩
  case round=>
   obtain⟨j,rfl,hj,Ln,Gg,P8⟩:=hrel;by_cases T7:j<n
   ·have gj:=HP.out
    have tp:j<p.l.length:=by omega
    have nc:=iH (fun i v hv=>(Gg.out.cell (p:=⟨g,_+i,none⟩) HS.out).trans (HC.out j tp i v hv));have vi:=iH (bP tp);have df:=fun(V:World) (GM:K (pre++p.l.take j) V) (GN:n₀<=V.heap.size)=>uo (m-1) (pre++p.l.take j) p.l[j] V GM (by rw[bG,<-bP tp];exact((uY _).2 (tL _ _)).trans gj.2.1) GN
    have tr:Hid (n₀<=wr.heap.size):=aI gj.2.2 Gg.out.size;obtain⟨x,hx⟩:∃x,x=p.l[j]:=⟨_,rfl⟩
    rw[<-hx]at nc df vi;have Lo:Hid (wr.rangeAt g (j*4) (enV x)):=fun i v hv=>nc.out i v hv
    have ng:=iH df;have P0:(j:Int)<n:=by omega
    clear hx gj df nc;gi_wp2_with (first
     |(refine aCz rfl 37 _ rfl g (j*4) rfl (enV x) _ Lo.out Tryz.underlying37 rfl aF ?_)
     |(refine aFx rfl 37 _ _ rfl wr.heap.size (aL x) rfl rfl 37 (aL gO) (aC _ _) aF rfl (cE x) ?_;intro w5 h5 k5;have bp:Hid (Below wr.heap.size wr w5):=(Below.newly' _ _).trans (k5.below (aA _));have fg:=iH h5;clear h5 k5)
     |(refine zJ rfl 37 _ rfl wr.heap.size rfl 37 _ _ _ fg.out Tryz.underlying37 rfl aF ?_))
    refine⟨trivial,fun h=>absurd h uIx,?_⟩;refine(ng.out w5 (dh.out _ _ _ Ln.out bp.out) (aI tr.out bp.out.size)).mono ?_;rintro e W3 (⟨rfl,nh,au,Of⟩|⟨rfl,lf⟩)
    ·have gb:=iH nh
     have av:=iH ((Gg.out.trans (bp.out.mono tr.out)).trans au);have P9:=iH ((P8.out.trans (TK.below bp.out)).trans Of);clear nh au Of;gi_wp2
     go_roundw
     case rel=>
      refine⟨j+1,by simp,by omega,?_,av,P9⟩;rw[vi.out,<-bG];exact gb
     case measure=>simp[intOf];omega
    ·have be:=iH lf
     clear lf;gi_wp2
     go_ret;refine .inr ⟨rfl,p.l.take j++[x],?_,by rw[<-bG];exact be.out⟩;rw[<-vi.out];exact tL _ _
   ·have gj:=HP.out
    have e:p.l.take j=p.l:=bC hO;rw[e]at Ln;clear gj e;gi_wp2
    go_ret;exact .inl ⟨rfl,Ln.out,Gg.out,P8.out⟩
theorem aJH {X Y n₀:Nat} {vg:List Cel} {K Kx:List Cel->World->Prop} (hK:∀pre A B,K pre A->Below A.heap.size A B->K pre B) (h:Nat) (ih:aGt X Y K Kx vg n₀ h):aGt X Y K Kx vg n₀ (h+1):=by
 intro m p pre W hp hk an hn;obtain⟨w1,ag⟩:∃w1,W.alloc (.cells (fY (h+1) p).toArray 125)=w1:=⟨_,rfl⟩
 obtain⟨af,ai,al⟩:=sL ag;obtain⟨Bp,qb,vh,ks,Dn,oe,hl,gv⟩:=hp;obtain⟨g,c,aj,fr,el,jq,hS,hg,ep⟩:=Dn.pos qb;have rm:w1.cell? ⟨W.heap.size,2,none⟩=some (.slice (some ⟨g,0,none⟩) p.k c):=by rw[<-el];exact aG ai rfl
 have HX1:=iH ai;obtain⟨n,nb⟩:∃n,n=p.k:=⟨_,rfl⟩
 rw[<-nb]at rm vh qb oe jq;have HC:Hid (∀j (hj:j<ks.length),W.rangeAt g (j*4) (fY h ks[j])):=fun j hj=>qZ (h:=h) hg ep hj
 have HS:Hid (g<n₀):=hS;have ox:=iH (hK _ _ _ hk af);have HB1:=iH (af.mono hn);have tq:Hid (TK 125 W w1):=TK.below af;have HP:=iH (And.intro oe (And.intro an (And.intro hn (And.intro hl Bp))));have ar:=iH gv;have nm:Hid (w1.heap.size=W.heap.size+1):=al;have x6:(n:Int)<=16:=by omega
 have dh:=iH hK;clear qb vh Dn jq hS hg ep el Bp af ai al hk an hn oe nb hl gv;refine iO Tryz.func131 rfl trivial ?_ rfl;simp only[Tryz.ntmps131,bI,aD,aK,Nat.reduceAdd,Nat.reduceSub,bT,bS,cH,bU,aT,aP];gi_wp2
 gi_loopw [12] (fun iv wr=>∃j:Nat,iv=.int .i64 (j:Int)/\j<=n/\Hid (K (pre++eS (ks.take j)) wr)/\Hid (Below n₀ W wr)/\Hid (TK 125 W wr)/\Hid (wr.heap[W.heap.size]? =some (.cells (fY (h+1) p).toArray 125 (0,0)))) (fun iv _=>n-(intOf iv).toNat)
 case atStart=>exact⟨0,rfl,aS _,(by simpa[eS]using ox),HB1,tq,HX1⟩
 case round=>
  clear ox HB1 tq HX1;obtain⟨j,rfl,hj,Ln,Gg,P8,BA⟩:=hrel;by_cases T7:j<n
  ·have gj:=HP.out
   have tp:j<ks.length:=by omega
   have nc:=iH (fun j v hv=>(Gg.out.cell (p:=⟨g,_+j,none⟩) HS.out).trans (HC.out _ tp j v hv));have od:=iH (pP tp);have dx:=wJ (ks:=ks) (j+1);have P0:(j:Int)<n:=by omega
   have Qa:=iH ((ar.out _ (aX tp)).2.low Gg.out);have Qb:eS (ks.take (j+1))=eS (ks.take j)++ks[j].l:=by rw[bP tp,lU,aA2]
   have yb:=iH Qb;have Qc:Hid (eS (ks.take (j+1))<+:p.l):=by
    show _<+:_;rw[gj.2.2.2.1];refine⟨eS (ks.drop (j+1)),?_⟩;rw[<-lU,eD]
   obtain⟨y,hy⟩:∃y,y=ks[j]:=⟨_,rfl⟩
   rw[<-hy]at nc od Qa yb;have Qd:Hid (pre++eS (ks.take j)++y.l<+:vg):=by
    show _<+:_;rw[bG,<-yb.out];exact((uY _).2 Qc.out).trans gj.2.1
   have GO:=iH (aKD h y);have Lo:Hid (wr.rangeAt g (j*4) (fY h y)):=fun i v hv=>nc.out i v hv
   have tr:Hid (n₀<=wr.heap.size):=aI gj.2.2.1 Gg.out.size;clear gj dx Qb hy nc;gi_wp2_with (first
    |(refine aCz rfl 125 _ rfl g (j*4) rfl (fY h y) _ Lo.out Tryz.underlying125 rfl cV ?_)
    |(refine aFx rfl 125 _ _ rfl wr.heap.size (fY h y).toArray rfl rfl 125 oA (aC _ _) cV rfl GO.out ?_;intro w5 h5 k5;have bp:Hid (Below wr.heap.size wr w5):=(Below.newly' _ _).trans (k5.below (aA _));have fg:=iH h5;clear h5 k5)
    |(refine zJ rfl 125 _ rfl wr.heap.size rfl 125 _ _ _ fg.out Tryz.underlying125 rfl cV ?_))
   refine⟨trivial,fun h=>absurd h uIx,?_⟩;have gp:=dh.out _ _ _ Ln.out bp.out;have Hn:TK 125 wr w5:=TK.below bp.out;refine(ih (m-1) y (pre++eS (ks.take j)) w5 (Qa.out.low (bp.out.mono tr.out)) gp Qd.out (aI tr.out bp.out.size)).mono ?_;rintro e W3 (⟨rfl,nh,au,Of⟩|⟨rfl,q,hq,lf⟩)
   ·have gb:=iH nh
    have av:=iH ((Gg.out.trans (bp.out.mono tr.out)).trans au);have P9:=iH ((P8.out.trans Hn).trans Of);have be:=iH (Of _ _ _ (Hn _ _ _ BA.out));clear nh au Of gp Hn;gi_wp2
    go_roundw
    case rel=>
     refine⟨j+1,by simp,by omega,?_,av,P9,be⟩;rw[yb.out,<-bG];exact gb
    case measure=>simp[intOf];omega
   ·have be:=iH lf
    have HQ:=iH hq;clear lf hq gp Hn;gi_wp2
    go_ret;refine .inr ⟨rfl,eS (ks.take j)++q,?_,by rw[<-bG];exact be.out⟩;refine List.IsPrefix.trans ?_ Qc.out;rw[yb.out];exact(uY _).2 HQ.out
  ·have gj:=HP.out
   have e:eS (ks.take j)=p.l:=by rw[gj.2.2.2.1,bC hO]
   rw[e]at Ln;have MN:wr.cell? ⟨W.heap.size,3,none⟩=some (.slice none 0 0):=by rw[<-gj.2.2.2.2];exact aG BA.out rfl
   clear gj e;obtain⟨Wo,Pz⟩:∃Wo,Wo=wr:=⟨_,rfl⟩
   subst Pz;gi_wp2
   gi_loopw [24] (fun iv wr=>iv=.int .i64 0/\Wo=wr) (fun _ _=>0)
   case atStart=>exact⟨rfl,rfl⟩
   case round=>
    obtain⟨rfl,rfl⟩:=hrel;gi_wp2
    go_ret;exact .inl ⟨rfl,Ln.out,Gg.out,P8.out⟩
theorem aKc {X Y n₀:Nat} {vg:List Cel} {K Kx:List Cel->World->Prop} (uo:aJY X Y K Kx vg n₀) (hK:∀pre A B,K pre A->Below A.heap.size A B->K pre B):∀h,aGt X Y K Kx vg n₀ h
 |0=>aMM uo hK
 |h+1=>aJH hK h (aKc uo hK h)
theorem aML (f:Value) (m:Nat) (W:World):CallsIn Fence.wide m Tryz.prog 131 #[.agg oA,f] W fun e W'=>e=.returned (.bool true)/\Below W.heap.size W W':=by
 obtain⟨w1,ag⟩:∃w1,W.alloc (.cells #[.int .i64 0,.int .i64 0,.slice none 0 0,.slice none 0 0] 125)=w1:=⟨_,rfl⟩
 obtain⟨af,ai,al⟩:=sL ag;have rm:w1.cell? ⟨W.heap.size,2,none⟩=some (.slice none 0 0):=aG ai rfl;have N8:w1.cell? ⟨W.heap.size,3,none⟩=some (.slice none 0 0):=aG ai rfl;have HB1:=iH af;clear af ai al;unfold oA;refine iO Tryz.func131 rfl trivial ?_ rfl;simp only[Tryz.ntmps131,bI,aD,aK,Nat.reduceAdd,Nat.reduceSub,bT,bS,cH,bU,aT,aP];gi_wp2
 gi_loopw [12] (fun iv wr=>iv=.int .i64 0/\w1=wr) (fun _ _=>0)
 case atStart=>exact⟨rfl,rfl⟩
 case round=>
  obtain⟨rfl,rfl⟩:=hrel;gi_wp2
  gi_loopw [24] (fun iv wr=>iv=.int .i64 0/\w1=wr) (fun _ _=>0)
  case atStart=>exact⟨rfl,rfl⟩
  case round=>
   obtain⟨rfl,rfl⟩:=hrel;gi_wp2
   go_ret;exact⟨rfl,HB1.out⟩
def fV (l:List Cel):List (Nat×Cel):=(List.range l.length).map fun i=>(i,l.getD i gO)
theorem aHk (l:List Cel):(fV l).length=l.length:=by simp[fV]
theorem aJg (l:List Cel) (i:Nat) (hi:i<l.length):(fV l)[i]? =some (i,l[i]):=by
 simp[fV,hi,List.getD_eq_getElem?_getD]
theorem tU (l:List Cel) (x:Cel):fV (l++[x])=fV l++[(l.length,x)]:=by
 unfold fV;rw[aB,cQ,aDu,bZ,qR];congr 1
 ·exact Ag5
 ·rw[List.getD_eq_getElem?_getD,List.getElem?_append_right (aA _),aBF]
  rfl
theorem vL {q l:List Cel} (h:q<+:l):fV q<+:fV l:=by
 obtain⟨r,rfl⟩:=h;have e:fV q=(fV (q++r)).take q.length:=by
  unfold fV;rw[<-uM,List.take_range,aB,fT hO];exact Ag5
 rw[e];exact tL _ _
abbrev encP (x:Nat×Cel):Array Value:=#[Value.int .i64 (x.1:Int),Value.agg (aL x.2)]
structure aAH (RK IK:Nat->World->World->Prop) (n₀:Nat):Prop where
 new:∀{Y:Nat} {A B:World},Below A.heap.size A B->Y<=A.heap.size->IK Y A B
 put:∀{Y:Nat} {A:World} {u:Value} (v:Value),Boxed A (Y+1) 3 u->IK Y A (A.setCell ⟨Y+1,0,none⟩ v)
 low:∀{Y:Nat} {A B:World},RK Y A B->Below n₀ A B
 count:∀{Y:Nat} {A B:World} {u:Value},RK Y A B->Boxed A (Y+1) 3 u->Boxed B (Y+1) 3 u
 call:∀{Y:Nat} {A B:World} {u:Value},RK Y A B->Boxed A Y 206 u->Boxed B Y 206 u
 nodes:∀{Y:Nat} {A B:World},RK Y A B->TK 125 A B
theorem aOV {Ts:TypeId->Prop} (n₀:Nat) (h1:¬Ts 3) (h2:¬Ts 206) (h3:¬Ts 125):aAH (fun Y A B=>KW Ts n₀ Y A B) (fun Y A B=>IKW Ts Y A B) n₀ where
 new:=fun h hY=>IKW.below h hY
 put:=fun {Y A u} v hb=>IKW.grown (eP A _ v) (oW _) hb.lt (fun cs T fr e=>by
  rw[show A.heap[Y+1]? =_ from hb]at e;simp only[bA,dK]at e;rw[<-e.2.1];exact h1)
 low:=fun h=>h.1
 count:=fun h hb=>h.2.2.1 _ _ _ _ hb h1
 call:=fun h hb=>h.2.2.1 _ _ _ _ hb h2
 nodes:=fun h i cs fr e=>h.2.2.1 i cs _ fr e h3
theorem aQf {RK IK:Nat->World->World->Prop} (l n₀ Y:Nat) (vg:List Cel) (hk:aAH RK IK n₀) (hY:n₀<=Y) (hN:vg.length<=100000) (J Jx:List (Nat×Cel)->World->Prop) (hJ:∀s A B,J s A->IK Y A B->J s B)
  (BB:∀m pre x V,J pre V->Y<=V.heap.size->pre++[x]<+:fV vg->YieldAt Fence.wide m Tryz.prog l (encP x) V fun e V'=>
   (e=.returned (.bool true)/\J (pre++[x]) V'/\RK Y V V')\/(e=.returned (.bool false)/\Jx (pre++[x]) V')):
  aJY (Y+1) Y (fun pre V=>Boxed V (Y+1) 3 (.int .i64 (pre.length:Int))/\Boxed V Y 206 (.func (.yield l) #[] #[])/\J (fV pre) V) (fun pre V=>Jx (fV pre) V) vg n₀:=by
 intro m pre x V ⟨hX,BC,BD⟩ Lp hn;have an:pre.length<vg.length:=by have:=Lp.length_le;rw[aB,cQ]at this;omega
 have hpl:fV pre++[(pre.length,x)]<+:fV vg:=by rw[<-tU];exact vL Lp
 obtain⟨k,ei⟩:∃k,k=pre.length:=⟨_,rfl⟩
 rw[<-ei]at hX an hpl;have hlt:Y+1<V.heap.size:=hX.lt;obtain⟨V1,T8⟩:∃V1,V.alloc (.cells (aL x) 37)=V1:=⟨_,rfl⟩
 have af:Below V.heap.size V V1:=by rw[<-T8];exact Below.newly' _ _
 have Do:V1.heap[V.heap.size]? =some (.cells (aL x) 37 (0,0)):=by rw[<-T8];exact aC _ _
 have Bq:Boxed V1 (Y+1) 3 (.int .i64 (k:Int)):=(af.block _ hlt).trans hX;have BE:Boxed V1 Y 206 (.func (.yield l) #[] #[]):=(af.block _ hO).trans BC;have BF:J (fV pre) V1:=hJ _ _ _ BD (hk.new af hO);have al:V1.heap.size=V.heap.size+1:=by rw[<-T8];simp
 have cX:=Bq.cell;have fX:=Bq.frozen;obtain⟨V2,Ae⟩:∃V2,V2=V1.setCell ⟨Y+1,0,none⟩ (.int .i64 ((k:Int)+1)):=⟨_,rfl⟩
 have Ww:Boxed V2 (Y+1) 3 (.int .i64 ((k:Int)+1)):=by rw[Ae];exact Bq.set _
 have Wx:Boxed V2 Y 206 (.func (.yield l) #[] #[]):=by rw[Ae];exact BE.other (B':=Y+1) hO _
 have GP:=Wx.cell;have GQ:=Ww.cell;have T9:V1.grownBy V2 (some (Y+1)):=by rw[Ae];exact eP V1 (Y+1) (.int .i64 ((k:Int)+1))
 have ah:Below n₀ V V2:=(af.mono hn).trans ((bB n₀ V1).grown T9 hO (fun k e=>by cases e;omega));have BG:TK 125 V V2:=(TK.below af).trans (TK.grown T9 fun X e cs fr h'=>by
  obtain rfl:=aH e;rw[show V1.heap[Y+1]? =_ from Bq]at h';simp only[bA,dK]at h';exact absurd h'.2.1 uAv)
 have jh:V2.heap[V.heap.size]? =some (.cells (aL x) 37 (0,0)):=(T9.block _ hO uCy).trans Do;have de:V2.heap.size=V1.heap.size:=by rw[Ae];simp[World.setCell]
 have Ev:J (fV pre) V2:=by rw[Ae];exact hJ _ _ _ BF (hk.put _ Bq)
 obtain⟨fn,tmps,assign,body,hy,hR⟩:=BB (m-1) (fV pre) (k,x) V2 Ev hO hpl;dsimp only[encP]at hy;have aq:=iH ah;have Ho:=iH BG;have HX1:=iH Ww;have bl:=iH Wx;have j6:=iH jh;have oz:=iH ei;have rn:=iH hk;have gp:(k:Int)<=100000:=by omega
 rw[Ae]at hy GP GQ j6 hR;clear hX BC BD an hpl Lp Ww Wx T9 af ah BG de al ei hJ BF Ev BB Bq BE Do jh hk hlt hn;refine iO Tryz.func132 rfl trivial ?_ rfl;simp only[Tryz.ntmps132,bI,aD,aK,Nat.reduceAdd,Nat.reduceSub,bT,bS,cH,bU,aT,aP];gi_wp2_with (first
  |(rw[T8])
  |(refine zJ rfl 37 _ rfl V.heap.size rfl 37 _ _ _ j6.out Tryz.underlying37 rfl aF ?_))
 refine⟨fun h=>absurd h uIx,?_⟩;refine hR.mono ?_;rintro e W3 (⟨rfl,BH,gv⟩|⟨rfl,BI⟩)
 ·have Lq:=iH BH
  rw[<-Ae]at gv;have ar:=iH gv;clear BH gv;gi_wp2
  go_ret;have hk:=oz.out;refine .inl ⟨rfl,⟨?_,rn.out.call ar.out bl.out,?_⟩,aq.out.trans (rn.out.low ar.out),Ho.out.trans (rn.out.nodes ar.out)⟩
  ·have e:((pre++[x]).length:Int)=(k:Int)+1:=by rw[aB,cQ];omega
   rw[e];exact rn.out.count ar.out HX1.out
  ·rw[tU,<-hk]
   exact Lq.out
 ·have Lq:=iH BI
  clear BI;gi_wp2
  go_ret;have hk:=oz.out;refine .inr ⟨rfl,?_⟩;rw[tU,<-hk];exact Lq.out
theorem aR0 {RK IK:Nat->World->World->Prop} (Bs n₀:Nat) (ei:aAH RK IK n₀) (c:Array Value) (wu:List Cel) (w:World) (b8:n₀<=w.heap.size) (hX:w.heap[Bs]? =some (.cells c 127 (0,0))) (hv:cW (fun g=>g<n₀) w c wu) (hN:wu.length<=100000):
  aLg Tryz.prog 130 #[.pointer (some ⟨Bs,0,none⟩)] encP RK IK (fun ys=>ys=fV wu) (fun pre=>pre<+:fV wu) (fun pre=>pre<+:fV wu) w:=by
 intro l J Jx W hW hA hY h0 m;have df:=aQf l n₀ W.heap.size wu ei (aI b8 hW.size) hN J Jx hA hY;have BJ:∀pre A B,(Boxed A (W.heap.size+1) 3 (.int .i64 (pre.length:Int))/\Boxed A W.heap.size 206 (.func (.yield l) #[] #[])/\J (fV pre) A)->Below A.heap.size A B->
   (Boxed B (W.heap.size+1) 3 (.int .i64 (pre.length:Int))/\Boxed B W.heap.size 206 (.func (.yield l) #[] #[])/\J (fV pre) B):=fun pre A B ⟨h1,h2,h3⟩ hb=>
  ⟨(hb.block _ h1.lt).trans h1,(hb.block _ h2.lt).trans h2,hA _ _ _ h3 (ei.new hb (eH h2.lt))⟩
 obtain⟨W2,o6⟩:∃W2,(W.alloc (.cells #[.func (.yield l) #[] #[]] 206)).alloc (.cells #[.int .i64 0] 3)=W2:=⟨_,rfl⟩
 obtain⟨ah,fl,jb,ed⟩:=fL o6;have Dp:Boxed W2 (W.heap.size+1) 3 (.int .i64 0):=jb;have zm:Boxed W2 W.heap.size 206 (.func (.yield l) #[] #[]):=fl;have cI:=Dp.cell;have fI:=Dp.frozen;obtain⟨W3,ia⟩:∃W3,W3=W2.setCell ⟨W.heap.size+1,0,none⟩ (.int .i64 0):=⟨_,rfl⟩
 have gb:Hid (Boxed W3 (W.heap.size+1) 3 (.int .i64 (([]:List Cel).length:Int))/\Boxed W3 W.heap.size 206 (.func (.yield l) #[] #[])/\J (fV []) W3):=by
  show _/\_/\_;rw[ia];exact⟨Dp.set _,zm.other hO _,hA _ _ _ (hA _ _ _ h0 (ei.new ah (aA _))) (ei.put _ Dp)⟩
 have Br:=(gZ hX)
 have Jt:=(ah.block _ (bK Br hW.size)).trans ((hW.block _ Br).trans hX);have be:Hid (W3.heap[Bs]? =some (.cells c 127 (0,0))):=by
  show _=_;rw[ia];exact(qQ _ _ _ _ uFu).trans Jt
 have au:Below n₀ W W3:=by
  rw[ia];exact(ah.mono (aI b8 hW.size)).setCell (p:=⟨W.heap.size+1,0,none⟩) (by show n₀<=W.heap.size+1;have:=hW.size;omega) _
 have Bt:=iH (hv.low ((hW.mono b8).trans au));have Jk:=iH hv.size;have Ws:Hid (n₀<=W3.heap.size):=aI (aI b8 hW.size) au.size;have ng:=iH df;have dh:=iH BJ;clear ah fl jb ed df BJ hX hv hN hA hY h0 Dp zm Br Jt au ei;refine iO Tryz.func130 rfl trivial ?_ rfl;simp only[Tryz.ntmps130,bI,aD,aK,Nat.reduceAdd,Nat.reduceSub,bT,bS,cH,bU,aT,aP];gi_wp2_with (first
  |(rw[<-ia];clear ia;refine zJ rfl 125 _ rfl Bs rfl 127 _ _ _ be.out Tryz.underlying125 rfl (by rw[Jk.out];exact cV) ?_))
 refine⟨trivial,fun h=>absurd h uIx,?_⟩;rcases Bt.out with⟨rfl,rfl⟩|⟨h,p,rfl,rfl,hp,_⟩
 ·refine(aML _ _ _).mono ?_
  rintro e W4 ⟨rfl,bh⟩;have h4:=dh.out _ _ _ gb.out bh;gi_wp2
  go_end0;exact⟨⟨_,rfl⟩,.inl ⟨_,rfl,h4.2.2⟩⟩
 ·refine(aKc ng.out dh.out h (m-1) p [] W3 hp gb.out uAy Ws.out).mono ?_
  rintro e W4 (⟨rfl,wy,_⟩|⟨rfl,q,hq,Lr⟩)
  ·gi_wp2
   go_end0;exact⟨⟨_,rfl⟩,.inl ⟨_,rfl,wy.2.2⟩⟩
  ·gi_wp2
   go_end0;exact⟨⟨_,rfl⟩,.inr ⟨_,vL hq,Lr⟩⟩
theorem aLS (n:Nat) (c:Array Value) (w:World):
  CallsIn Fence.wide n Tryz.prog 97 #[.agg c] w fun e w'=>e=.returned (.func (.func 130) #[] #[.pointer (some ⟨w.heap.size,0,none⟩)])/\w'=w.alloc (.cells c 127):=by
 refine iO Tryz.func97 rfl trivial ?_ rfl;simp only[Tryz.ntmps97,bI,aD,aK,Nat.reduceAdd,Nat.reduceSub,bT,bS,cH,bU,aT,aP];gi_wp2
 go_ret;exact⟨rfl,rfl⟩
end Go.Proofs.YthmfgidbcghnfaaGreatDoor
