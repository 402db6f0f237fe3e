import Derived.Test.YtengibnpebfblaaGreatDoorQ0
import Derived.Test.YtengibnpebfblaaGreatDoorQ11
set_option maxRecDepth 1000000
set_option maxHeartbeats 8000000
set_option linter.unusedSimpArgs false
namespace Go.Proofs.YtengibnpebfblaaGreatDoor
open Go.RowKit Go.Shelf
attribute [local go_sem] fK
theorem aBC {ops:Array Oper} {rest:List Oper} {o:Oper} {a:Act} {w:World} {Q:Exit->Act->World->Prop} {n:Nat} (hgd:o.guard=none) (ty:TypeId) (x:Operand) (ho:o.op=.load ty x)
  (b k:Nat) (hx:a.eval x=.pointer (some ⟨b,k,none⟩)) (cs:List Value) (d:TypeDesc) (hc:w.rangeAt b k cs)
  (hu:Tryz.prog.underlying ty=some d) (hd:d.isRow=true) (hi:(Tryz.prog.info? ty).map (·.size)=some cs.length)
  (h:wpListIn Fence.wide n Tryz.prog ops Q rest (a.put o.dst (.agg cs.toArray)) w):wpListIn Fence.wide n Tryz.prog ops Q (o::rest) a w:=
 aDv hgd fun _ hK=>wZ (fun c' hc=>by rw[ho]at hc;cases hc) (wp_load_mid ty x ho b k hx cs d hc hu hd hi (hK _ _ h))
theorem aDP {ops:Array Oper} {rest:List Oper} {o:Oper} {a:Act} {w:World} {Q:Exit->Act->World->Prop} {n:Nat} (hgd:o.guard=none) (ty:TypeId) (x y:Operand) (ho:o.op=.store ty x y)
  (X:Nat) (c':Array Value) (hx:a.eval x=.pointer (some ⟨X,0,none⟩)) (hy:a.eval y=.agg c') (T:TypeId) (c:Array Value) (hB:w.heap[X]? =some (.cells c T (0,0)))
  (hi:(Tryz.prog.info? ty).map (·.size)=some c'.size) (hs:c.size=c'.size) (h1:c'.all (·.oneCell')=true)
  (h:∀w',w'.heap[X]? =some (.cells c' T (0,0))->jK X w w'->wpListIn Fence.wide n Tryz.prog ops Q rest (a.put o.dst undef) w'):wpListIn Fence.wide n Tryz.prog ops Q (o::rest) a w:=
 aDv hgd fun _ hK=>wZ (fun c' hc=>by rw[ho]at hc;cases hc) (kH ty x y ho X c' hx hy T c hB hi hs h1 fun w' h1 h2=>hK _ _ (h w' h1 h2))
def aHl (X Y:Nat) (K Kx:List Cel->World->Prop) (LST:List Cel) (n₀:Nat):Prop:=∀m pre x V,K pre V->pre++[x]<+:LST->n₀<=V.heap.size->
 CallsIn Fence.wide m Tryz.prog 106 #[.agg (aX x),.pointer (some ⟨X,0,none⟩),.pointer (some ⟨Y,0,none⟩)] V fun e V'=>
  (e=.returned (.bool true)/\K (pre++[x]) V'/\Below n₀ V V'/\TK 86 V V')\/(e=.returned (.bool false)/\Kx (pre++[x]) V')
def aEC (X Y:Nat) (K Kx:List Cel->World->Prop) (LST:List Cel) (n₀ h:Nat):Prop:=∀m (p:Kid) pre W,fD (fun g=>g<n₀) W h p->K pre W->pre++p.l<+:LST->n₀<=W.heap.size->
 CallsIn Fence.wide m Tryz.prog 105 #[.agg (iC h p).toArray,.func (.func 106) #[] #[.pointer (some ⟨X,0,none⟩),.pointer (some ⟨Y,0,none⟩)]] W fun e W'=>
  (e=.returned (.bool true)/\K (pre++p.l) W'/\Below n₀ W W'/\TK 86 W W')\/(e=.returned (.bool false)/\∃q,q<+:p.l/\Kx (pre++q) W')
theorem aJr {X Y n₀:Nat} {LST:List Cel} {K Kx:List Cel->World->Prop} (hstep:aHl X Y K Kx LST n₀) (hK:∀pre A B,K pre A->Below A.heap.size A B->K pre B):aEC X Y K Kx LST n₀ 0:=by
 intro m p pre W hp hk hlen hn;obtain⟨w1,hw1⟩:∃w1,W.alloc (.cells (iC 0 p).toArray 86)=w1:=⟨_,rfl⟩
 obtain⟨hb1,hx1,hs1⟩:=sB hw1;obtain⟨hpa,hpk,hp1,hp16,hph⟩:=hp;obtain⟨g,c,cur,fr,hpb,hcap,hS,hg,hcs⟩:=hph.pos hp1;have ca2:w1.cell? ⟨W.heap.size,2,none⟩=some (.slice none 0 0):=by rw[<-hpa];exact aK hx1 rfl
 have ca3:w1.cell? ⟨W.heap.size,3,none⟩=some (.slice (some ⟨g,0,none⟩) p.k c):=by rw[<-hpb];exact aK hx1 rfl
 obtain⟨n,hn'⟩:∃n,n=p.k:=⟨_,rfl⟩
 rw[<-hn']at ca3 hp16 hp1 hpk hcap;have HC:Hid (∀j (hj:j<p.l.length),W.rangeAt g (j*4) (enV p.l[j])):=fun j hj i v hv=>by
  have hi:i<4:=(List.getElem?_eq_some_iff.1 hv).1;refine aK hg (hcs _ v ?_);rw[aBZ vT p.l j i p.l[j] (List.getElem?_eq_getElem hj) hi];exact hv
 have HS:Hid (g<n₀):=hS;have HK1:=iH (hK _ _ _ hk hb1);have HB1:=iH (hb1.mono hn);have HT1:Hid (TK 86 W w1):=TK.below hb1;have HP:=iH (And.intro hpk (And.intro hlen hn));have hn16:(n:Int)<=16:=by omega
 have HKA:=iH hK;clear hp1 hp16 hph hpb hcap hS hg hcs hpa hb1 hx1 hs1 hk hlen hn hpk hn';refine iF Tryz.func105 rfl trivial ?_ rfl;simp only[Tryz.ntmps105,cA,aL,bG,Nat.reduceAdd,Nat.reduceSub,bY,bW,cM,cD,bD,bC];gi_wp2
 gi_loopw [12] (fun iv wr=>iv=.int .i64 0/\w1=wr) (fun _ _=>0)
 case atStart=>exact⟨rfl,rfl⟩
 case round=>
  obtain⟨rfl,rfl⟩:=hrel;gi_wp2
  gi_loopw [24] (fun iv wr=>∃j:Nat,iv=.int .i64 (j:Int)/\j<=n/\Hid (K (pre++p.l.take j) wr)/\Hid (Below n₀ W wr)/\Hid (TK 86 W wr)) (fun iv _=>n-(intOf iv).toNat)
  case atStart=>exact⟨0,rfl,aQ _,(by simpa using HK1),HB1,HT1⟩
  case round=>
   obtain⟨j,rfl,hj,HKJ,HBJ,HTJ⟩:=hrel;by_cases hjn:j<n
   ·have hpp:=HP.out
    have hjl:j<p.l.length:=by omega
    have HRG:=iH (fun i v hv=>(HBJ.out.cell (p:=⟨g,_+i,none⟩) HS.out).trans (HC.out j hjl i v hv));have HTK:=iH (aS hjl);have hst:=fun(V:World) (hkv:K (pre++p.l.take j) V) (hnv:n₀<=V.heap.size)=>hstep (m-1) (pre++p.l.take j) p.l[j] V hkv (by rw[bN,<-aS hjl];exact((uG _).2 (tC _ _)).trans hpp.2.1) hnv
    have HNW:Hid (n₀<=wr.heap.size):=aG hpp.2.2 HBJ.out.size;obtain⟨x,hx⟩:∃x,x=p.l[j]:=⟨_,rfl⟩
    rw[<-hx]at HRG hst HTK;have HRG2:Hid (wr.rangeAt g (j*4) (enV x)):=fun i v hv=>HRG.out i v hv
    have HST:=iH hst;have hjn':(j:Int)<n:=by omega
    clear hx hpp hst HRG;gi_wp2_with (first
     |(refine aBC rfl 35 _ rfl g (j*4) rfl (enV x) _ HRG2.out Tryz.underlying35 rfl aR ?_)
     |(refine aDP rfl 35 _ _ rfl wr.heap.size (aX x) rfl rfl 35 (aX gT) (aF _ _) aR rfl (eU x) ?_;intro w5 h5 k5;have HB5:Hid (Below wr.heap.size wr w5):=(Below.newly' _ _).trans (k5.below (aE _));have HX5:=iH h5;clear h5 k5)
     |(refine yV rfl 35 _ rfl wr.heap.size rfl 35 _ _ _ HX5.out Tryz.underlying35 rfl aR ?_))
    refine⟨trivial,fun h=>absurd h uHz,?_⟩;refine(HST.out w5 (HKA.out _ _ _ HKJ.out HB5.out) (aG HNW.out HB5.out.size)).mono ?_;rintro e W3 (⟨rfl,hk3,hb3,ht3⟩|⟨rfl,hx3⟩)
    ·have HK3:=iH hk3
     have HB3:=iH ((HBJ.out.trans (HB5.out.mono HNW.out)).trans hb3);have HT3:=iH ((HTJ.out.trans (TK.below HB5.out)).trans ht3);clear hk3 hb3 ht3;gi_wp2
     go_roundw
     case rel=>
      refine⟨j+1,by simp,by omega,?_,HB3,HT3⟩;rw[HTK.out,<-bN];exact HK3
     case measure=>simp[intOf];omega
    ·have HX3:=iH hx3
     clear hx3;gi_wp2
     go_ret;refine .inr ⟨rfl,p.l.take j++[x],?_,by rw[<-bN];exact HX3.out⟩;rw[<-HTK.out];exact tC _ _
   ·have hpp:=HP.out
    have e:p.l.take j=p.l:=aZ uAu;rw[e]at HKJ;clear hpp e;gi_wp2
    go_ret;exact .inl ⟨rfl,HKJ.out,HBJ.out,HTJ.out⟩
theorem aHb {X Y n₀:Nat} {LST:List Cel} {K Kx:List Cel->World->Prop} (hK:∀pre A B,K pre A->Below A.heap.size A B->K pre B) (h:Nat) (ih:aEC X Y K Kx LST n₀ h):aEC X Y K Kx LST n₀ (h+1):=by
 intro m p pre W hp hk hlen hn;obtain⟨w1,hw1⟩:∃w1,W.alloc (.cells (iC (h+1) p).toArray 86)=w1:=⟨_,rfl⟩
 obtain⟨hb1,hx1,hs1⟩:=sB hw1;obtain⟨hpb,hp1,hp16,ks,hph,hkl,hl,hks⟩:=hp;obtain⟨g,c,cur,fr,hpa,hcap,hS,hg,hcs⟩:=hph.pos hp1;have ca2:w1.cell? ⟨W.heap.size,2,none⟩=some (.slice (some ⟨g,0,none⟩) p.k c):=by rw[<-hpa];exact aK hx1 rfl
 have HX1:=iH hx1;obtain⟨n,hn'⟩:∃n,n=p.k:=⟨_,rfl⟩
 rw[<-hn']at ca2 hp16 hp1 hkl hcap;have HC:Hid (∀j (hj:j<ks.length),W.rangeAt g (j*4) (iC h ks[j])):=fun j hj=>sK (h:=h) hg hcs hj
 have HS:Hid (g<n₀):=hS;have HK1:=iH (hK _ _ _ hk hb1);have HB1:=iH (hb1.mono hn);have HT1:Hid (TK 86 W w1):=TK.below hb1;have HP:=iH (And.intro hkl (And.intro hlen (And.intro hn (And.intro hl hpb))));have HKS:=iH hks;have HSZ:Hid (w1.heap.size=W.heap.size+1):=hs1;have hn16:(n:Int)<=16:=by omega
 have HKA:=iH hK;clear hp1 hp16 hph hcap hS hg hcs hpa hpb hb1 hx1 hs1 hk hlen hn hkl hn' hl hks;refine iF Tryz.func105 rfl trivial ?_ rfl;simp only[Tryz.ntmps105,cA,aL,bG,Nat.reduceAdd,Nat.reduceSub,bY,bW,cM,cD,bD,bC];gi_wp2
 gi_loopw [12] (fun iv wr=>∃j:Nat,iv=.int .i64 (j:Int)/\j<=n/\Hid (K (pre++eV (ks.take j)) wr)/\Hid (Below n₀ W wr)/\Hid (TK 86 W wr)/\Hid (wr.heap[W.heap.size]? =some (.cells (iC (h+1) p).toArray 86 (0,0)))) (fun iv _=>n-(intOf iv).toNat)
 case atStart=>exact⟨0,rfl,aQ _,(by simpa[eV]using HK1),HB1,HT1,HX1⟩
 case round=>
  clear HK1 HB1 HT1 HX1;obtain⟨j,rfl,hj,HKJ,HBJ,HTJ,HXJ⟩:=hrel;by_cases hjn:j<n
  ·have hpp:=HP.out
   have hjl:j<ks.length:=by omega
   have HRG:=iH (fun j v hv=>(HBJ.out.cell (p:=⟨g,_+j,none⟩) HS.out).trans (HC.out _ hjl j v hv));have HSUM:=iH (oL hjl);have hle:=uY (ks:=ks) (j+1);have hjn':(j:Int)<n:=by omega
   have HND:=iH ((HKS.out _ (aO hjl)).2.low HBJ.out);have hcat:eV (ks.take (j+1))=eV (ks.take j)++ks[j].l:=by rw[aS hjl,kT,zK]
   have HCAT:=iH hcat;have HPRE:Hid (eV (ks.take (j+1))<+:p.l):=by
    show _<+:_;rw[hpp.2.2.2.1];refine⟨eV (ks.drop (j+1)),?_⟩;rw[<-kT,jB]
   obtain⟨y,hy⟩:∃y,y=ks[j]:=⟨_,rfl⟩
   rw[<-hy]at HRG HSUM HND HCAT;have HLY:Hid (pre++eV (ks.take j)++y.l<+:LST):=by
    show _<+:_;rw[bN,<-HCAT.out];exact((uG _).2 HPRE.out).trans hpp.2.1
   have HYO:=iH (aHO h y);have HRG2:Hid (wr.rangeAt g (j*4) (iC h y)):=fun i v hv=>HRG.out i v hv
   have HNW:Hid (n₀<=wr.heap.size):=aG hpp.2.2.1 HBJ.out.size;clear hpp hle hcat hy HRG;gi_wp2_with (first
    |(refine aBC rfl 86 _ rfl g (j*4) rfl (iC h y) _ HRG2.out Tryz.underlying86 rfl dY ?_)
    |(refine aDP rfl 86 _ _ rfl wr.heap.size (iC h y).toArray rfl rfl 86 qC (aF _ _) dY rfl HYO.out ?_;intro w5 h5 k5;have HB5:Hid (Below wr.heap.size wr w5):=(Below.newly' _ _).trans (k5.below (aE _));have HX5:=iH h5;clear h5 k5)
    |(refine yV rfl 86 _ rfl wr.heap.size rfl 86 _ _ _ HX5.out Tryz.underlying86 rfl dY ?_))
   refine⟨trivial,fun h=>absurd h uHz,?_⟩;have hk5:=HKA.out _ _ _ HKJ.out HB5.out;have ht5:TK 86 wr w5:=TK.below HB5.out;refine(ih (m-1) y (pre++eV (ks.take j)) w5 (HND.out.low (HB5.out.mono HNW.out)) hk5 HLY.out (aG HNW.out HB5.out.size)).mono ?_;rintro e W3 (⟨rfl,hk3,hb3,ht3⟩|⟨rfl,q,hq,hx3⟩)
   ·have HK3:=iH hk3
    have HB3:=iH ((HBJ.out.trans (HB5.out.mono HNW.out)).trans hb3);have HT3:=iH ((HTJ.out.trans ht5).trans ht3);have HX3:=iH (ht3 _ _ _ (ht5 _ _ _ HXJ.out));clear hk3 hb3 ht3 hk5 ht5;gi_wp2
    go_roundw
    case rel=>
     refine⟨j+1,by simp,by omega,?_,HB3,HT3,HX3⟩;rw[HCAT.out,<-bN];exact HK3
    case measure=>simp[intOf];omega
   ·have HX3:=iH hx3
    have HQ:=iH hq;clear hx3 hq hk5 ht5;gi_wp2
    go_ret;refine .inr ⟨rfl,eV (ks.take j)++q,?_,by rw[<-bN];exact HX3.out⟩;refine List.IsPrefix.trans ?_ HPRE.out;rw[HCAT.out];exact(uG _).2 HQ.out
  ·have hpp:=HP.out
   have e:eV (ks.take j)=p.l:=by rw[hpp.2.2.2.1,aZ uAu]
   rw[e]at HKJ;have cc3:wr.cell? ⟨W.heap.size,3,none⟩=some (.slice none 0 0):=by rw[<-hpp.2.2.2.2];exact aK HXJ.out rfl
   clear hpp e;obtain⟨Wo,hWo⟩:∃Wo,Wo=wr:=⟨_,rfl⟩
   subst hWo;gi_wp2
   gi_loopw [24] (fun iv wr=>iv=.int .i64 0/\Wo=wr) (fun _ _=>0)
   case atStart=>exact⟨rfl,rfl⟩
   case round=>
    obtain⟨rfl,rfl⟩:=hrel;gi_wp2
    go_ret;exact .inl ⟨rfl,HKJ.out,HBJ.out,HTJ.out⟩
theorem aHy {X Y n₀:Nat} {LST:List Cel} {K Kx:List Cel->World->Prop} (hstep:aHl X Y K Kx LST n₀) (hK:∀pre A B,K pre A->Below A.heap.size A B->K pre B):∀h,aEC X Y K Kx LST n₀ h
 |0=>aJr hstep hK
 |h+1=>aHb hK h (aHy hstep hK h)
theorem aJq (f:Value) (m:Nat) (W:World):CallsIn Fence.wide m Tryz.prog 105 #[.agg qC,f] W fun e W'=>e=.returned (.bool true)/\Below W.heap.size W W':=by
 obtain⟨w1,hw1⟩:∃w1,W.alloc (.cells #[.int .i64 0,.int .i64 0,.slice none 0 0,.slice none 0 0] 86)=w1:=⟨_,rfl⟩
 obtain⟨hb1,hx1,hs1⟩:=sB hw1;have ca2:w1.cell? ⟨W.heap.size,2,none⟩=some (.slice none 0 0):=aK hx1 rfl;have ca3:w1.cell? ⟨W.heap.size,3,none⟩=some (.slice none 0 0):=aK hx1 rfl;have HB1:=iH hb1;clear hb1 hx1 hs1;unfold qC;refine iF Tryz.func105 rfl trivial ?_ rfl;simp only[Tryz.ntmps105,cA,aL,bG,Nat.reduceAdd,Nat.reduceSub,bY,bW,cM,cD,bD,bC];gi_wp2
 gi_loopw [12] (fun iv wr=>iv=.int .i64 0/\w1=wr) (fun _ _=>0)
 case atStart=>exact⟨rfl,rfl⟩
 case round=>
  obtain⟨rfl,rfl⟩:=hrel;gi_wp2
  gi_loopw [24] (fun iv wr=>iv=.int .i64 0/\w1=wr) (fun _ _=>0)
  case atStart=>exact⟨rfl,rfl⟩
  case round=>
   obtain⟨rfl,rfl⟩:=hrel;gi_wp2
   go_ret;exact⟨rfl,HB1.out⟩
def fM (l:List Cel):List (Nat×Cel):=(List.range l.length).map fun i=>(i,l.getD i gT)
theorem aFj (l:List Cel):(fM l).length=l.length:=by simp[fM]
theorem aGR (l:List Cel) (i:Nat) (hi:i<l.length):(fM l)[i]? =some (i,l[i]):=by
 simp[fM,hi,List.getD_eq_getElem?_getD]
theorem tJ (l:List Cel) (x:Cel):fM (l++[x])=fM l++[(l.length,x)]:=by
 unfold fM;rw[aD,bM,aCm,bQ,qB];congr 1
 ·exact Ag1
 ·rw[List.getD_eq_getElem?_getD,List.getElem?_append_right (aE _),aB0]
  rfl
theorem uM {q l:List Cel} (h:q<+:l):fM q<+:fM l:=by
 obtain⟨r,rfl⟩:=h;have e:fM q=(fM (q++r)).take q.length:=by
  unfold fM;rw[<-uA,List.take_range,aD,gA uAu];exact Ag1
 rw[e];exact tC _ _
abbrev encP (x:Nat×Cel):Array Value:=#[Value.int .i64 (x.1:Int),Value.agg (aX x.2)]
structure aAe (RK IK:Nat->World->World->Prop) (n₀:Nat):Prop where
 new:∀{Y:Nat} {A B:World},Below A.heap.size A B->Y<=A.heap.size->IK Y A B
 put:∀{Y:Nat} {A:World} {u:Value} (v:Value),Boxed A (Y+1) 3 u->IK Y A (A.setCell ⟨Y+1,0,none⟩ v)
 low:∀{Y:Nat} {A B:World},RK Y A B->Below n₀ A B
 count:∀{Y:Nat} {A B:World} {u:Value},RK Y A B->Boxed A (Y+1) 3 u->Boxed B (Y+1) 3 u
 call:∀{Y:Nat} {A B:World} {u:Value},RK Y A B->Boxed A Y 157 u->Boxed B Y 157 u
 nodes:∀{Y:Nat} {A B:World},RK Y A B->TK 86 A B
theorem aL5 {Ts:TypeId->Prop} (n₀:Nat) (h1:¬Ts 3) (h2:¬Ts 157) (h3:¬Ts 86):aAe (fun Y A B=>KW Ts n₀ Y A B) (fun Y A B=>IKW Ts Y A B) n₀ where
 new:=fun h hY=>IKW.below h hY
 put:=fun {Y A u} v hb=>IKW.grown (eE A _ v) (zR _) hb.lt (fun cs T fr e=>by
  rw[show A.heap[Y+1]? =_ from hb]at e;simp only[cC,dU]at e;rw[<-e.2.1];exact h1)
 low:=fun h=>h.1
 count:=fun h hb=>h.2.2.1 _ _ _ _ hb h1
 call:=fun h hb=>h.2.2.1 _ _ _ _ hb h2
 nodes:=fun h i cs fr e=>h.2.2.1 i cs _ fr e h3
theorem aLQ {RK IK:Nat->World->World->Prop} (l n₀ Y:Nat) (LST:List Cel) (hk:aAe RK IK n₀) (hY:n₀<=Y) (hN:LST.length<=100000) (J Jx:List (Nat×Cel)->World->Prop) (hJ:∀s A B,J s A->IK Y A B->J s B)
  (hYl:∀m pre x V,J pre V->Y<=V.heap.size->pre++[x]<+:fM LST->YieldAt Fence.wide m Tryz.prog l (encP x) V fun e V'=>
   (e=.returned (.bool true)/\J (pre++[x]) V'/\RK Y V V')\/(e=.returned (.bool false)/\Jx (pre++[x]) V')):
  aHl (Y+1) Y (fun pre V=>Boxed V (Y+1) 3 (.int .i64 (pre.length:Int))/\Boxed V Y 157 (.func (.yield l) #[] #[])/\J (fM pre) V) (fun pre V=>Jx (fM pre) V) LST n₀:=by
 intro m pre x V ⟨hX,hYb,hJJ⟩ hpre hn;have hlen:pre.length<LST.length:=by have:=hpre.length_le;rw[aD,bM]at this;omega
 have hpl:fM pre++[(pre.length,x)]<+:fM LST:=by rw[<-tJ];exact uM hpre
 obtain⟨k,hkk⟩:∃k,k=pre.length:=⟨_,rfl⟩
 rw[<-hkk]at hX hlen hpl;have hlt:Y+1<V.heap.size:=hX.lt;obtain⟨V1,hV1⟩:∃V1,V.alloc (.cells (aX x) 35)=V1:=⟨_,rfl⟩
 have hb1:Below V.heap.size V V1:=by rw[<-hV1];exact Below.newly' _ _
 have hv1:V1.heap[V.heap.size]? =some (.cells (aX x) 35 (0,0)):=by rw[<-hV1];exact aF _ _
 have hX0:Boxed V1 (Y+1) 3 (.int .i64 (k:Int)):=(hb1.block _ hlt).trans hX;have hY0:Boxed V1 Y 157 (.func (.yield l) #[] #[]):=(hb1.block _ uAu).trans hYb;have hJ0:J (fM pre) V1:=hJ _ _ _ hJJ (hk.new hb1 uAu);have hs1:V1.heap.size=V.heap.size+1:=by rw[<-hV1];simp
 have cX:=hX0.cell;have fX:=hX0.frozen;obtain⟨V2,hV2⟩:∃V2,V2=V1.setCell ⟨Y+1,0,none⟩ (.int .i64 ((k:Int)+1)):=⟨_,rfl⟩
 have hX1:Boxed V2 (Y+1) 3 (.int .i64 ((k:Int)+1)):=by rw[hV2];exact hX0.set _
 have hY1:Boxed V2 Y 157 (.func (.yield l) #[] #[]):=by rw[hV2];exact hY0.other (B':=Y+1) uAu _
 have cY1:=hY1.cell;have cX1:=hX1.cell;have hgs:V1.grownBy V2 (some (Y+1)):=by rw[hV2];exact eE V1 (Y+1) (.int .i64 ((k:Int)+1))
 have hb2:Below n₀ V V2:=(hb1.mono hn).trans ((aY n₀ V1).grown hgs uAu (fun k e=>by cases e;omega));have ht2:TK 86 V V2:=(TK.below hb1).trans (TK.grown hgs fun X e cs fr h'=>by
  obtain rfl:=aN e;rw[show V1.heap[Y+1]? =_ from hX0]at h';simp only[cC,dU]at h';exact absurd h'.2.1 uAv)
 have hv2:V2.heap[V.heap.size]? =some (.cells (aX x) 35 (0,0)):=(hgs.block _ uAu uDv).trans hv1;have hsz:V2.heap.size=V1.heap.size:=by rw[hV2];simp[World.setCell]
 have hJ2:J (fM pre) V2:=by rw[hV2];exact hJ _ _ _ hJ0 (hk.put _ hX0)
 obtain⟨fn,tmps,assign,body,hy,hR⟩:=hYl (m-1) (fM pre) (k,x) V2 hJ2 uAu hpl;dsimp only[encP]at hy;have HB2:=iH hb2;have HT2:=iH ht2;have HX1:=iH hX1;have HY1:=iH hY1;have HV2:=iH hv2;have HKK:=iH hkk;have HKE:=iH hk;have hk5:(k:Int)<=100000:=by omega
 rw[hV2]at hy cY1 cX1 HV2 hR;clear hX hYb hJJ hlen hpl hpre hX1 hY1 hgs hb1 hb2 ht2 hsz hs1 hkk hJ hJ0 hJ2 hYl hX0 hY0 hv1 hv2 hk hlt hn;refine iF Tryz.func106 rfl trivial ?_ rfl;simp only[Tryz.ntmps106,cA,aL,bG,Nat.reduceAdd,Nat.reduceSub,bY,bW,cM,cD,bD,bC];gi_wp2_with (first
  |(rw[hV1])
  |(refine yV rfl 35 _ rfl V.heap.size rfl 35 _ _ _ HV2.out Tryz.underlying35 rfl aR ?_))
 refine⟨fun h=>absurd h uHz,?_⟩;refine hR.mono ?_;rintro e W3 (⟨rfl,hj3,hks⟩|⟨rfl,hjx⟩)
 ·have HJ3:=iH hj3
  rw[<-hV2]at hks;have HKS:=iH hks;clear hj3 hks;gi_wp2
  go_ret;have hk:=HKK.out;refine .inl ⟨rfl,⟨?_,HKE.out.call HKS.out HY1.out,?_⟩,HB2.out.trans (HKE.out.low HKS.out),HT2.out.trans (HKE.out.nodes HKS.out)⟩
  ·have e:((pre++[x]).length:Int)=(k:Int)+1:=by rw[aD,bM];omega
   rw[e];exact HKE.out.count HKS.out HX1.out
  ·rw[tJ,<-hk]
   exact HJ3.out
 ·have HJ3:=iH hjx
  clear hjx;gi_wp2
  go_ret;have hk:=HKK.out;refine .inr ⟨rfl,?_⟩;rw[tJ,<-hk];exact HJ3.out
theorem aMv {RK IK:Nat->World->World->Prop} (Bs n₀:Nat) (hkk:aAe RK IK n₀) (c:Array Value) (lst:List Cel) (w:World) (hn₀:n₀<=w.heap.size) (hX:w.heap[Bs]? =some (.cells c 88 (0,0))) (hv:dS (fun g=>g<n₀) w c lst) (hN:lst.length<=100000):
  aIb Tryz.prog 104 #[.pointer (some ⟨Bs,0,none⟩)] encP RK IK (fun ys=>ys=fM lst) (fun pre=>pre<+:fM lst) (fun pre=>pre<+:fM lst) w:=by
 intro l J Jx W hW hA hY h0 m;have hst:=aLQ l n₀ W.heap.size lst hkk (aG hn₀ hW.size) hN J Jx hA hY;have hKK:∀pre A B,(Boxed A (W.heap.size+1) 3 (.int .i64 (pre.length:Int))/\Boxed A W.heap.size 157 (.func (.yield l) #[] #[])/\J (fM pre) A)->Below A.heap.size A B->
   (Boxed B (W.heap.size+1) 3 (.int .i64 (pre.length:Int))/\Boxed B W.heap.size 157 (.func (.yield l) #[] #[])/\J (fM pre) B):=fun pre A B ⟨h1,h2,h3⟩ hb=>
  ⟨(hb.block _ h1.lt).trans h1,(hb.block _ h2.lt).trans h2,hA _ _ _ h3 (hkk.new hb (mQ h2.lt))⟩
 obtain⟨W2,hW2⟩:∃W2,(W.alloc (.cells #[.func (.yield l) #[] #[]] 157)).alloc (.cells #[.int .i64 0] 3)=W2:=⟨_,rfl⟩
 obtain⟨hb2,hx2,hy2,hs2⟩:=eR hW2;have hI2:Boxed W2 (W.heap.size+1) 3 (.int .i64 0):=hy2;have hF2:Boxed W2 W.heap.size 157 (.func (.yield l) #[] #[]):=hx2;have cI:=hI2.cell;have fI:=hI2.frozen;obtain⟨W3,hW3⟩:∃W3,W3=W2.setCell ⟨W.heap.size+1,0,none⟩ (.int .i64 0):=⟨_,rfl⟩
 have HK3:Hid (Boxed W3 (W.heap.size+1) 3 (.int .i64 (([]:List Cel).length:Int))/\Boxed W3 W.heap.size 157 (.func (.yield l) #[] #[])/\J (fM []) W3):=by
  show _/\_/\_;rw[hW3];exact⟨hI2.set _,hF2.other uAu _,hA _ _ _ (hA _ _ _ h0 (hkk.new hb2 (aE _))) (hkk.put _ hI2)⟩
 have hBl:=(gZ hX)
 have hX2:=(hb2.block _ (cQ hBl hW.size)).trans ((hW.block _ hBl).trans hX);have HX3:Hid (W3.heap[Bs]? =some (.cells c 88 (0,0))):=by
  show _=_;rw[hW3];exact(pY _ _ _ _ uEw).trans hX2
 have hb3:Below n₀ W W3:=by
  rw[hW3];exact(hb2.mono (aG hn₀ hW.size)).setCell (p:=⟨W.heap.size+1,0,none⟩) (by show n₀<=W.heap.size+1;have:=hW.size;omega) _
 have HV3:=iH (hv.low ((hW.mono hn₀).trans hb3));have HCS:=iH hv.size;have HN3:Hid (n₀<=W3.heap.size):=aG (aG hn₀ hW.size) hb3.size;have HST:=iH hst;have HKA:=iH hKK;clear hb2 hx2 hy2 hs2 hst hKK hX hv hN hA hY h0 hI2 hF2 hBl hX2 hb3 hkk;refine iF Tryz.func104 rfl trivial ?_ rfl;simp only[Tryz.ntmps104,cA,aL,bG,Nat.reduceAdd,Nat.reduceSub,bY,bW,cM,cD,bD,bC];gi_wp2_with (first
  |(rw[<-hW3];clear hW3;refine yV rfl 86 _ rfl Bs rfl 88 _ _ _ HX3.out Tryz.underlying86 rfl (by rw[HCS.out];exact dY) ?_))
 refine⟨trivial,fun h=>absurd h uHz,?_⟩;rcases HV3.out with⟨rfl,rfl⟩|⟨h,p,rfl,rfl,hp,_⟩
 ·refine(aJq _ _ _).mono ?_
  rintro e W4 ⟨rfl,hb4⟩;have h4:=HKA.out _ _ _ HK3.out hb4;gi_wp2
  go_end0;exact⟨⟨_,rfl⟩,.inl ⟨_,rfl,h4.2.2⟩⟩
 ·refine(aHy HST.out HKA.out h (m-1) p [] W3 hp HK3.out uBu HN3.out).mono ?_
  rintro e W4 (⟨rfl,hk4,_⟩|⟨rfl,q,hq,hx4⟩)
  ·gi_wp2
   go_end0;exact⟨⟨_,rfl⟩,.inl ⟨_,rfl,hk4.2.2⟩⟩
  ·gi_wp2
   go_end0;exact⟨⟨_,rfl⟩,.inr ⟨_,uM hq,hx4⟩⟩
theorem aIL (n:Nat) (c:Array Value) (w:World):
  CallsIn Fence.wide n Tryz.prog 78 #[.agg c] w fun e w'=>e=.returned (.func (.func 104) #[] #[.pointer (some ⟨w.heap.size,0,none⟩)])/\w'=w.alloc (.cells c 88):=by
 refine iF Tryz.func78 rfl trivial ?_ rfl;simp only[Tryz.ntmps78,cA,aL,bG,Nat.reduceAdd,Nat.reduceSub,bY,bW,cM,cD,bD,bC];gi_wp2
 go_ret;exact⟨rfl,rfl⟩
end Go.Proofs.YtengibnpebfblaaGreatDoor
